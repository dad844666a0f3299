import PyProof.Rows.All
import Wide.All
import OpenK.AllK
import Wide.FinOn
import Lean
import PyProof.EqAt
import PyProof.EqKinds
import PyProof.TupleCall
import PyProof.NeKinds
import PyProof.ReprRoads
import PyProof.ReprBulk
import PyProof.SumWalk
import PyProof.FString5
import PyProof.StrBlock2
import PyProof.StrBlockI
import PyProof.StrBlockH
import PyProof.StrWalks
import PyProof.StrLawsIn
import PyProof.AutoListH
import PyProof.CompUse
import PyProof.ListRange
import PyProof.CallFns
import PyProof.ListTruth
import PyProof.Rows.Range3
import PyProof.SeqI3
import KE.KRevSl
import PyProof.DictIter
import PyProof.DictWalks
import PyProof.DictCompW
import PyProof.Cells
import OpenK.KOwn
import PyProof.ExcClass3
import PyProof.ExcInit
import PyProof.ExcBaseAll.ValueError
import PyProof.ExcArgsOwn
import PyProof.ExcAttrAll.ValueError
import PyProof.Rows.SortWalk
import PyProof.Rows.SortStr
import PyProof.MeetsDict
import PyProof.DictUpdate
import PyProof.FactsAll.dict_3
import KE.KDictList
import PyProof.FactsAll.dict_4
import KE.KDictSum
import PyProof.IsiH_list
import PyProof.Rows.Exc
import KE.KDictOf
import PyProof.SetKind
import PyProof.Rows.SetFrom
import PyProof.FactsAll.set_1
import PyProof.FactsAll.set_2
import KE.KSortTup
import KE.KItemsList
import PyProof.Rows.SortRev
import PyProof.Rows.StrCase
import PyProof.Rows.StrLen
import KE.KPairComp
import KE.KMinKey
import PyProof.CallStr
import PyProof.StrCalls2
import PyProof.StrLawsTight
import PyProof.FString
import PyProof.StrBlock
import PyProof.Conv_int
import KE.KUnpack
import PyProof.Rows.TupMore
import PySem.Challenge.RW_pickboard_k42_mended_pick_by_pick
set_option Elab.async false
set_option linter.all false
set_option maxRecDepth 100000
local macro_rules | `(tactic| omega) => `(tactic| lia)
namespace L2
open PySem PySem.Spec PyProof.Rows
abbrev Key:=Sum Int Str
def yd:Key -> Value -> Bool
  | .inl k,v=>Value.isInt k v
  | .inr x,v=>Value.isStrOf x v
def zc5 (w:World):Key -> Int
  | .inl k=>hashInt k
  | .inr x=>hashStr w x
theorem qv:∀ {k:Key} {v:Value},yd k v = true -> (∃ i t,k = Sum.inl i /\ v = Value.int i t) \/ (∃ x t,k = Sum.inr x /\ v = Value.str x t)
  | .inl i,v,h=>by
    obtain ⟨t,e⟩:=Value.isInt_shape (k:=i) (v:=v) h
    exact .inl ⟨i,t,rfl,e⟩
  | .inr x,v,h=>by
    obtain ⟨t,e⟩:=Value.isStrOf_shape (x:=x) (v:=v) h
    exact .inr ⟨x,t,rfl,e⟩
theorem Vt (i:Int) (t:Tok):yd (.inl i) (.int i t) = true:=by simp [yd,Value.isInt]
theorem Vs (x:Str) (t:Tok):yd (.inr x) (.str x t) = true:=by simp [yd,Value.isStrOf]
theorem zbu (a b:Int):decide ((Sum.inl a:Key) = Sum.inl b) = (a == b):=by
  by_cases e:a = b
  · subst e;simp
  · have h:¬ (Sum.inl a:Key) = Sum.inl b:=fun q=>e (Sum.inl.inj q)
    rw [decide_eq_false h]
    exact (beq_eq_false_iff_ne.mpr e).symm
theorem zbr (a b:Str):decide ((Sum.inr a:Key) = Sum.inr b) = decide (a = b):=by
  by_cases e:a = b
  · subst e;simp
  · have h:¬ (Sum.inr a:Key) = Sum.inr b:=fun q=>e (Sum.inr.inj q)
    rw [decide_eq_false h,decide_eq_false e]
theorem zbt (a:Int) (b:Str):decide ((Sum.inl a:Key) = Sum.inr b) = false:=decide_eq_false (fun q=>nomatch q)
theorem zbs (a:Str) (b:Int):decide ((Sum.inr a:Key) = Sum.inl b) = false:=decide_eq_false (fun q=>nomatch q)
def zC (prog:Program) (w:World):PySem.KeyKind prog w Key where
  is:=yd
  hash:=zc5 w
  inj:=fun v a b ha hb=>by
    rcases qv ha with ⟨i,t,rfl,rfl⟩ | ⟨x,t,rfl,rfl⟩
    · rcases qv hb with ⟨j,u,rfl,e⟩ | ⟨y,u,rfl,e⟩
      · injection e with e1 _;rw [e1]
      · exact nomatch e
    · rcases qv hb with ⟨j,u,rfl,e⟩ | ⟨y,u,rfl,e⟩
      · exact nomatch e
      · injection e with e1 _;rw [e1]
  byValue:=fun k v h=>by
    rcases qv h with ⟨i,t,rfl,rfl⟩ | ⟨x,t,rfl,rfl⟩ <;> rfl
  pyHash:=fun hv h=>by
    rcases qv hv with ⟨i,t,rfl,rfl⟩ | ⟨x,t,rfl,rfl⟩
    · exact wpAny_pyHash_int h
    · exact wpAny_pyHash_str h
  eqBool:=fun hu hv h=>by
    rcases qv hu with ⟨i,t,rfl,rfl⟩ | ⟨x,t,rfl,rfl⟩
    · rcases qv hv with ⟨j,u,rfl,rfl⟩ | ⟨y,u,rfl,rfl⟩
      · rw [zbu] at h;exact wpAny_eqBool_int h
      · rw [zbt] at h;exact SeqAt.EqAt.int_str i t y u _ _ _ _ h
    · rcases qv hv with ⟨j,u,rfl,rfl⟩ | ⟨y,u,rfl,rfl⟩
      · rw [zbs] at h;exact SeqAt.EqAt.str_int x t j u _ _ _ _ h
      · rw [zbr] at h;exact wpAny_eqBool_str h
  «strs»:=fun k x t v h=>by
    rcases qv h with ⟨i,u,rfl,e⟩ | ⟨y,u,rfl,e⟩
    · exact nomatch e
    · injection e with e1 _
      subst e1
      cases v <;> rfl
theorem Ji (prog:Program) (w:World) (k:Key) (v:Value):(zC prog w).is k v = yd k v:=rfl
theorem Qt (prog:Program) (w:World) (i:Int) (t:Tok):(zC prog w).is (.inl i) (.int i t) = true:=Vt i t
theorem Qs (prog:Program) (w:World) (x:Str) (t:Tok):(zC prog w).is (.inr x) (.str x t) = true:=Vs x t
inductive V where
  | non | bl (b:Bool) | int (i:Int) | str (x:Str) | byt (b:Array UInt8) | flt (b:UInt64) | ref (a:Addr) | ty (n:String)
  deriving DecidableEq
def RelV:V -> Value -> Prop
  | .non,u=>u = Value.none
  | .bl b,u=>u = Value.bool b
  | .int i,u=>∃ t,u = Value.int i t
  | .str x,u=>∃ t,u = Value.str x t
  | .byt b,u=>∃ t,u = Value.bytes b t
  | .flt b,u=>∃ t,u = Value.float b t
  | .ref a,u=>u = Value.ref a
  | .ty n,u=>u = Value.type n
abbrev Vals:List V -> List Value -> Prop:=Paired RelV
theorem Vals.length {xs:List V} {us:List Value} (r:Vals xs us):xs.length = us.length:=Paired.length r
theorem Vals.get:∀ {xs:List V} {us:List Value} {i:Nat} {x:V},Vals xs us -> xs[i]? = some x -> ∃ u,us[i]? = some u /\ RelV x u
  | _,_,_,_,.nil,e=>by simp at e
  | _,_,0,_,.cons r _,e=>by simp at e;subst e;exact ⟨_,rfl,r⟩
  | _,_,i + 1,x,.cons _ t,e=>by
    obtain ⟨u,h1,h2⟩:=Vals.get (i:=i) (x:=x) t (by simpa using e)
    exact ⟨u,by simpa using h1,h2⟩
theorem Vals.set {x:V} {u:Value} (r:RelV x u):∀ {xs:List V} {us:List Value} (i:Nat),Vals xs us -> Vals (xs.set i x) (us.set i u)
  | _,_,_,.nil=>.nil
  | _,_,0,.cons _ t=>.cons r t
  | _,_,i + 1,.cons q t=>.cons q (Vals.set r i t)
theorem Vals.append:∀ {xs ys:List V} {us ws:List Value},Vals xs us -> Vals ys ws -> Vals (xs ++ ys) (us ++ ws)
  | _,_,_,_,.nil,s=>s
  | _,_,_,_,.cons r t,s=>.cons r (Vals.append t s)
theorem Vals.take:∀ {xs:List V} {us:List Value} (n:Nat),Vals xs us -> Vals (xs.take n) (us.take n)
  | _,_,0,_=>.nil
  | _,_,_ + 1,.nil=>.nil
  | _,_,n + 1,.cons r t=>.cons r (Vals.take n t)
theorem Vals.drop:∀ {xs:List V} {us:List Value} (n:Nat),Vals xs us -> Vals (xs.drop n) (us.drop n)
  | _,_,0,r=>r
  | _,_,_ + 1,.nil=>.nil
  | _,_,n + 1,.cons _ t=>Vals.drop n t
def RelO:Option V -> Option Value -> Prop
  | some v,some u=>RelV v u
  | none,none=>True
  | _,_=>False
def KV {κ:Type}:List (κ × V) -> List (κ × Value) -> Prop:=Paired fun (p:κ × V) (q:κ × Value)=>p.1 = q.1 /\ RelV p.2 q.2
def kV:Key -> V
  | .inl i=>.int i
  | .inr x=>.str x
inductive HO where
    | lst (xs:List V)
    | tup (xs:List V)
    | dK (kvs:List (Key × V)) | dT (kvs:List (List Key × V))
    | set (S:Int -> Bool) (n:Nat)
    | ins (C dx:Addr) (fs:List (Str × V))
    | own (x:Addr)
    | xd (fs:List (Str × V))
    | met (f x:Addr)
    | rng (lo hi:Int)
    | frz (o:Obj) (u:HO)
    | tbl (ps:Array Value)
    | ext (φ:Heap -> Prop)
abbrev Hp:=Addr -> Option HO
def upd (H:Hp) (a:Addr) (o:HO):Hp:=fun b=>if b = a then some o else H b
theorem zb {H:Hp} {a:Addr} {o:HO}:upd H a o a = some o:=by unfold upd;rw [if_pos rfl]
theorem zi {H:Hp} {a b:Addr} {o:HO} (h:b ≠ a):upd H a o b = H b:=by unfold upd;rw [if_neg h]
theorem J5 {H:Hp} {a b:Addr} {o u:HO} (h:H a = some o) (h':H b = some u) (d:o ≠ u):a ≠ b:=by
  intro e;subst e;rw [h] at h';exact d (Option.some.inj h')
theorem zf {H:Hp} {a b:Addr} {o:HO} (h:H a = some o) (h':H b = none):a ≠ b:=by
  intro e;subst e;rw [h] at h';cases h'
section
variable (P:Program) (w:World)
def TupX (h:Heap) (a:Addr) (its:Array Value):Prop:=IsTup h a its /\ ∃ o,h.get? a = some o /\ o.dict = none
theorem TupX.by {h:Heap} {a:Addr} {its:Array Value} {n:Nat} (e:h.get? a = some { cls:=.type "tuple",data:=.seq its n }):TupX h a its:=⟨⟨_,e,rfl,n,rfl⟩,_,e,rfl⟩
def ObjOk (H:Hp) (h:Heap) (a:Addr):HO -> Prop
  | .lst xs=>xs.length <= sizeLine /\ ∃ (its:List Value) (n:Nat),Vals xs its /\ h.get? a = some { cls:=.type "list",data:=.seq its.toArray n }
  | .tup xs=>xs.length <= sizeLine /\ ∃ its:List Value,Vals xs its /\ TupX h a its.toArray
  | .dK kvs=>kvs.length <= sizeLine /\ (a == sysModules) = false /\ ∃ vs,KV kvs vs /\ h.DictOf (zC P w) a vs
  | .dT kvs=>kvs.length <= sizeLine /\ (a == sysModules) = false /\ ∃ xs:List (List Key × Addr × Value),
      Paired (fun (p:List Key × V) (q:List Key × Addr × Value)=>p.1 = q.1 /\ H q.2.1 = some (.tup (p.1.map kV)) /\ RelV p.2 q.2.2) kvs xs /\
      ∃ o es ep,h.get? a = some o /\ o.ExactDict /\ o.data = .dict es ep /\ es.toList = xs.map (entryOfKey (tupleKind (zC P w))) /\ (xs.map (·.1)).Nodup
  | .set S n=>h.SetOf (intKind P w) a S n
  | .ins C dx fs=>H dx = some (.own a) /\ fs.length <= 1000 /\ dx ≠ a /\ h.get? a = some (PySem.W.instObj C dx) /\
      ∃ mA,h.Ns1 dx mA /\ (∀ f,RelO (fs.lookup f) (mA f)) /\ PySem.Within mA (fs.map (·.1))
  | .own _=>∃ o,h.get? a = some o
  | .xd fs=>∃ mA,h.Ns1 a mA /\ ∀ f,RelO (fs.lookup f) (mA f)
  | .rng lo hi=>∃ t u v,h.get? a = some { cls:=.type "range",data:=.fields #[.int lo t,.int hi u,.int 1 v] }
  | .frz o u=>h.get? a = some o /\ ObjOk H h a u
  | .tbl ps=>h.get? a = some { cls:=.none,data:=.fields ps }
  | .met f x=>h.get? a = some (PySem.W.methodObj (.ref f) (.ref x))
  | .ext φ=>φ h /\ (∃ o,h.get? a = some o) /\ ∀ h1 h2:Heap,φ h1 -> (∀ o,h1.get? a = some o -> h2.get? a = some o) -> φ h2
def HOk (H:Hp) (h:Heap):Prop:=∀ a o,H a = some o -> ObjOk P w H h a o
end
section
variable {P:Program} {w:World} {H H':Hp} {h h':Heap} {a:Addr} {o:HO}
theorem ObjOk.lt (x:ObjOk P w H h a o):a < h.objs.size:=by
  cases o with
  | lst xs=>obtain ⟨_,_,_,_,e⟩:=x;exact Heap.lt_size e
  | tup xs=>obtain ⟨_,_,_,p⟩:=x;exact p.1.lt
  | dK kvs=>obtain ⟨_,_,_,_,o,_,_,e,_⟩:=x;exact Heap.lt_size e
  | dT kvs=>obtain ⟨_,_,_,_,o,_,_,e,_⟩:=x;exact Heap.lt_size e
  | set S n=>obtain ⟨o,_,_,_,e,_⟩:=x;exact Heap.lt_size e
  | ins C dx fs=>obtain ⟨_,_,_,e,_⟩:=x;exact Heap.lt_size e
  | own y=>obtain ⟨_,e⟩:=x;exact Heap.lt_size e
  | xd fs=>obtain ⟨_,⟨_,_,_,e,_⟩,_⟩:=x;exact Heap.lt_size e
  | rng lo hi=>obtain ⟨_,_,_,e⟩:=x;exact Heap.lt_size e
  | frz ob u=>obtain ⟨e,_⟩:=x;exact Heap.lt_size e
  | tbl ps=>exact Heap.lt_size (show h.get? a = some _ from x)
  | met f y=>exact Heap.lt_size (show h.get? a = some _ from x)
  | ext φ=>obtain ⟨_,⟨_,e⟩,_⟩:=x;exact Heap.lt_size e
theorem Paired.mapP {α β:Type} {F G:α -> β -> Prop}:∀ {l₁:List α} {l₂:List β},Paired F l₁ l₂ -> (∀ a b,F a b -> G a b) -> Paired G l₁ l₂
  | _,_,.nil,_=>.nil
  | _,_,.cons r t,f=>.cons (f _ _ r) (Paired.mapP t f)
theorem ObjOk.stay (x:ObjOk P w H h a o) (k:∀ b u,(b = a \/ H b = some (.own a)) -> h.get? b = some u -> h'.get? b = some u)
    (ho:∀ b,H b = some (.own a) -> H' b = some (.own a)) (ht:∀ b xs,H b = some (.tup xs) -> H' b = some (.tup xs)):ObjOk P w H' h' a o:=by
  induction o with
  | lst xs=>obtain ⟨z,its,n,r,e⟩:=x;exact ⟨z,its,n,r,k _ _ (.inl rfl) e⟩
  | tup xs=>obtain ⟨z,its,r,⟨ob,e,c⟩,o2,e2,dn⟩:=x;exact ⟨z,its,r,⟨ob,k _ _ (.inl rfl) e,c⟩,o2,k _ _ (.inl rfl) e2,dn⟩
  | dK kvs=>obtain ⟨z,y,vs,r,ob,es,ep,e,c⟩:=x;exact ⟨z,y,vs,r,ob,es,ep,k _ _ (.inl rfl) e,c⟩
  | dT kvs=>
    obtain ⟨z,y,xs,r,ob,es,ep,e,c⟩:=x
    exact ⟨z,y,xs,Paired.mapP r fun p q z=>⟨z.1,ht _ _ z.2.1,z.2.2⟩,ob,es,ep,k _ _ (.inl rfl) e,c⟩
  | set S n=>obtain ⟨ob,es,ep,t,e,c⟩:=x;exact ⟨ob,es,ep,t,k _ _ (.inl rfl) e,c⟩
  | ins C dx fs=>
    obtain ⟨d,z,ne,e,mA,⟨od,es,ep,e2,c⟩,r⟩:=x
    exact ⟨ho _ d,z,ne,k _ _ (.inl rfl) e,mA,⟨od,es,ep,k _ _ (.inr d) e2,c⟩,r⟩
  | own y=>obtain ⟨ob,e⟩:=x;exact ⟨ob,k _ _ (.inl rfl) e⟩
  | xd fs=>obtain ⟨mA,⟨od,es,ep,e,c⟩,r⟩:=x;exact ⟨mA,⟨od,es,ep,k _ _ (.inl rfl) e,c⟩,r⟩
  | rng lo hi=>obtain ⟨t,u,v,e⟩:=x;exact ⟨t,u,v,k _ _ (.inl rfl) e⟩
  | frz ob u ih=>obtain ⟨e,q⟩:=x;exact ⟨k _ _ (.inl rfl) e,ih q⟩
  | tbl ps=>
    have e:h.get? a = some { cls:=.none,data:=.fields ps }:=x
    show h'.get? a = some { cls:=.none,data:=.fields ps }
    exact k a _ (.inl rfl) e
  | met f y=>
    have e:h.get? a = some (PySem.W.methodObj (.ref f) (.ref y)):=x
    show h'.get? a = some (PySem.W.methodObj (.ref f) (.ref y))
    exact k a _ (.inl rfl) e
  | ext φ=>obtain ⟨p,⟨o,e⟩,st⟩:=x;exact ⟨st _ _ p fun o q=>k _ _ (.inl rfl) q,⟨o,k _ _ (.inl rfl) e⟩,st⟩
theorem HOk.lt (x:HOk P w H h) (e:H a = some o):a < h.objs.size:=(x a o e).lt
theorem HOk.fresh (x:HOk P w H h) (e:h.objs.size <= a):H a = none:=by
  cases q:H a with
  | none=>rfl
  | some u=>exact absurd (Nat.lt_of_lt_of_le (x.lt q) e) (Nat.lt_irrefl _)
theorem HOk.kept (x:HOk P w H h) (k:∀ b u,h.get? b = some u -> h'.get? b = some u):HOk P w H h':=fun a o e=>
  (x a o e).stay (fun b u _ q=>k b u q) (fun _ q=>q) fun _ _ q=>q
theorem HOk.laid (x:HOk P w H h) (k:∀ b u,h.get? b = some u -> h'.get? b = some u) (hp:h.objs.size <= a) (new:ObjOk P w (upd H a o) h' a o):HOk P w (upd H a o) h':=fun b u e=>by
  have hn:=x.fresh hp
  by_cases hb:b = a
  · subst hb;rw [zb] at e;cases e;exact new
  · rw [zi hb] at e
    exact (x b u e).stay (fun c v _ q=>k c v q) (fun c q=>by rw [zi (zf q hn)];exact q) fun c xs q=>by rw [zi (zf q hn)];exact q
end
def Rd (H:Hp) (a:Addr) (u:HO):Prop:=H a = some u \/ ∃ o,H a = some (.frz o u)
theorem Rd.ok {P:Program} {w:World} {H:Hp} {h:Heap} {a:Addr} {u:HO} (r:Rd H a u) (x:HOk P w H h):ObjOk P w H h a u:=by
  rcases r with r | ⟨o,r⟩
  · exact x a u r
  · obtain ⟨_,q⟩:=x a _ r
    exact q
def Mut:Option HO -> Prop
  | some (.lst _)=>True
  | some (.dK _)=>True
  | some (.dT _)=>True
  | some (.set _ _)=>True
  | some (.ins _ _ _)=>True
  | some (.ext _)=>True
  | _=>False
section
variable {P:Program} {w:World} {H:Hp} {h h':Heap} {x e:Addr} {o':HO}
theorem HOk.write (ok:HOk P w H h) (mu:Mut (H x)) (he:e = x \/ H e = some (.own x)) (k:∀ b u,b ≠ e -> h.get? b = some u -> h'.get? b = some u) (heo:∃ u,h'.get? e = some u)
    (new:ObjOk P w (upd H x o') h' x o'):HOk P w (upd H x o') h':=fun b u q=>by
  have nown:∀ c y,H c = some (.own y) -> c ≠ x:=fun c y r z=>by subst z;rw [r] at mu;exact mu
  have ntup:∀ c xs,H c = some (.tup xs) -> c ≠ x:=fun c xs r z=>by subst z;rw [r] at mu;exact mu
  by_cases hb:b = x
  · subst hb;rw [zb] at q;cases q;exact new
  · rw [zi hb] at q
    by_cases hbe:b = e
    · have q':H b = some (.own x):=by
        rcases he with z | z
        · exact absurd (hbe.trans z) hb
        · rw [hbe];exact z
      rw [q] at q';cases q'
      obtain ⟨v,hv⟩:=heo
      exact ⟨v,by rw [hbe];exact hv⟩
    · refine (ok b u q).stay (fun c v hc r=>k c v ?_ r) (fun c r=>by rw [zi (nown c b r)];exact r) fun c xs r=>by rw [zi (ntup c xs r)];exact r
      rcases hc with rfl | hc
      · exact hbe
      · rintro rfl
        rcases he with z | z
        · exact nown c b hc z
        · rw [hc] at z;cases z;exact hb rfl
end
structure Un (fs ex:List Addr) (H H':Hp) (h h':Heap):Prop where
  keep:∀ b o,h.get? b = some o -> H b = none -> b ∉ fs -> b ∉ ex -> h'.get? b = some o
  slot:∀ b o,h.get? b = some o -> H b = none -> b ∈ fs -> b ∉ ex -> ∃ sl,h'.get? b = some { o with slots:=sl }
  free:∀ b o,h.get? b = some o -> H b = none -> b ∉ ex -> H' b = none
  there:∀ b o,h.get? b = some o -> b ∉ ex -> ∃ o',h'.get? b = some o'
  tups:∀ b xs,H b = some (.tup xs) -> H' b = some (.tup xs)
  frzs:∀ b o u,H b = some (.frz o u) -> H' b = some (.frz o u)
  tbls:∀ b ps,H b = some (.tbl ps) -> ∃ more,H' b = some (.tbl (ps ++ more))
section
variable {fs fs' ex ex':List Addr} {H H1 H2:Hp} {h h1 h2 h':Heap} {a x e:Addr} {o:HO}
theorem Un.any (u:Un fs ex H H1 h h1) {b:Addr} {ob:Obj} (q:h.get? b = some ob) (n:H b = none) (hx:b ∉ ex):∃ sl,h1.get? b = some { ob with slots:=sl }:=by
  by_cases hb:b ∈ fs
  · exact u.slot b ob q n hb hx
  · exact ⟨ob.slots,u.keep b ob q n hb hx⟩
theorem Un.kept (k:∀ b u,h.get? b = some u -> h'.get? b = some u):Un fs ex H H h h':=
  ⟨fun b ob q _ _ _=>k b ob q,fun b ob q _ _ _=>⟨ob.slots,k b ob q⟩,fun _ _ _ n _=>n,fun b ob q _=>⟨ob,k b ob q⟩,fun _ _ q=>q,fun _ _ _ q=>q,fun _ ps q=>⟨#[],by rw [q];simp⟩⟩
theorem Un.refl:Un fs ex H H h h:=Un.kept fun _ _ q=>q
theorem Un.laid (k:∀ b u,h.get? b = some u -> h'.get? b = some u) (hp:h.objs.size <= a) (hn:H a = none):Un fs ex H (upd H a o) h h' where
  keep:=fun b u q _ _ _=>k b u q
  slot:=fun b u q _ _ _=>⟨u.slots,k b u q⟩
  free:=fun b u q n _=>by rw [zi (Nat.ne_of_lt (Nat.lt_of_lt_of_le (Heap.lt_size q) hp))];exact n
  there:=fun b u q _=>⟨u,k b u q⟩
  tups:=fun b xs q=>by rw [zi (zf q hn)];exact q
  frzs:=fun b u xs q=>by rw [zi (zf q hn)];exact q
  tbls:=fun b ps q=>⟨#[],by rw [zi (zf q hn),q];simp⟩
theorem Un.write (mu:Mut (H x)) (he:e = x \/ H e = some (.own x)) (k:∀ b u,b ≠ e -> h.get? b = some u -> h'.get? b = some u) (heo:∃ u,h'.get? e = some u):Un fs ex H (upd H x o) h h':=by
  have hx:∀ b,H b = none -> b ≠ x:=fun b n z=>by subst z;rw [n] at mu;exact mu
  have hb:∀ b,H b = none -> b ≠ e:=fun b n z=>by
    subst z
    rcases he with r | r
    · exact hx b n r
    · rw [n] at r;cases r
  have hm:∀ b u,H b = some u -> ¬ Mut (some u) -> b ≠ x:=fun b u q nm z=>by subst z;rw [q] at mu;exact nm mu
  refine ⟨fun b u q n _ _=>k b u (hb b n) q,fun b u q n _ _=>⟨u.slots,k b u (hb b n) q⟩,fun b u q n _=>by rw [zi (hx b n)];exact n,fun b u q _=>?_,
    fun b xs q=>by rw [zi (hm b _ q fun z=>z)];exact q,fun b u xs q=>by rw [zi (hm b _ q fun z=>z)];exact q,fun b ps q=>⟨#[],by rw [zi (hm b _ q fun z=>z),q];simp⟩⟩
  by_cases hbe:b = e
  · subst hbe;exact heo
  · exact ⟨u,k b u hbe q⟩
end
def trk (h:Heap) (H:Hp):List Addr:=(List.range h.objs.size).filter fun a=>(H a).isSome
def ZO (h:Heap) (H:Hp):Heap:=PySem.W.hideAll h (trk h H)
theorem Vv (h:Heap) (H:Hp):(ZO h H).objs.size = h.objs.size:=PySem.W.hideAll_size _ _
theorem WV {h:Heap} {H:Hp} {b:Addr} {o:Obj} (e:h.get? b = some o) (n:H b = none):(ZO h H).get? b = some o:=
  PySem.W.hideAll_get _ e fun hm=>by
    have q:(H b).isSome = true:=(List.mem_filter.mp hm).2
    rw [n] at q;simp at q
theorem YR {h:Heap} {H:Hp} {b:Addr} {o:Obj} (e:(ZO h H).get? b = some o):h.get? b = some o /\ H b = none:=by
  have e':h.get? b = some o:=PySem.W.of_hideAll (trk h H) e
  refine ⟨e',?_⟩
  cases q:H b with
  | none=>rfl
  | some x=>
    have hm:b ∈ trk h H:=List.mem_filter.mpr ⟨List.mem_range.mpr (Heap.lt_size e'),by simp [q]⟩
    have z:(ZO h H).get? b = none:=PySem.W.hideAll_none (trk h H) hm
    rw [z] at e;cases e
def zah (g h:Heap) (L:Addr):List (Addr × Obj):=(List.range h.objs.size).filterMap fun a=>if a = L \/ (g.get? a).isSome = true then none else (h.get? a).map fun o=>(a,o)
def rest (g h:Heap) (L d:Addr):List (Addr × Obj):=(zah g h L).filter fun p=>decide (p.1 ≠ d)
structure Mod (K:PySem.W.Frag) (mg:Str -> Option Value) (base:Heap):Prop where
  kin:K.In base
  glob:base.Ns mainGlobals mg
  blt:∃ mb,base.Ns builtinsNs mb /\ ∀ x:Str,x ≠ "__name__" -> mb x = bootBuiltins x
  nolimit:base.NoLimit
structure Cx where
  prog:Program
  w:World
  K:PySem.W.Frag
  mg:Str -> Option Value
  base:Heap
  A:Around
  N:List Str
  s₀:Shared
  H₀:Hp
  env:Env
  outer:List Env
  stack:List Env
  ex:List Addr
  fn:Str -> Bool
  calm:Bool
  pn:List (Addr × Obj)
  xe:Value -> Shared -> Prop
def frs (l:List Env):List Addr:=l.filterMap (·.frame)
abbrev Cx.fs (X:Cx):List Addr:=frs X.outer
def Vis (sc:Scope) (x:Str):Prop:=sc.names.lookup x = some .local \/ sc.names.lookup x = some .cell \/ sc.names.lookup x = some .free
def Loc (sc:Scope) (x:Str):Prop:=sc.names.lookup x = some .local \/ sc.names.lookup x = some .cell
def zc9 (env:Env) (h:Heap) (m:Str -> Option Value) (x:Str) (u:Value):Prop:=
  (env.kindOf x = some .local /\ m x = some u) \/ ((env.kindOf x = some .cell \/ env.kindOf x = some .free) /\ ∃ c,env.cells.lookup x = some c /\ h.IsCell c (some u))
structure Cx.Ok (X:Cx):Prop where
  mod:Mod X.K X.mg X.base
  kind:X.env.scope.kind = .function
  glob:X.env.globals = mainGlobals
  blt:X.env.builtins = builtinsNs
  above:X.s₀.heap.objs.size <= X.env.locals
  inj:∀ x y c,X.env.cells.lookup x = some c -> X.env.cells.lookup y = some c -> x = y
  has:∀ x,(X.env.kindOf x = some .cell \/ X.env.kindOf x = some .free) -> ∃ c,X.env.cells.lookup x = some c
  cab:∀ x c,X.fn x = true -> X.env.cells.lookup x = some c -> X.s₀.heap.objs.size <= c
  hd:X.calm = true -> X.A.handled = none
  frames:X.A.frames = some X.stack
  stk:X.stack = X.outer \/ (X.stack = X.env :: X.outer /\ X.env.frame = some X.env.locals)
  exf:∀ b ∈ X.ex,b ≠ X.env.locals /\ ∀ x c,X.env.cells.lookup x = some c -> c ≠ b
  bs:∀ b o,X.base.get? b = some o -> X.s₀.heap.get? b = some o /\ X.H₀ b = none
  bsz:X.base.objs.size <= X.s₀.heap.objs.size
  noex:∀ b o,X.base.get? b = some o -> b ∉ X.ex
  exfs:∀ b ∈ X.ex,b ∉ X.fs
  funs:X.s₀.heap.FunFrames X.base X.outer
  frf:∀ b ∈ X.fs,X.H₀ b = none
structure Inv (X:Cx) (pins:List (Addr × Obj)) (σ:List (Option V)) (H:Hp) (s:Shared):Prop where
  ok:X.Ok
  os:s.os = X.s₀.os
  bare:AllBare s.gens
  base:Un X.fs X.ex X.H₀ H X.s₀.heap s.heap
  loc:∃ m,s.heap.Ns X.env.locals m /\ ∀ (i:Nat) (x:Str) (v:V),X.N[i]? = some x -> σ[i]? = some (some v) -> Vis X.env.scope x -> ∃ u,RelV v u /\ zc9 X.env s.heap m x u
  cell:∀ x c,X.env.cells.lookup x = some c -> ∃ v,s.heap.IsCell c v
  free:H X.env.locals = none
  freeC:∀ x c,X.env.cells.lookup x = some c -> H c = none
  pin:∀ p ∈ X.pn ++ pins,s.heap.get? p.1 = some p.2 /\ H p.1 = none /\ p.1 ≠ X.env.locals /\ p.1 ∉ X.fs /\ ∀ v,p.2.data ≠ .cell v
  hok:HOk X.prog X.w H s.heap
  len:σ.length = X.N.length
section
variable {X:Cx} {pins:List (Addr × Obj)} {σ:List (Option V)} {H H':Hp} {s:Shared} {h':Heap}
theorem Cx.Ok.nofr (ok:X.Ok) {b:Addr} {o:Obj} (e:X.base.get? b = some o):b ∉ X.fs:=fun hb=>by
  have:=(ok.funs.mem hb).1
  rw [e] at this;cases this
theorem Inv.bs (I:Inv X pins σ H s):∀ b o,X.base.get? b = some o -> s.heap.get? b = some o /\ H b = none:=fun b o e=>
  ⟨I.base.keep b o (I.ok.bs b o e).1 (I.ok.bs b o e).2 (I.ok.nofr e) (I.ok.noex b o e),I.base.free b o (I.ok.bs b o e).1 (I.ok.bs b o e).2 (I.ok.noex b o e)⟩
theorem Inv.bk (I:Inv X pins σ H s):∀ b o,X.base.get? b = some o -> s.heap.get? b = some o:=fun b o e=>(I.bs b o e).1
theorem Inv.mod (I:Inv X pins σ H s):Mod X.K X.mg X.base:=I.ok.mod
theorem Inv.kIn (I:Inv X pins σ H s):X.K.In s.heap:=I.ok.mod.kin.keeps I.bk
theorem Inv.lt (I:Inv X pins σ H s):X.env.locals < s.heap.objs.size:=let ⟨_,hn,_⟩:=I.loc;hn.lt
theorem Inv.sz (I:Inv X pins σ H s):X.s₀.heap.objs.size <= s.heap.objs.size:=Nat.le_trans I.ok.above (Nat.le_of_lt I.lt)
theorem Inv.nofs (I:Inv X pins σ H s) {a:Addr} (h:s.heap.objs.size <= a):a ∉ X.fs:=fun hb=>by
  obtain ⟨_,o,ho,_⟩:=I.ok.funs.mem hb
  exact absurd (Nat.lt_of_lt_of_le (Heap.lt_size ho) (Nat.le_trans I.sz h)) (Nat.lt_irrefl _)
theorem Inv.cne (I:Inv X pins σ H s):∀ x c,X.env.cells.lookup x = some c -> c ≠ X.env.locals:=fun x c e z=>by
  obtain ⟨v,o,ho,hd⟩:=I.cell x c e
  obtain ⟨m,⟨o',es,ep,ho',hd',_⟩,_⟩:=I.loc
  rw [z,ho'] at ho;cases ho;rw [hd'] at hd;cases hd
theorem Inv.funs (I:Inv X pins σ H s):s.heap.FunFrames X.base X.outer:=by
  have all:∀ (l:List Env),(∀ b ∈ frs l,b ∈ X.fs) -> X.s₀.heap.FunFrames X.base l -> s.heap.FunFrames X.base l:=by
    intro l
    induction l with
    | nil=>intro _ _;trivial
    | cons env r ih=>
      intro hs hl
      obtain ⟨hk,⟨L,o,hf,hn,ho,hd⟩,hr⟩:=hl
      have hL:L ∈ X.fs:=hs L (by unfold frs;rw [List.filterMap_cons,hf];exact List.mem_cons_self)
      obtain ⟨sl,e⟩:=I.base.slot L o ho (I.ok.frf L hL) hL fun z=>I.ok.exfs L z hL
      exact ⟨hk,⟨L,_,hf,hn,e,hd⟩,ih (fun b hb=>hs b (by unfold frs;rw [List.filterMap_cons,hf];exact List.mem_cons_of_mem _ hb)) hr⟩
  exact all X.outer (fun _ hb=>hb) I.ok.funs
theorem Inv.stack (I:Inv X pins σ H s):s.heap.FunFrames X.base X.stack:=by
  rcases I.ok.stk with e | ⟨e,hf⟩
  · rw [e];exact I.funs
  · rw [e]
    obtain ⟨m,hn,_⟩:=I.loc
    refine .cons (by rw [I.ok.kind];decide) hf hn ?_ I.funs
    exact Heap.get?_none_of_le (Nat.le_trans I.ok.bsz I.ok.above)
theorem Inv.stkSub (I:Inv X pins σ H s):∀ b ∈ frs X.stack,b ∈ X.env.locals :: X.fs:=fun b hb=>by
  rcases I.ok.stk with e | ⟨e,hf⟩
  · rw [e] at hb;exact List.mem_cons_of_mem _ hb
  · rw [e] at hb
    unfold frs at hb
    rw [List.filterMap_cons,hf] at hb
    exact hb
theorem Inv.stkFree (I:Inv X pins σ H s):∀ b ∈ frs X.stack,H b = none:=fun b hb=>by
  rcases List.mem_cons.mp (I.stkSub b hb) with e | hb
  · rw [e];exact I.free
  · obtain ⟨_,o,ho,_⟩:=I.ok.funs.mem hb
    exact I.base.free b o ho (I.ok.frf b hb) fun z=>I.ok.exfs b z hb
theorem Inv.step {g':Array GenState} {t':Nat} {d':Drawn} {ch:List Addr} (I:Inv X pins σ H s)
    (hch:∀ b ∈ ch,(b ∈ X.ex \/ X.s₀.heap.objs.size <= b) /\ b ≠ X.env.locals /\ (∀ x c,X.env.cells.lookup x = some c -> c ≠ b) /\ ∀ p ∈ X.pn ++ pins,p.1 ≠ b)
    (keep:∀ b o,b ≠ X.env.locals -> b ∉ X.fs -> b ∉ ch -> s.heap.get? b = some o -> H b = none -> h'.get? b = some o)
    (slot:∀ b o,b ≠ X.env.locals -> b ∈ X.fs -> b ∉ ch -> s.heap.get? b = some o -> H b = none -> ∃ sl,h'.get? b = some { o with slots:=sl }) (free:∀ b o,b ∉ ch -> s.heap.get? b = some o -> H b = none -> H' b = none)
    (there:∀ b o,b ∉ ch -> s.heap.get? b = some o -> ∃ o',h'.get? b = some o')
    (tups:∀ b xs,H b = some (.tup xs) -> H' b = some (.tup xs)) (frzs:∀ b o u,H b = some (.frz o u) -> H' b = some (.frz o u)) (tbls:∀ b ps,H b = some (.tbl ps) -> ∃ more,H' b = some (.tbl (ps ++ more)))
    (ns:∀ m,s.heap.Ns X.env.locals m -> h'.Ns X.env.locals m) (hok:HOk X.prog X.w H' h') (hg:AllBare g') :
    Inv X pins σ H' { s with heap:=h',gens:=g',drawn:=d',toks:=t' }:=by
  have neL:∀ b o,X.s₀.heap.get? b = some o -> b ≠ X.env.locals:=fun b o e=>Nat.ne_of_lt (Nat.lt_of_lt_of_le (Heap.lt_size e) I.ok.above)
  have neC:∀ b o,X.s₀.heap.get? b = some o -> b ∉ X.ex -> b ∉ ch:=fun b o e hx hb=>by
    rcases (hch b hb).1 with z | z
    · exact hx z
    · exact absurd (Nat.lt_of_lt_of_le (Heap.lt_size e) z) (Nat.lt_irrefl _)
  have cellK:∀ x c,X.env.cells.lookup x = some c -> ∀ v,s.heap.IsCell c v -> h'.IsCell c v:=fun x c e v ⟨o,ho,hd⟩=>by
    have nch:c ∉ ch:=fun z=>(hch c z).2.2.1 x c e rfl
    by_cases hc:c ∈ X.fs
    · obtain ⟨sl,q⟩:=slot c o (I.cne x c e) hc nch ho (I.freeC x c e)
      exact ⟨_,q,hd⟩
    · exact ⟨o,keep c o (I.cne x c e) hc nch ho (I.freeC x c e),hd⟩
  refine ⟨I.ok,I.os,hg,⟨fun b o e n hb hx=>?_,fun b o e n hb hx=>?_,fun b o e n hx=>?_,fun b o e hx=>?_,fun b xs e=>tups b xs (I.base.tups b xs e),fun b o xs e=>frzs b o xs (I.base.frzs b o xs e),fun b ps e=>?_⟩,?_,fun x c e=>?_,?_,fun x c e=>?_,fun p hp=>?_,hok,I.len⟩
  · exact keep b o (neL b o e) hb (neC b o e hx) (I.base.keep b o e n hb hx) (I.base.free b o e n hx)
  · obtain ⟨sl,e1⟩:=I.base.slot b o e n hb hx
    obtain ⟨sl',e2⟩:=slot b _ (neL b o e) hb (neC b o e hx) e1 (I.base.free b o e n hx)
    exact ⟨sl',e2⟩
  · obtain ⟨o',e1⟩:=I.base.there b o e hx
    exact free b o' (neC b o e hx) e1 (I.base.free b o e n hx)
  · obtain ⟨o',e1⟩:=I.base.there b o e hx
    exact there b o' (neC b o e hx) e1
  · obtain ⟨m1,e1⟩:=I.base.tbls b ps e
    obtain ⟨m2,e2⟩:=tbls b _ e1
    exact ⟨m1 ++ m2,by rw [e2,Array.append_assoc]⟩
  · obtain ⟨m,hn,hl⟩:=I.loc
    refine ⟨m,ns m hn,fun i x v e1 e2 e3=>?_⟩
    obtain ⟨u,r,l⟩:=hl i x v e1 e2 e3
    refine ⟨u,r,?_⟩
    rcases l with l | ⟨k,c,e,z⟩
    · exact .inl l
    · exact .inr ⟨k,c,e,cellK x c e _ z⟩
  · obtain ⟨v,z⟩:=I.cell x c e
    exact ⟨v,cellK x c e v z⟩
  · obtain ⟨m,⟨o,_,_,ho,_⟩,_⟩:=I.loc
    exact free _ o (fun z=>(hch _ z).2.1 rfl) ho I.free
  · obtain ⟨v,o,ho,hd⟩:=I.cell x c e
    exact free c o (fun z=>(hch c z).2.2.1 x c e rfl) ho (I.freeC x c e)
  · obtain ⟨e,n,ne,nf,d⟩:=I.pin p hp
    have nch:p.1 ∉ ch:=fun z=>(hch p.1 z).2.2.2 p hp rfl
    exact ⟨keep p.1 p.2 ne nf nch e n,free p.1 p.2 nch e n,ne,nf,d⟩
theorem Inv.un {t':Nat} (I:Inv X pins σ H s) (u:Un X.fs [] H H' s.heap h') (hok:HOk X.prog X.w H' h'):Inv X pins σ H' { s with heap:=h',toks:=t' }:=by
  obtain ⟨m,⟨o,es,ep,ho,r⟩,_⟩:=id I.loc
  obtain ⟨sl,hL⟩:=u.any ho I.free (by simp)
  exact I.step (g':=s.gens) (d':=s.drawn) (ch:=[]) (fun _ z=>nomatch z) (fun b o _ hb _ e n=>u.keep b o e n hb (by simp)) (fun b o _ hb _ e n=>u.slot b o e n hb (by simp)) (fun b o _ e n=>u.free b o e n (by simp)) (fun b o _ e=>u.there b o e (by simp)) u.tups u.frzs u.tbls (fun m' hm=>by
    obtain ⟨o',es',ep',ho',r'⟩:=hm
    rw [ho] at ho';cases ho'
    exact ⟨_,es',ep',hL,r'⟩) hok I.bare
theorem Inv.call {g':Array GenState} {t':Nat} {d':Drawn} {ch:List Addr} (I:Inv X pins σ H s) (u:Un (frs X.stack) ch H H' s.heap h') (hok:HOk X.prog X.w H' h') (hg:AllBare g')
    (hch:∀ b ∈ ch,(b ∈ X.ex \/ X.s₀.heap.objs.size <= b) /\ b ≠ X.env.locals /\ (∀ x c,X.env.cells.lookup x = some c -> c ≠ b) /\ ∀ p ∈ X.pn ++ pins,p.1 ≠ b) :
    Inv X pins σ H' { s with heap:=h',gens:=g',drawn:=d',toks:=t' }:=by
  obtain ⟨m,⟨o,es,ep,ho,r⟩,_⟩:=id I.loc
  obtain ⟨sl,hL⟩:=u.any ho I.free fun z=>(hch _ z).2.1 rfl
  exact I.step (ch:=ch) hch (fun b o hL hb hc e n=>u.keep b o e n (fun z=>(List.mem_cons.mp (I.stkSub b z)).elim hL hb) hc) (fun b o _ _ hc e n=>u.any e n hc) (fun b o hc e n=>u.free b o e n hc) (fun b o hc e=>u.there b o e hc) u.tups u.frzs u.tbls (fun m' hm=>by
    obtain ⟨o',es',ep',ho',r'⟩:=hm
    rw [ho] at ho';cases ho'
    exact ⟨_,es',ep',hL,r'⟩) hok hg
theorem Inv.turned {t':Nat} {it:Addr} (I:Inv X pins σ H s) (k:∀ b o,b ≠ it -> s.heap.get? b = some o -> h'.get? b = some o) (hn:H it = none) (hL:it ≠ X.env.locals)
    (h1:it ∈ X.ex \/ X.s₀.heap.objs.size <= it) (h2:∀ x c,X.env.cells.lookup x = some c -> c ≠ it) (h3:∀ p ∈ X.pn ++ pins,p.1 ≠ it):Inv X pins σ H { s with heap:=h',toks:=t' }:=by
  have nit:∀ b u,H b = some u -> b ≠ it:=fun b u e z=>by rw [z,hn] at e;cases e
  refine I.step (g':=s.gens) (d':=s.drawn) (ch:=[it]) (fun b hb=>?_) (fun b o _ _ hc e _=>k b o (fun z=>hc (by simp [z])) e) (fun b o _ _ hc e _=>⟨o.slots,k b o (fun z=>hc (by simp [z])) e⟩) (fun _ _ _ _ n=>n)
    (fun b o hc e=>⟨o,k b o (fun z=>hc (by simp [z])) e⟩) (fun _ _ e=>e) (fun _ _ _ e=>e) (fun b ps e=>⟨#[],by rw [e];simp⟩) (fun m hm=>?_) (fun b u e=>?_) I.bare
  · have e:b = it:=by simpa using hb
    subst e
    exact ⟨h1,hL,h2,h3⟩
  · obtain ⟨o,es,ep,ho,r⟩:=hm
    exact ⟨o,es,ep,k _ o (Ne.symm hL) ho,r⟩
  · refine (I.hok b u e).stay (fun c v hc q=>k c v ?_ q) (fun _ q=>q) fun _ _ q=>q
    rcases hc with z | z
    · rw [z];exact nit b u e
    · exact nit c _ z
theorem Inv.tok (I:Inv X pins σ H s) (t:Nat):Inv X pins σ H { s with toks:=t }:=I.un (h':=s.heap) (t':=t) Un.refl I.hok
theorem Inv.kept {t':Nat} (I:Inv X pins σ H s) (k:∀ b u,s.heap.get? b = some u -> h'.get? b = some u):Inv X pins σ H { s with heap:=h',toks:=t' }:=I.un (Un.kept k) (I.hok.kept k)
theorem Inv.laid {a:Addr} {o:HO} {t':Nat} (I:Inv X pins σ H s) (k:∀ b u,s.heap.get? b = some u -> h'.get? b = some u) (hp:s.heap.objs.size <= a) (new:ObjOk X.prog X.w (upd H a o) h' a o) :
    Inv X pins σ (upd H a o) { s with heap:=h',toks:=t' }:=I.un (Un.laid k hp (I.hok.fresh hp)) (I.hok.laid k hp new)
theorem Inv.write {x e:Addr} {o:HO} {t':Nat} (I:Inv X pins σ H s) (mu:Mut (H x)) (he:e = x \/ H e = some (.own x)) (k:∀ b u,b ≠ e -> s.heap.get? b = some u -> h'.get? b = some u) (heo:∃ u,h'.get? e = some u)
    (new:ObjOk X.prog X.w (upd H x o) h' x o):Inv X pins σ (upd H x o) { s with heap:=h',toks:=t' }:=I.un (Un.write mu he k heo) (I.hok.write mu he k heo new)
theorem Inv.weak {σ':List (Option V)} (I:Inv X pins σ H s) (hl:σ'.length = σ.length) (w:∀ (i:Nat) v,σ'[i]? = some (some v) -> σ[i]? = some (some v)):Inv X pins σ' H s:=
  ⟨I.ok,I.os,I.bare,I.base,let ⟨m,hn,hl'⟩:=I.loc;⟨m,hn,fun i x v e1 e2 e3=>hl' i x v e1 (w i v e2) e3⟩,I.cell,I.free,I.freeC,I.pin,I.hok,hl.trans I.len⟩
theorem Inv.pins_of {pins':List (Addr × Obj)} (I:Inv X pins σ H s) (h:∀ p ∈ pins',s.heap.get? p.1 = some p.2 /\ H p.1 = none /\ p.1 ≠ X.env.locals /\ p.1 ∉ X.fs /\ ∀ v,p.2.data ≠ .cell v):Inv X pins' σ H s:=
  ⟨I.ok,I.os,I.bare,I.base,I.loc,I.cell,I.free,I.freeC,fun p hp=>(List.mem_append.mp hp).elim (fun z=>I.pin p (List.mem_append_left _ z)) (h p),I.hok,I.len⟩
theorem Qp {N:List Str} (hN:N.Nodup) {i j:Nat} {x:Str} (a:N[i]? = some x) (b:N[j]? = some x):i = j:=by
  obtain ⟨h1,e1⟩:=List.getElem?_eq_some_iff.mp a
  obtain ⟨h2,e2⟩:=List.getElem?_eq_some_iff.mp b
  exact (List.getElem_inj hN).mp (e1.trans e2.symm)
theorem Ve {M:Model} {A:Around} {E:Value -> Shared -> Prop} {i:Nat} {x:Str} {v:V} {u:Value} {Q:Unit -> Shared -> Prop} (I:Inv X pins σ H s) (hN:X.N.Nodup) (hi:X.N[i]? = some x) (hx:Loc X.env.scope x) (r:RelV v u)
    (h:∀ s',Inv X pins (σ.set i (some v)) H s' -> (∃ a,Heap.SameBut a s.heap s'.heap /\ (a = X.env.locals \/ X.env.cells.lookup x = some a)) -> Q () s') (hf:X.fn x = true \/ X.env.scope.names.lookup x = some .local:=by first | exact .inl rfl | exact .inr rfl | assumption):wpAny M A (storeName X.env x u) Q E s:=by
  obtain ⟨m,hn,hl⟩:=id I.loc
  have hcls:(X.env.scope.kind == .class || (X.env.scope.kind == .module && X.env.locals != X.env.globals)) = false:=by rw [I.ok.kind];rfl
  have hiσ:i < σ.length:=by rw [I.len];exact (List.getElem?_eq_some_iff.mp hi).1
  have cne:=I.cne
  have tracked:∀ {a:Addr} {h':Heap},(∃ o,s.heap.get? a = some o /\ H a = none) -> Heap.SameBut a s.heap h' -> HOk X.prog X.w H h':=fun {a h'} ha hs b ob e=>by
    obtain ⟨_,_,hfree⟩:=ha
    refine (I.hok b ob e).stay (fun c w' hc q=>(hs.2 c ?_).trans q) (fun _ q=>q) fun _ _ q=>q
    rintro rfl
    rcases hc with rfl | hc
    · rw [hfree] at e;cases e
    · rw [hfree] at hc;cases hc
  rcases hx with hk | hk
  · refine wpAny_storeName_local hk hn (fun h' hn' hs=>?_) hcls
    obtain ⟨oL,_,_,hoL,_⟩:=id hn
    refine h _ ⟨I.ok,I.os,I.bare,⟨fun b o e n hb hx=>?_,fun b o e n hb hx=>?_,I.base.free,fun b o e hx=>?_,I.base.tups,I.base.frzs,I.base.tbls⟩,⟨_,hn',fun j y v' e1 e2 e3=>?_⟩,fun y c e=>?_,I.free,I.freeC,fun p hp=>?_,tracked ⟨oL,hoL,I.free⟩ hs,by simpa using I.len⟩ ⟨_,hs,.inl rfl⟩
    · exact (hs.2 b (Nat.ne_of_lt (Nat.lt_of_lt_of_le (Heap.lt_size e) I.ok.above))).trans (I.base.keep b o e n hb hx)
    · obtain ⟨sl,e1⟩:=I.base.slot b o e n hb hx
      exact ⟨sl,(hs.2 b (Nat.ne_of_lt (Nat.lt_of_lt_of_le (Heap.lt_size e) I.ok.above))).trans e1⟩
    · obtain ⟨o',e1⟩:=I.base.there b o e hx
      exact ⟨o',(hs.2 b (Nat.ne_of_lt (Nat.lt_of_lt_of_le (Heap.lt_size e) I.ok.above))).trans e1⟩
    · by_cases hj:j = i
      · subst hj
        rw [hi] at e1;cases e1
        rw [List.getElem?_set_self hiσ] at e2
        cases e2
        exact ⟨u,r,.inl ⟨hk,by simp⟩⟩
      · rw [List.getElem?_set_ne (Ne.symm hj)] at e2
        obtain ⟨u',r',q⟩:=hl j y v' e1 e2 e3
        refine ⟨u',r',?_⟩
        rcases q with ⟨k,e⟩ | ⟨k,c,e,z⟩
        · refine .inl ⟨k,?_⟩
          have:y ≠ x:=fun e=>hj (Qp hN e1 (e ▸ hi))
          simp [this,e]
        · exact .inr ⟨k,c,e,z.sameBut hs (cne y c e)⟩
    · obtain ⟨w',z⟩:=I.cell y c e
      exact ⟨w',z.sameBut hs (cne y c e)⟩
    · obtain ⟨e,n,ne,nf,d⟩:=I.pin p hp
      exact ⟨(hs.2 p.1 ne).trans e,n,ne,nf,d⟩
  · have hfn:X.fn x = true:=by
      rcases hf with z | z
      · exact z
      · rw [z] at hk;cases hk
    obtain ⟨c,hc⟩:=I.ok.has x (.inl hk)
    obtain ⟨w',z⟩:=I.cell x c hc
    refine wpAny_storeName_cell I.ok.kind hk hc z (fun h' hc' hs=>?_)
    obtain ⟨oc,hoc,hocd⟩:=id z
    refine h { s with heap:=h' } ⟨I.ok,I.os,I.bare,⟨fun b o e n hb hx=>?_,fun b o e n hb hx=>?_,I.base.free,fun b o e hx=>?_,I.base.tups,I.base.frzs,I.base.tbls⟩,⟨m,hn.sameBut hs (Ne.symm (cne x c hc)),fun j y v' e1 e2 e3=>?_⟩,fun y c' e=>?_,I.free,I.freeC,fun p hp=>?_,tracked ⟨oc,hoc,I.freeC x c hc⟩ hs,by simpa using I.len⟩ ⟨c,hs,.inr hc⟩
    · exact (hs.2 b (Nat.ne_of_lt (Nat.lt_of_lt_of_le (Heap.lt_size e) (I.ok.cab x c hfn hc)))).trans (I.base.keep b o e n hb hx)
    · obtain ⟨sl,e1⟩:=I.base.slot b o e n hb hx
      exact ⟨sl,(hs.2 b (Nat.ne_of_lt (Nat.lt_of_lt_of_le (Heap.lt_size e) (I.ok.cab x c hfn hc)))).trans e1⟩
    · obtain ⟨o',e1⟩:=I.base.there b o e hx
      exact ⟨o',(hs.2 b (Nat.ne_of_lt (Nat.lt_of_lt_of_le (Heap.lt_size e) (I.ok.cab x c hfn hc)))).trans e1⟩
    · by_cases hj:j = i
      · subst hj
        rw [hi] at e1;cases e1
        rw [List.getElem?_set_self hiσ] at e2
        cases e2
        exact ⟨u,r,.inr ⟨.inl hk,c,hc,hc'⟩⟩
      · rw [List.getElem?_set_ne (Ne.symm hj)] at e2
        obtain ⟨u',r',q⟩:=hl j y v' e1 e2 e3
        refine ⟨u',r',?_⟩
        rcases q with q | ⟨k,c',e,z'⟩
        · exact .inl q
        · refine .inr ⟨k,c',e,z'.sameBut hs ?_⟩
          rintro rfl
          exact hj (Qp hN e1 (I.ok.inj _ _ _ e hc ▸ hi))
    · by_cases hcc:c' = c
      · subst hcc;exact ⟨_,hc'⟩
      · obtain ⟨w2,z2⟩:=I.cell y c' e
        exact ⟨w2,z2.sameBut hs hcc⟩
    · obtain ⟨e,n,ne,nf,d⟩:=I.pin p hp
      refine ⟨(hs.2 p.1 ?_).trans e,n,ne,nf,d⟩
      intro q
      rw [q,hoc] at e
      have q':oc = p.2:=Option.some.inj e
      exact d w' (by rw [<- q'];exact hocd)
theorem vk {M:Model} {A:Around} {E:Value -> Shared -> Prop} {i:Nat} {x:Str} {v:V} {u:Value} {Q:Unit -> Shared -> Prop} (I:Inv X pins σ H s) (hN:X.N.Nodup) (hi:X.N[i]? = some x) (hx:Loc X.env.scope x) (r:RelV v u)
    (h:∀ s',Inv X pins (σ.set i (some v)) H s' -> Q () s') (hf:X.fn x = true \/ X.env.scope.names.lookup x = some .local:=by first | exact .inl rfl | exact .inr rfl | assumption):wpAny M A (storeName X.env x u) Q E s:=
  Ve I hN hi hx r (fun s' I' _=>h s' I') hf
theorem Inv.call' {s':Shared} {ch:List Addr} (I:Inv X pins σ H s) (ho:s'.os = s.os) (u:Un (frs X.stack) ch H H' s.heap s'.heap) (hok:HOk X.prog X.w H' s'.heap) (hg:AllBare s'.gens)
    (hch:∀ b ∈ ch,(b ∈ X.ex \/ X.s₀.heap.objs.size <= b) /\ b ≠ X.env.locals /\ (∀ x c,X.env.cells.lookup x = some c -> c ≠ b) /\ ∀ p ∈ X.pn ++ pins,p.1 ≠ b):Inv X pins σ H' s':=by
  obtain ⟨h',g',d',t',o'⟩:=s'
  have e:o' = s.os:=ho
  subst e
  exact I.call (g':=g') (t':=t') (d':=d') u hok hg hch
end
abbrev XK:=Value -> Option Addr -> Hp -> Prop
abbrev St:=List (Option V)
abbrev VK:=V -> Hp -> Prop
abbrev TE:=St -> Hp -> VK -> Prop
abbrev TT:=St -> Hp -> (Bool -> Hp -> Prop) -> Prop
abbrev TA:=St -> Hp -> (List V -> Hp -> Prop) -> Prop
structure yE where
  nx:St -> Hp -> Prop
  rt:VK
  bk:St -> Hp -> Prop:=fun _ _=>False
  ct:St -> Hp -> Prop:=fun _ _=>False
abbrev TS:=yE -> St -> Hp -> Prop
def EP (X:Cx) (pins:List (Addr × Obj)) (σ:St) (Q:VK) (u:Value) (s':Shared):Prop:=∃ v H',Inv X pins σ H' s' /\ RelV v u /\ Q v H'
def TP (X:Cx) (pins:List (Addr × Obj)) (σ:St) (Q:Bool -> Hp -> Prop) (b:Bool) (s':Shared):Prop:=∃ H',Inv X pins σ H' s' /\ Q b H'
def AP (X:Cx) (pins:List (Addr × Obj)) (σ:St) (Q:List V -> Hp -> Prop) (us:List Value) (s':Shared):Prop:=∃ vs H',Inv X pins σ H' s' /\ Vals vs us /\ Q vs H'
def SP (X:Cx) (pins:List (Addr × Obj)) (D:yE) (f:Flow) (s':Shared):Prop:=
  match f with
  | .next=>∃ σ' H',Inv X pins σ' H' s' /\ D.nx σ' H'
  | .brk=>∃ σ' H',Inv X pins σ' H' s' /\ D.bk σ' H'
  | .cont=>∃ σ' H',Inv X pins σ' H' s' /\ D.ct σ' H'
  | .ret u=>∃ v σ' H',Inv X pins σ' H' s' /\ RelV v u /\ D.rt v H'
def PE (X:Cx) (e:Expr) (t:TE):Prop:=
  ∀ (pins:List (Addr × Obj)) (s:Shared) (σ:St) (H:Hp) (Q:VK),Inv X pins σ H s -> t σ H Q -> wpAny (model X.prog X.w) X.A (eval e X.env) (EP X pins σ Q) X.xe s
def PT (X:Cx) (e:Expr) (t:TT):Prop:=
  ∀ (pins:List (Addr × Obj)) (s:Shared) (σ:St) (H:Hp) (Q:Bool -> Hp -> Prop),Inv X pins σ H s -> t σ H Q -> wpAny (model X.prog X.w) X.A (isTrue e X.env (eval e X.env)) (TP X pins σ Q) X.xe s
def PW (X:Cx) (e:Expr) (t:TT):Prop:=
  ∀ (whole:Sem Value) (pins:List (Addr × Obj)) (s:Shared) (σ:St) (H:Hp) (Q:Bool -> Hp -> Prop),Inv X pins σ H s -> t σ H Q -> wpAny (model X.prog X.w) X.A (isTrue e X.env whole) (TP X pins σ Q) X.xe s
theorem PW.pt {X:Cx} {e:Expr} {t:TT} (h:PW X e t):PT X e t:=h _
def PA (X:Cx) (es:List Expr) (t:TA):Prop:=
  ∀ (pos:Pos) (pins:List (Addr × Obj)) (s:Shared) (σ:St) (H:Hp) (Q:List V -> Hp -> Prop),Inv X pins σ H s -> t σ H Q -> wpAny (model X.prog X.w) X.A (spliced (backTo pos (starEach es X.env))) (AP X pins σ Q) X.xe s
def PS (X:Cx) (st:Stmt) (t:TS):Prop:=
  ∀ (pins:List (Addr × Obj)) (s:Shared) (σ:St) (H:Hp) (D:yE),Inv X pins σ H s -> t D σ H -> wpAny (model X.prog X.w) X.A (exec st X.env) (SP X pins D) X.xe s
def PSs (X:Cx) (st:List Stmt) (t:TS):Prop:=
  ∀ (pins:List (Addr × Obj)) (s:Shared) (σ:St) (H:Hp) (D:yE),Inv X pins σ H s -> t D σ H -> wpAny (model X.prog X.w) X.A (execs st X.env) (SP X pins D) X.xe s
theorem thn {α:Type} {t:Sem α} {Q Q':α -> Shared -> Prop} {M:Model} {A:Around} {E:Value -> Shared -> Prop} {s:Shared} (h:wpAny M A t Q E s) (hQ:∀ a s,Q a s -> Q' a s):wpAny M A t Q' E s:=wpAny_mono h hQ fun _ _ x=>x
section
variable {X:Cx}
inductive IsB (x:V) (H:Hp) (Q:Bool -> Hp -> Prop):Prop
  | mk (c:Bool) (h:x = .bl c) (q:Q c H):IsB x H Q
inductive IsI (x:V) (H:Hp) (Q:Int -> Hp -> Prop):Prop
  | mk (i:Int) (h:x = .int i) (q:Q i H):IsI x H Q
inductive zcM (vs:List V) (H:Hp) (Q:V -> V -> Hp -> Prop):Prop
  | mk (v w:V) (h:vs = [v,w]) (q:Q v w H):zcM vs H Q
inductive zaM (i:Nat) (σ:St) (H:Hp) (Q:VK):Prop
  | mk (v:_) (_:σ[i]? = some (some v)) (_:Q v H):zaM i σ H Q
def tC (v:V):TE:=fun _ H Q=>Q v H
theorem zbc {i:Nat} {x:Str} {pos:Pos} (hN:X.N[i]? = some x) (hv:Vis X.env.scope x) (hd:(x == ("__debug__" : Str)) = false:=by decide) (hcd:(x == ("__classdict__" : Str)) = false:=by decide):PE X (.Name x pos) (zaM i):=by
  intro pins s σ H Q I h
  obtain ⟨v,e,h⟩:=h
  obtain ⟨m,hn,hl⟩:=I.loc
  obtain ⟨u,r,l⟩:=hl i x v hN e hv
  have fin:EP X pins σ Q u s:=⟨v,H,I,r,h⟩
  rcases l with ⟨hk,hm⟩ | ⟨hk,c,hc,hcell⟩
  · exact wpAny_Name (wpAny_loadName_local I.ok.kind hk hn hm fin) hd
  · rcases hk with hk | hk
    · exact wpAny_Name (wpAny_loadName_cell I.ok.kind hk hc hcell fin) hd
    · exact wpAny_Name (wpAny_loadName_free I.ok.kind hk hc hcell fin hcd) hd
theorem zg {i j pos}:PE X (.Constant (.int i) j pos) (tC (.int i)):=fun _ _ _ H _ I h=>wpAny_Constant_int ⟨.int i,H,I.tok _,⟨_,rfl⟩,h⟩
theorem JY {b j pos}:PE X (.Constant (.bool b) j pos) (tC (.bl b)):=fun _ _ _ H _ I h=>Constant_bool ⟨.bl b,H,I,rfl,h⟩
theorem Jc {j pos}:PE X (.Constant .none j pos) (tC .non):=fun _ _ _ H _ I h=>Constant_none ⟨.non,H,I,rfl,h⟩
theorem Wt {x j pos}:PE X (.Constant (.str x) j pos) (tC (.str x)):=fun _ _ _ H _ I h=>Calls.Constant_str ⟨.str x,H,I.tok _,⟨_,rfl⟩,h⟩
def Gl (X:Cx) (x:Str):Prop:=X.env.kindOf x = some .globalImplicit
theorem YZ {E:Value -> Shared -> Prop} {pins:List (Addr × Obj)} {s:Shared} {σ:St} {H:Hp} {x:Str} {u:Value} {pos:Pos} {Q:Value -> Shared -> Prop} (I:Inv X pins σ H s) (hg:Gl X x) (hm:X.mg x = some u) (h:Q u s)
    (hd:(x == ("__debug__" : Str)) = false:=by decide):wpAny (model X.prog X.w) X.A (eval (.Name x pos) X.env) Q E s:=
  Calls.Name_function_global I.ok.kind hg (Calls.loadGlobal_global (by rw [I.ok.glob];exact I.mod.glob.keeps I.bk) hm h) hd
theorem jY {E:Value -> Shared -> Prop} {pins:List (Addr × Obj)} {s:Shared} {σ:St} {H:Hp} {x:Str} {u:Value} {pos:Pos} {Q:Value -> Shared -> Prop} (I:Inv X pins σ H s) (hg:Gl X x) (hm:X.mg x = none) (hv:bootBuiltins x = some u) (h:Q u s)
    (hn:x ≠ "__name__" :=by decide) (hd:(x == ("__debug__" : Str)) = false:=by decide):wpAny (model X.prog X.w) X.A (eval (.Name x pos) X.env) Q E s:=by
  obtain ⟨mb,h1,h2⟩:=I.mod.blt
  exact Calls.Name_function_global I.ok.kind hg (Calls.loadGlobal_builtin (by rw [I.ok.glob];exact I.mod.glob.keeps I.bk) hm (by rw [I.ok.blt];exact h1.keeps I.bk) ((h2 x hn).trans hv) h) hd
theorem jb {x:Str} {v:V} {u:Value} {pos:Pos} (hg:Gl X x) (hm:X.mg x = none) (hv:bootBuiltins x = some u) (r:RelV v u) (hn:x ≠ "__name__" :=by decide) (hd:(x == ("__debug__" : Str)) = false:=by decide):PE X (.Name x pos) (tC v):=
  fun _ _ _ H _ I h=>jY I hg hm hv ⟨v,H,I,r,h⟩ hn hd
variable {a b:Expr} {ta tb:TE} {pos:Pos}
def PC (X:Cx) (op:CmpOp) (a b:Expr) (t:TE):Prop:=
  ∀ (pins:List (Addr × Obj)) (s:Shared) (σ:St) (H:Hp) (Q:VK),Inv X pins σ H s -> t σ H Q ->
    wpAny (model X.prog X.w) X.A (eval a X.env) (fun v s₁=>wpAny (model X.prog X.w) X.A (eval b X.env) (fun u s₂=>wpAny (model X.prog X.w) X.A (compareOp op v u) (EP X pins σ Q) X.xe s₂) X.xe s₁) X.xe s
theorem WH (b:Expr) {op:CmpOp} (h:op ≠ .In) (h2:op ≠ .NotIn):behindInMarks op b = false:=by
  have e1:(op == CmpOp.In) = false:=by cases op <;> first | rfl | exact absurd rfl h
  have e2:(op == CmpOp.NotIn) = false:=by cases op <;> first | rfl | exact absurd rfl h2
  cases b <;> simp [behindInMarks,e1,e2]
def tB (t:TE):TT:=fun σ H Q=>t σ H fun x H1=>IsB x H1 Q
theorem Q9 {op:CmpOp} {t:TE} (h:PC X op a b t) (h1:behindInMarks op b = false:=by first | exact WH _ (by decide) (by decide) | rfl):PT X (.Compare a [op] [b] pos) (tB t):=by
  intro pins s σ H Q I hw
  refine wpAny_isTrue_Compare1 (thn (h pins s σ H _ I hw) fun v s1 h1=>thn h1 fun u s2 h2=>thn h2 fun c s3 ⟨x,H1,I1,r1,q1⟩=>?_) h1
  obtain ⟨d,rfl,q⟩:=q1
  cases r1
  exact wpAny_truthy_bool ⟨H1,I1,q⟩
theorem xi {e:Expr} {t:TE} (h:PE X e t) (he:∀ whole,isTrue e X.env whole = (do let v <- whole;standAt e.pos;holding [v] (truthy v)):=by intro _;rfl):PT X e (tB t):=by
  intro pins s σ H Q I hw
  refine isTrue_plain (thn (h pins s σ H _ I hw) fun v s1 ⟨x,H1,I1,r1,q1⟩=>?_) (he _)
  obtain ⟨d,rfl,q⟩:=q1
  cases r1
  exact wpAny_truthy_bool ⟨H1,I1,q⟩
variable {tA tB':TT} {rest:List Expr}
def zc3 (t u:TT):TT:=fun σ H Q=>t σ H fun c H1=>if c = true then u σ H1 Q else Q false H1
def tOr (t u:TT):TT:=fun σ H Q=>t σ H fun c H1=>if c = true then Q true H1 else u σ H1 Q
def zcW (t:TT):TT:=fun σ H Q=>t σ H fun c H1=>Q (!c) H1
theorem xP (ha:PT X a tA):PW X (.BoolOp .And [a] pos) tA:=by
  intro wh pins s σ H Q I h
  refine isTrue_and (thn (ha pins s σ H Q I h) fun c s1 e=>?_)
  cases c with
  | true=>exact isTrue_and_nil e
  | false=>exact e
theorem vR (ha:PT X a tA):PW X (.BoolOp .Or [a] pos) tA:=by
  intro wh pins s σ H Q I h
  refine isTrue_or (thn (ha pins s σ H Q I h) fun c s1 e=>?_)
  cases c with
  | false=>exact isTrue_or_nil e
  | true=>exact e
theorem vS (ha:PT X a tA) (hb:PW X (.BoolOp .And (b :: rest) pos) tB'):PW X (.BoolOp .And (a :: b :: rest) pos) (zc3 tA tB'):=by
  intro wh pins s σ H Q I h
  refine isTrue_and (thn (ha pins s σ H _ I h) fun c s1 ⟨H1,I1,q1⟩=>?_)
  cases c with
  | true=>exact hb wh pins s1 σ H1 Q I1 q1
  | false=>exact ⟨H1,I1,q1⟩
theorem yV (ha:PT X a tA) (hb:PW X (.BoolOp .Or (b :: rest) pos) tB'):PW X (.BoolOp .Or (a :: b :: rest) pos) (tOr tA tB'):=by
  intro wh pins s σ H Q I h
  refine isTrue_or (thn (ha pins s σ H _ I h) fun c s1 ⟨H1,I1,q1⟩=>?_)
  cases c with
  | true=>exact ⟨H1,I1,q1⟩
  | false=>exact hb wh pins s1 σ H1 Q I1 q1
theorem Wl (ha:PT X a tA):PT X (.UnaryOp .Not a pos) (zcW tA):=by
  intro pins s σ H Q I h
  exact isTrue_not (ha pins s σ H (fun c H1=>Q (!c) H1) I h)
def zbW (ta tb:TE):TE:=fun σ H Q=>ta σ H fun x H1=>IsB x H1 fun c H1=>if c = true then tb σ H1 Q else Q (.bl false) H1
def zcV (ta tb:TE):TE:=fun σ H Q=>ta σ H fun x H1=>IsB x H1 fun c H1=>if c = true then Q (.bl true) H1 else tb σ H1 Q
theorem wR {op} {t:TE} (h:PE X a t):PE X (.BoolOp op [a] pos) t:=fun pins s σ H Q I hw=>BoolOp_one (h pins s σ H Q I hw)
theorem wS (ha:PE X a ta) (hb:PE X (.BoolOp .And (b :: rest) pos) tb):PE X (.BoolOp .And (a :: b :: rest) pos) (zbW ta tb):=by
  intro pins s σ H Q I h
  refine BoolOp_and (thn (ha pins s σ H _ I h) fun v s1 ⟨x,H1,I1,r1,q1⟩=>?_)
  obtain ⟨c,rfl,q1⟩:=q1
  cases r1
  refine wpAny_truthy_bool ?_
  cases c with
  | true=>exact hb pins s1 σ H1 Q I1 q1
  | false=>exact ⟨.bl false,H1,I1,rfl,q1⟩
theorem zch (ha:PE X a ta) (hb:PE X (.BoolOp .Or (b :: rest) pos) tb):PE X (.BoolOp .Or (a :: b :: rest) pos) (zcV ta tb):=by
  intro pins s σ H Q I h
  refine BoolOp_or (thn (ha pins s σ H _ I h) fun v s1 ⟨x,H1,I1,r1,q1⟩=>?_)
  obtain ⟨c,rfl,q1⟩:=q1
  cases r1
  refine wpAny_truthy_bool ?_
  cases c with
  | false=>exact hb pins s1 σ H1 Q I1 q1
  | true=>exact ⟨.bl true,H1,I1,rfl,q1⟩
def tIf (t:TT) (ta tb:TE):TE:=fun σ H Q=>t σ H fun c H1=>if c = true then ta σ H1 Q else tb σ H1 Q
theorem j8 {c:Expr} (hc:PT X c tA) (ha:PE X a ta) (hb:PE X b tb):PE X (.IfExp c a b pos) (tIf tA ta tb):=by
  intro pins s σ H Q I h
  refine wpAny_IfExp (thn (hc pins s σ H _ I h) fun d s1 ⟨H1,I1,q1⟩=>?_)
  cases d with
  | true=>exact ha pins s1 σ H1 Q I1 q1
  | false=>exact hb pins s1 σ H1 Q I1 q1
end
def SqL (K:PySem.W.Frag) (H:Hp) (a:Addr) (xs:List V):Prop:=
  Rd H a (.lst xs) \/
    ∃ (o:Obj) (its:Array Value) (n:Nat),K.lookup a = some o /\ o.cls = .type "list" /\ o.dict = none /\ o.data = .seq its n /\ its.size <= sizeLine /\ Vals xs its.toList
def SqT (K:PySem.W.Frag) (H:Hp) (a:Addr) (xs:List V):Prop:=
  Rd H a (.tup xs) \/
    ∃ (o:Obj) (its:Array Value) (n:Nat),K.lookup a = some o /\ o.cls = .type "tuple" /\ o.data = .seq its n /\ its.size <= sizeLine /\ Vals xs its.toList
def zc8:Value -> Option V
  | .none=>some .non
  | .bool b=>some (.bl b)
  | .int i _=>some (.int i)
  | .str x _=>some (.str x)
  | .bytes b _=>some (.byt b)
  | .float b _=>some (.flt b)
  | .ref a=>some (.ref a)
  | .type n=>some (.ty n)
  | _=>none
theorem RelV.abs {x:V} {u:Value} (r:RelV x u):zc8 u = some x:=by
  cases x with
  | non=>cases r;rfl
  | bl _=>cases r;rfl
  | int _=>obtain ⟨t,rfl⟩:=r;rfl
  | str _=>obtain ⟨t,rfl⟩:=r;rfl
  | byt _=>obtain ⟨t,rfl⟩:=r;rfl
  | flt _=>obtain ⟨t,rfl⟩:=r;rfl
  | ref _=>cases r;rfl
  | ty _=>cases r;rfl
theorem RelV.inj {x y:V} {u:Value} (r:RelV x u) (q:RelV y u):x = y:=Option.some.inj (r.abs.symm.trans q.abs)
theorem Vals.inj:∀ {xs ys:List V} {us:List Value},Vals xs us -> Vals ys us -> xs = ys
  | _,_,_,.nil,.nil=>rfl
  | _,_,_,.cons r t,.cons r' t'=>by rw [r.inj r',Vals.inj t t']
section
variable {X:Cx} {pins:List (Addr × Obj)} {σ:St} {H:Hp} {s:Shared} {a:Addr} {xs ys:List V}
theorem SqL.of {K:PySem.W.Frag} (h:H a = some (.lst xs)):SqL K H a xs:=.inl (.inl h)
theorem SqT.of {K:PySem.W.Frag} (h:H a = some (.tup xs)):SqT K H a xs:=.inl (.inl h)
theorem Inv.list (I:Inv X pins σ H s) (h:SqL X.K H a xs):∃ its:List Value,Vals xs its /\ PlainL s.heap a its.toArray /\ xs.length <= sizeLine:=by
  rcases h with h | ⟨o,its,n,hk,hc,hd,hs,hz,r⟩
  · obtain ⟨z,its,n,r,e⟩:=h.ok I.hok
    exact ⟨its,r,⟨_,n,e,rfl,rfl,rfl⟩,z⟩
  · refine ⟨its.toList,r,⟨o,n,I.kIn a o hk,hc,hd,by simpa using hs⟩,?_⟩
    have e:=r.length
    simp only [Array.length_toList] at e
    omega
theorem Inv.tuple (I:Inv X pins σ H s) (h:SqT X.K H a xs):∃ its:List Value,Vals xs its /\ IsTup s.heap a its.toArray /\ xs.length <= sizeLine:=by
  rcases h with h | ⟨o,its,n,hk,hc,hs,hz,r⟩
  · obtain ⟨z,its,r,p⟩:=h.ok I.hok
    exact ⟨its,r,p.1,z⟩
  · refine ⟨its.toList,r,⟨o,I.kIn a o hk,hc,n,by simpa using hs⟩,?_⟩
    have e:=r.length
    simp only [Array.length_toList] at e
    omega
theorem Inv.list_inj (I:Inv X pins σ H s) (h:SqL X.K H a xs) (h':SqL X.K H a ys):xs = ys:=by
  obtain ⟨its,r,⟨o,n,e,_,_,d⟩,_⟩:=I.list h
  obtain ⟨its',r',⟨o',n',e',_,_,d'⟩,_⟩:=I.list h'
  rw [e] at e';cases e'
  rw [d] at d'
  injection d' with d1 _
  have:its = its':=by simpa using congrArg Array.toList d1
  subst this
  exact r.inj r'
theorem Inv.tuple_inj (I:Inv X pins σ H s) (h:SqT X.K H a xs) (h':SqT X.K H a ys):xs = ys:=by
  obtain ⟨its,r,⟨o,e,_,n,d⟩,_⟩:=I.tuple h
  obtain ⟨its',r',⟨o',e',_,n',d'⟩,_⟩:=I.tuple h'
  rw [e] at e';cases e'
  rw [d] at d'
  injection d' with d1 _
  have:its = its':=by simpa using congrArg Array.toList d1
  subst this
  exact r.inj r'
end
abbrev Cx.wish (X:Cx) (E:Value -> Shared -> Prop):Cx:={ X with xe:=E }
abbrev Cx.nox (X:Cx):Cx:=X.wish fun _ _=>False
theorem Cx.Ok.wish {X:Cx} (ok:X.Ok) (E:Value -> Shared -> Prop):(X.wish E).Ok:=
  ⟨ok.mod,ok.kind,ok.glob,ok.blt,ok.above,ok.inj,ok.has,ok.cab,ok.hd,ok.frames,ok.stk,ok.exf,ok.bs,ok.bsz,ok.noex,ok.exfs,ok.funs,ok.frf⟩
theorem Cx.Ok.unwish {X:Cx} {E:Value -> Shared -> Prop} (ok:(X.wish E).Ok):X.Ok:=
  ⟨ok.mod,ok.kind,ok.glob,ok.blt,ok.above,ok.inj,ok.has,ok.cab,ok.hd,ok.frames,ok.stk,ok.exf,ok.bs,ok.bsz,ok.noex,ok.exfs,ok.funs,ok.frf⟩
section
variable {X:Cx} {pins:List (Addr × Obj)} {σ:St} {H:Hp} {s:Shared} {E:Value -> Shared -> Prop}
theorem Inv.wish (I:Inv X pins σ H s) (E:Value -> Shared -> Prop):Inv (X.wish E) pins σ H s:=⟨I.ok.wish E,I.os,I.bare,I.base,I.loc,I.cell,I.free,I.freeC,I.pin,I.hok,I.len⟩
theorem Inv.unwish (I:Inv (X.wish E) pins σ H s):Inv X pins σ H s:=⟨I.ok.unwish,I.os,I.bare,I.base,I.loc,I.cell,I.free,I.freeC,I.pin,I.hok,I.len⟩
theorem SP.unwish {D:yE} {f:Flow} {s':Shared} (h:SP (X.wish E) pins D f s'):SP X pins D f s':=by
  cases f with
  | next=>obtain ⟨σ',H',I,q⟩:=h;exact ⟨σ',H',I.unwish,q⟩
  | brk=>obtain ⟨σ',H',I,q⟩:=h;exact ⟨σ',H',I.unwish,q⟩
  | cont=>obtain ⟨σ',H',I,q⟩:=h;exact ⟨σ',H',I.unwish,q⟩
  | ret u=>obtain ⟨v,σ',H',I,r,q⟩:=h;exact ⟨v,σ',H',I.unwish,r,q⟩
theorem PSs.nox {st:List Stmt} {t:TS} (h:PSs X.nox st t):PSs X st t:=fun pins s σ H D I hw=>
  wpAny_mono (h pins s σ H D (I.wish _) hw) (fun _ _ q=>q.unwish) fun _ _ z=>False.elim z
end
section
variable {X:Cx} {st:Stmt} {rest:List Stmt} {t u:TS} {e:Expr} {te:TE} {pos:Pos}
def zbP:TS:=fun D σ H=>D.nx σ H
def zcS (t u:TS):TS:=fun D σ H=>t { D with nx:=u D } σ H
theorem qM:PSs X [] zbP:=fun _ _ σ H _ I h=>wpAny_execs_nil ⟨σ,H,I,h⟩
theorem ze (h1:PS X st t) (h2:PSs X rest u):PSs X (st :: rest) (zcS t u):=by
  intro pins s σ H D I h
  refine wpAny_execs_cons (thn (h1 pins s σ H { D with nx:=u D } I h) fun f s1 q=>?_)
  cases f with
  | next=>
    obtain ⟨σ',H',I',q⟩:=q
    exact h2 pins s1 σ' H' D I' q
  | ret v=>exact q
  | brk=>exact q
  | cont=>exact q
theorem zm (h1:PS X st t):PSs X [st] t:=by
  intro pins s σ H D I h
  refine wpAny_execs_cons (thn (h1 pins s σ H D I h) fun f s1 q=>?_)
  cases f with
  | next=>exact wpAny_execs_nil q
  | ret v=>exact q
  | brk=>exact q
  | cont=>exact q
theorem Inv.quiet {pins:List (Addr × Obj)} {σ:St} {H:Hp} {s:Shared} (I:Inv X pins σ H s):interactive X.env = false:=by simp [interactive,I.ok.kind]
def zbR (te:TE):TS:=fun D σ H=>te σ H fun _ H1=>D.nx σ H1
theorem qk (he:PE X e te) (hs:swapsWith e none pos.line X.env = pure false:=by rfl):PS X (.Expr e pos) (zbR te):=by
  intro pins s σ H D I h
  exact wpAny_Expr_any (thn (he pins s σ H _ I h) fun v s1 ⟨x,H1,I1,r1,q1⟩=>⟨σ,H1,I1,q1⟩) I.quiet hs
def zcT (te:TE):TS:=fun D σ H=>te σ H D.rt
theorem zE (he:PE X e te):PS X (.Return (some e) pos) (zcT te):=by
  intro pins s σ H D I h
  exact wpAny_Return_some (thn (he pins s σ H _ I h) fun v s1 ⟨x,H1,I1,r1,q1⟩=>⟨x,σ,H1,I1,r1,q1⟩)
def zcY (c:TT) (t u:TS):TS:=fun D σ H=>c σ H fun b H1=>if b = true then t D σ H1 else u D σ H1
theorem jz {c:Expr} {a b:List Stmt} {tc:TT} (hc:PT X c tc) (ha:PSs X a t) (hb:PSs X b u):PS X (.If c a b pos) (zcY tc t u):=by
  intro pins s σ H D I h
  refine wpAny_If (thn (hc pins s σ H _ I h) fun d s1 ⟨H1,I1,q1⟩=>?_)
  cases d with
  | true=>exact ha pins s1 σ H1 D I1 q1
  | false=>exact hb pins s1 σ H1 D I1 q1
end
abbrev TG:=V -> St -> Hp -> (St -> Hp -> Prop) -> Prop
abbrev TGs:=List V -> St -> Hp -> (St -> Hp -> Prop) -> Prop
def PG (X:Cx) (target:Expr) (t:TG):Prop:=
  ∀ (pins:List (Addr × Obj)) (s:Shared) (σ:St) (H:Hp) (v:V) (u:Value) (Q:St -> Hp -> Prop),Inv X pins σ H s -> RelV v u -> t v σ H Q ->
    wpAny (model X.prog X.w) X.A (assign target X.env u) (fun _ s'=>∃ σ' H',Inv X pins σ' H' s' /\ Q σ' H') X.xe s
def PGs (X:Cx) (ts:List Expr) (t:TGs):Prop:=
  ∀ (pins:List (Addr × Obj)) (s:Shared) (σ:St) (H:Hp) (vs:List V) (us:List Value) (Q:St -> Hp -> Prop),Inv X pins σ H s -> Vals vs us -> t vs σ H Q ->
    wpAny (model X.prog X.w) X.A (assignInOrder ((assignEach ts X.env).map (·.2)) us) (fun _ s'=>∃ σ' H',Inv X pins σ' H' s' /\ Q σ' H') X.xe s
abbrev Yi:=V -> V -> V -> Hp -> (Hp -> Prop) -> Prop
def zaj (X:Cx) (t:Yi):Prop:=
  ∀ (pins:List (Addr × Obj)) (s:Shared) (σ:St) (H:Hp) (o i v:V) (ov iv u:Value) (Q:Hp -> Prop),Inv X pins σ H s -> RelV o ov -> RelV i iv -> RelV v u -> t o i v H Q ->
    wpAny (model X.prog X.w) X.A (setItem ov iv u) (fun _ s'=>∃ H',Inv X pins σ H' s' /\ Q H') X.xe s
abbrev TIp:=V -> V -> Hp -> VK -> Prop
def PIp (X:Cx) (op:Operator) (t:TIp):Prop:=
  ∀ (pins:List (Addr × Obj)) (s:Shared) (σ:St) (H:Hp) (x y:V) (v u:Value) (Q:VK),Inv X pins σ H s -> RelV x v -> RelV y u -> t x y H Q ->
    wpAny (model X.prog X.w) X.A (inplaceOp op v u) (EP X pins σ Q) X.xe s
section
variable {X:Cx} {pos:Pos}
def jR (i:Nat):TG:=fun v σ H Q=>Q (σ.set i (some v)) H
theorem zn {i:Nat} {x:Str} (hN:X.N.Nodup) (hi:X.N[i]? = some x) (hx:Loc X.env.scope x) (hf:X.fn x = true \/ X.env.scope.names.lookup x = some .local:=by first | exact .inl rfl | exact .inr rfl | assumption):PG X (.Name x pos) (jR i):=by
  intro pins s σ H v u Q I r h
  exact wpAny_assign_Name (vk I hN hi hx r (fun s' I'=>⟨_,H,I',h⟩) hf)
def WY:TGs:=fun vs σ H Q=>vs = [] /\ Q σ H
inductive xX (t:TG) (u:TGs) (vs:List V) (σ:St) (H:Hp) (Q:St -> Hp -> Prop):Prop
  | mk (v r:_) (_:vs = v :: r) (_:t v σ H fun σ' H'=>u r σ' H' Q):xX t u vs σ H Q
theorem zS:PGs X [] WY:=by
  intro pins s σ H vs us Q I r h
  obtain ⟨e,h⟩:=h
  subst e
  cases r
  exact assignInOrder_nil ⟨σ,H,I,h⟩
theorem zq {e:Expr} {es:List Expr} {t:TG} {u:TGs} (h1:PG X e t) (h2:PGs X es u)
    (hs:(assignEach (e :: es) X.env).map (·.2) = assign e X.env :: (assignEach es X.env).map (·.2):=by rfl):PGs X (e :: es) (xX t u):=by
  intro pins s σ H vs us Q I r h
  obtain ⟨v,vr,e1,h⟩:=h
  subst e1
  cases r with
  | cons r rr=>
    rw [hs]
    refine assignInOrder_cons (thn (h1 pins s σ H _ _ _ I r h) fun _ s1 ⟨σ1,H1,I1,q1⟩=>?_)
    exact h2 pins s1 σ1 H1 _ _ Q I1 rr q1
inductive Vw (K:PySem.W.Frag) (n:Nat) (t:TGs) (v:V) (σ:St) (H:Hp) (Q:St -> Hp -> Prop):Prop
  | mk (a xs:_) (_:v = .ref a) (_:SqT K H a xs) (_:xs.length = n) (_:t xs σ H Q):Vw K n t v σ H Q
theorem qx {es:List Expr} {k:Nat} {t:TGs} {n:Nat} (hc:X.calm = true) (h:PGs X es t)
    (hn:(assignEach es X.env).length = n:=by rfl) (hst:(assignEach es X.env).findIdx? (·.1) = none:=by rfl):PG X (.Tuple es k pos) (Vw X.K n t):=by
  intro pins s σ H v u Q I r hw
  obtain ⟨a,xs,e1,hq,hl,hw⟩:=hw
  subst e1
  cases r
  obtain ⟨its,rv,ht,hz⟩:=I.tuple hq
  refine assign_Tuple_tuple (I.ok.hd hc) ht (by simp [hn,<- hl,rv.length]) hst fun h' hx=>?_
  have I1:Inv X pins σ H { s with heap:=h' }:=I.kept (t':=s.toks) fun b o e=>hx b o (Nat.ne_of_lt (Heap.lt_size e)) e
  exact h pins _ σ H xs _ Q I1 (by simpa using rv) hw
def zc7 (to ti:TE) (t:Yi):TG:=fun v σ H Q=>to σ H fun o H1=>ti σ H1 fun i H2=>t o i v H2 fun H3=>Q σ H3
theorem xB {o i:Expr} {to ti:TE} {t:Yi} (ho:PE X o to) (hi:PE X i ti) (hs:zaj X t)
    (ha:∀ v,assign (.Subscript o i pos) X.env v = (do
      let ov <- holding [v] (eval o X.env)
      let iv <- holding [v,ov] (eval i X.env)
      standAt pos
      holding [v,ov,iv] (setItem ov iv v)
      release [v,ov,iv] []):=by intro _;rfl):PG X (.Subscript o i pos) (zc7 to ti t):=by
  intro pins s σ H v u Q I r h
  rw [ha]
  refine wpAny_bind (wpAny_holding (thn (ho pins s σ H _ I h) fun ov s1 ⟨x,H1,I1,r1,q1⟩=>?_))
  refine wpAny_bind (wpAny_holding (thn (hi pins s1 σ H1 _ I1 q1) fun iv s2 ⟨y,H2,I2,r2,q2⟩=>?_))
  refine wpAny_bind (wpAny_standAt (wpAny_bind (wpAny_holding (thn (hs pins s2 σ H2 x y v ov iv u _ I2 r1 r2 r q2) fun _ s3 ⟨H3,I3,q3⟩=>?_))))
  exact wpAny_release ⟨σ,H3,I3,q3⟩
def Q0 (te:TE) (g:TG):TS:=fun D σ H=>te σ H fun x H1=>g x σ H1 D.nx
theorem jm {tg e:Expr} {te:TE} {g:TG} (he:PE X e te) (hg:PG X tg g) (hs:swapsWithSole [tg] e pos.line X.env = pure false:=by rfl) (hw:swappedStores [tg] e X.env = pure none:=by rfl)
    (h1:(assignEach [tg] X.env).map (·.2) = [assign tg X.env]:=by rfl):PS X (.Assign [tg] e pos) (Q0 te g):=by
  intro pins s σ H D I h
  refine wpAny_Assign_stores (thn (he pins s σ H _ I h) fun v s1 ⟨x,H1,I1,r1,q1⟩=>?_) hs hw
  rw [h1]
  exact thn (hg pins s1 σ H1 x v _ I1 r1 q1) fun _ s2 q=>q
theorem zv {i:Nat} {x:Str} {e:Expr} {te:TE} {pos':Pos} (hN:X.N.Nodup) (hi:X.N[i]? = some x) (hx:Loc X.env.scope x) (he:PE X e te) (hs:swapsWith e (some (.Name x pos')) pos.line X.env = pure false:=by rfl) (hf:X.fn x = true \/ X.env.scope.names.lookup x = some .local:=by first | exact .inl rfl | exact .inr rfl | assumption) :
    PS X (.Assign [.Name x pos'] e pos) (Q0 te (jR i)):=by
  intro pins s σ H D I h
  refine wpAny_Assign_Name (thn (he pins s σ H _ I h) fun v s1 ⟨y,H1,I1,r1,q1⟩=>?_) hs
  exact vk I1 hN hi hx r1 (fun s2 I2=>⟨_,H1,I2,q1⟩) hf
def zcU (i j:Nat) (ta:TA):TS:=fun D σ H=>ta σ H fun vs H1=>zcM vs H1 fun v w H1=>D.nx ((σ.set i (some v)).set j (some w)) H1
theorem Ja {i j:Nat} {x y:Str} {a b:Expr} {ta:TA} {px py pt:Pos} {kt k2 pt2} (hc:X.calm = true) (hN:X.N.Nodup) (hi:X.N[i]? = some x) (hj:X.N[j]? = some y) (hij:i ≠ j)
    (hx:X.env.scope.names.lookup x = some .local) (hy:X.env.scope.names.lookup y = some .local) (ha:PA X [a,b] ta)
    (hw:swappedStores [.Tuple [.Name x px,.Name y py] kt pt] (.Tuple [a,b] k2 pt2) X.env = pure (some [x,y]))
    (hs:swapsWithSole [.Tuple [.Name x px,.Name y py] kt pt] (.Tuple [a,b] k2 pt2) pos.line X.env = pure false:=by rfl) :
    PS X (.Assign [.Tuple [.Name x px,.Name y py] kt pt] (.Tuple [a,b] k2 pt2) pos) (zcU i j ta):=by
  intro pins s σ H D I h
  rw [exec_Assign_arm]
  refine wpAny_bind (wpAny_standAt ?_)
  rw [hs]
  refine wpAny_bind (wpAny_pure ?_)
  rw [if_neg (by decide)]
  refine wpAny_bind (Tuple_ (thn (ha _ pins s σ H _ I h) fun us s1 ⟨vs,H1,I1,r1,q1⟩=>?_))
  obtain ⟨v,w,e1,q1⟩:=q1
  subst e1
  obtain ⟨u1,u2,rfl,rv,rw'⟩:∃ u1 u2,us = [u1,u2] /\ RelV v u1 /\ RelV w u2:=by
    cases r1 with
    | cons p q=>
      cases q with
      | cons p' q'=>
        cases q'
        exact ⟨_,_,rfl,p,p'⟩
  refine wpAny_newObj_type ?_ (by show 2 <= sizeLine;decide)
  have I2:Inv X pins σ H1 { s1 with heap:=s1.heap.push { cls:=.type "tuple",data:=.seq [u1,u2].toArray } }:=I1.kept (t':=s1.toks) fun b o e=>Heap.get?_push_of_some _ e
  rw [hw]
  refine wpAny_bind (wpAny_pure ?_)
  show wpAny (model X.prog X.w) X.A (do rule "assign.swapped-stores";let items <- unpackItems (.ref s1.heap.objs.size) 2 none;assignInOrder [fun v=>bindName X.env y v,fun v=>bindName X.env x v] items.reverse;pure Flow.next) _ _ _
  refine wpAny_bind (wpAny_rule (wpAny_bind (unpackItems_tuple (items:=#[u1,u2]) (I.ok.hd hc) (IsTup.new s1.heap _) fun h' hx'=>?_)))
  have I3:=I2.kept (h':=h') (t':=s1.toks) fun b o e=>hx' b o (Nat.ne_of_lt (Heap.lt_size e)) e
  show wpAny _ _ (assignInOrder [fun v=>bindName X.env y v,fun v=>bindName X.env x v] [u2,u1] >>= fun _=>pure Flow.next) _ _ _
  refine wpAny_bind (assignInOrder_cons (wpAny_bindName (vk I3 hN hj (.inl hy) rw' (fun s2 I4=>?_) (.inr hy))))
  refine assignInOrder_cons (wpAny_bindName (vk I4 hN hi (.inl hx) rv (fun s3 I5=>assignInOrder_nil (wpAny_pure ?_)) (.inr hx)))
  rw [List.set_comm _ _ (Ne.symm hij)] at I5
  exact ⟨_,H1,I5,q1⟩
def zbV (to ti te:TE) (tget:V -> V -> Hp -> VK -> Prop) (tip:TIp) (tset:Yi):TS:=fun D σ H=>to σ H fun o H1=>ti σ H1 fun i H2=>tget o i H2 fun x H3=>te σ H3 fun y H4=>tip x y H4 fun z H5=>tset o i z H5 fun H6=>D.nx σ H6
def zcI (X:Cx) (t:V -> V -> Hp -> VK -> Prop):Prop:=
  ∀ (pins:List (Addr × Obj)) (s:Shared) (σ:St) (H:Hp) (o i:V) (ov iv:Value) (Q:VK),Inv X pins σ H s -> RelV o ov -> RelV i iv -> t o i H Q ->
    wpAny (model X.prog X.w) X.A (getItem ov iv) (EP X pins σ Q) X.xe s
theorem Yv {o i e:Expr} {to ti te:TE} {tget:V -> V -> Hp -> VK -> Prop} {tip:TIp} {tset:Yi} {op:Operator} {tpos:Pos} (ho:PE X o to) (hi:PE X i ti) (hg:zcI X tget) (he:PE X e te) (hp:PIp X op tip) (hs:zaj X tset)
    (ha:∀ ov iv new,augStore i ov iv new = (do holding [new,ov,iv] (setItem ov iv new);release [new,ov,iv] [];pure .next):=by intros;rfl):PS X (.AugAssign (.Subscript o i tpos) op e pos) (zbV to ti te tget tip tset):=by
  intro pins s σ H D I h
  refine wpAny_AugAssign_SubscriptAny (thn (ho pins s σ H _ I h) fun ov s1 ⟨x1,H1,I1,r1,q1⟩=>?_) ha
  refine thn (hi pins s1 σ H1 _ I1 q1) fun iv s2 ⟨x2,H2,I2,r2,q2⟩=>?_
  refine thn (hg pins s2 σ H2 x1 x2 ov iv _ I2 r1 r2 q2) fun old s3 ⟨x3,H3,I3,r3,q3⟩=>?_
  refine thn (he pins s3 σ H3 _ I3 q3) fun v s4 ⟨x4,H4,I4,r4,q4⟩=>?_
  refine thn (hp pins s4 σ H4 x3 x4 old v _ I4 r3 r4 q4) fun new s5 ⟨x5,H5,I5,r5,q5⟩=>?_
  exact thn (hs pins s5 σ H5 x1 x2 x5 ov iv new _ I5 r1 r2 r5 q5) fun _ s6 ⟨H6,I6,q6⟩=>⟨σ,H6,I6,q6⟩
inductive ipI (f:Int -> Int -> Int) (x:V) (y:V) (H:Hp) (Q:VK):Prop
  | mk (i j:_) (_:x = .int i) (_:y = .int j) (_:Q (.int (f i j)) H):ipI f x y H Q
theorem zbx:PIp X .Add (ipI fun i j=>i + j):=by
  intro pins s σ H x y v u Q I r1 r2 h
  obtain ⟨i,j,e1,e2,q⟩:=h
  subst e1;subst e2
  obtain ⟨t,rfl⟩:=r1
  obtain ⟨t',rfl⟩:=r2
  exact iadd_int ⟨.int _,H,I.tok _,⟨_,rfl⟩,q⟩
end
section
variable {X:Cx} {pos:Pos}
def zaL (c:TT) (tb:TS):TS:=fun D σ H=>∃ W:Nat -> St -> Hp -> Prop,(∃ m,W m σ H) /\ ∀ m σ H,W m σ H ->
  c σ H fun b H1=>if b = true then ∃ N:St -> Hp -> Prop,(∀ σ' H',N σ' H' -> ∃ m',m' < m /\ W m' σ' H') /\ tb { D with nx:=N,ct:=N,bk:=D.nx } σ H1 else D.nx σ H1
theorem Qi {c:Expr} {body:List Stmt} {tc:TT} {tb:TS} (hp:PassesOwn (model X.prog X.w) X.A X.env X.xe) (hc:PT X c tc) (hb:PSs X body tb):PS X (.While c body [] pos) (zaL tc tb):=by
  intro pins s σ H D I h
  obtain ⟨W,⟨m0,w0⟩,turn⟩:=h
  refine wpAny_While (codeAny_whileLoop (fun n s'=>∃ σ' H',Inv X pins σ' H' s' /\ W n σ' H') ?_ m0 ⟨σ,H,I,w0⟩)
  rintro n s1 ⟨σ1,H1,I1,w1⟩
  refine wpAny_passesOwn hp (thn (hc pins s1 σ1 H1 _ I1 (turn n σ1 H1 w1)) fun b s2 ⟨H2,I2,q2⟩=>?_)
  cases b with
  | true=>
    obtain ⟨N,hN,q2⟩:=q2
    rw [if_pos rfl]
    refine wpAny_passesOwn hp (thn (hb pins s2 σ1 H2 _ I2 q2) fun f s3 q3=>?_)
    cases f with
    | next=>
      obtain ⟨σ3,H3,I3,n3⟩:=q3
      obtain ⟨m',hm,w3⟩:=hN σ3 H3 n3
      exact ⟨m',hm,σ3,H3,I3,w3⟩
    | cont=>
      obtain ⟨σ3,H3,I3,n3⟩:=q3
      obtain ⟨m',hm,w3⟩:=hN σ3 H3 n3
      exact ⟨m',hm,σ3,H3,I3,w3⟩
    | brk=>exact q3
    | ret v=>exact q3
  | false=>
    rw [if_neg Bool.false_ne_true]
    exact wpAny_execs_nil ⟨σ1,H2,I2,q2⟩
end
structure It where
  go:Nat -> Hp -> Prop
  yld:Nat -> Hp -> V -> Hp -> Prop
  stop:Nat -> Hp -> Prop
def jk (X:Cx) (pins:List (Addr × Obj)) (H:Hp) (b:Addr):Prop:=
  H b = none /\ b ≠ X.env.locals /\ b ∉ X.fs /\ (b ∈ X.ex \/ X.s₀.heap.objs.size <= b) /\ (∀ x c,X.env.cells.lookup x = some c -> c ≠ b) /\ ∀ p ∈ X.pn ++ pins,p.1 ≠ b
theorem Inv.fpOk {X:Cx} {pins:List (Addr × Obj)} {σ:St} {H H':Hp} {s:Shared} {b:Addr} (I:Inv X pins σ H s) (hb:s.heap.objs.size <= b) (hn:H' b = none):jk X pins H' b:=by
  refine ⟨hn,Nat.ne_of_gt (Nat.lt_of_lt_of_le I.lt hb),I.nofs hb,.inr (Nat.le_trans I.sz hb),fun x c e z=>?_,fun p hp z=>?_⟩
  · obtain ⟨v,q⟩:=I.cell x c e
    exact absurd (Nat.lt_of_lt_of_le q.lt (by rw [z];exact hb)) (Nat.lt_irrefl _)
  · exact absurd (Nat.lt_of_lt_of_le (Heap.lt_size (I.pin p hp).1) (by rw [z];exact hb)) (Nat.lt_irrefl _)
structure vf (P:Program) (w:World) (K:PySem.W.Frag) (tg:Expr) (J:It) (fp:List Addr) (it:Addr) (tn:Nat -> Heap -> Prop):Prop where
  mem:it ∈ fp
  obj:∀ i h,tn i h -> ∀ b ∈ fp,∃ o,h.get? b = some o /\ ∀ v,o.data ≠ .cell v
  keep:∀ i h h',tn i h -> (∀ b ∈ fp,∀ o,h.get? b = some o -> h'.get? b = some o) -> tn i h'
  item:∀ (X:Cx),X.prog = P -> X.w = w -> X.K = K -> X.calm = true -> ∀ (i:Nat) (pins:List (Addr × Obj)) (s:Shared) (σ:St) (H:Hp) (E:Value -> Shared -> Prop),Inv X pins σ H s -> (∀ b ∈ fp,jk X pins H b) -> tn i s.heap -> J.go i H ->
    wpAny (model P w) X.A (pyNext (.ref it)) (fun r s1=>∃ u,r = some u /\
      wpAny (model P w) X.A (letOwnedTupleGo tg (.ref it) u) (fun _ s2=>∃ x H',Inv X pins σ H' s2 /\ RelV x u /\ J.yld i H x H' /\ tn (i + 1) s2.heap /\ ∀ b ∈ fp,H' b = none) E s1) E s
  done:∀ (X:Cx),X.prog = P -> X.w = w -> X.K = K -> X.calm = true -> ∀ (i:Nat) (pins:List (Addr × Obj)) (s:Shared) (σ:St) (H:Hp) (E:Value -> Shared -> Prop),Inv X pins σ H s -> (∀ b ∈ fp,jk X pins H b) -> tn i s.heap -> J.stop i H ->
    wpAny (model P w) X.A (pyNext (.ref it)) (fun r s1=>r = none /\ Inv X pins σ H s1) E s
  self:∀ (A:Around) (i:Nat) (s:Shared) (Q:Value -> Shared -> Prop) (E:Value -> Shared -> Prop),tn i s.heap -> Q (.ref it) s -> wpAny (model P w) A (pyIter (.ref it)) Q E s
abbrev TI:=St -> Hp -> (It -> Hp -> Prop) -> Prop
def PIE (X:Cx) (pins:List (Addr × Obj)) (σ:St) (tg:Expr) (R:It -> Hp -> Prop) (itv:Value) (s2:Shared):Prop:=
  ∃ (it:Addr) (fp:List Addr) (tn:Nat -> Heap -> Prop) (J:It) (H':Hp),itv = .ref it /\ Inv X pins σ H' s2 /\ vf X.prog X.w X.K tg J fp it tn /\ tn 0 s2.heap /\ (∀ b ∈ fp,jk X pins H' b) /\ R J H'
def PI (X:Cx) (tg iter:Expr) (wi:TI):Prop:=
  ∀ (pins:List (Addr × Obj)) (s:Shared) (σ:St) (H:Hp) (R:It -> Hp -> Prop),Inv X pins σ H s -> wi σ H R ->
    wpAny (model X.prog X.w) X.A (eval iter X.env) (fun v s1=>wpAny (model X.prog X.w) X.A (pyIter v) (PIE X pins σ tg R) X.xe s1) X.xe s
theorem Xj {M:Model} {A:Around} {E:Value -> Shared -> Prop} {s:Shared} {tg:Expr} {it:Addr} {u:Value} {o:Obj} {n:String} {vs:Array Value} {Q:Unit -> Shared -> Prop} (ho:s.heap.get? it = some o) (hc:o.cls = .type n) (hd:o.data = .fields vs)
    (hn:["enumerate", "zip", "dict_itemiterator", "dict_reverseitemiterator", "odict_iterator", "itertools.zip_longest", "itertools.pairwise"].contains n = false) (hQ:Q () s):wpAny M A (letOwnedTupleGo tg (.ref it) u) Q E s:=by
  unfold letOwnedTupleGo
  cases tg <;> first
    | exact wpAny_pure hQ
    | (cases u <;> first
        | exact wpAny_pure hQ
        | (refine wpAny_bind (wpAny_load ho ?_)
           rw [hc,hd]
           show wpAny M A (if (["enumerate", "zip", "dict_itemiterator", "dict_reverseitemiterator", "odict_iterator", "itertools.zip_longest", "itertools.pairwise"].contains n && vs[0]? == some (rawInt _)) = true then _ else _) Q E s
           rw [if_neg (by intro h;rw [hn,Bool.false_and] at h;cases h)]
           exact wpAny_pure hQ))
def Itl (K:PySem.W.Frag) (a:Addr):It:=
  ⟨fun i H=>∃ xs x,SqL K H a xs /\ xs[i]? = some x,fun i H x H'=>H' = H /\ ∀ xs,SqL K H a xs -> xs[i]? = some x,fun i H=>∃ xs,SqL K H a xs /\ xs.length <= i⟩
def Itt (K:PySem.W.Frag) (a:Addr):It:=
  ⟨fun i H=>∃ xs x,SqT K H a xs /\ xs[i]? = some x,fun i H x H'=>H' = H /\ ∀ xs,SqT K H a xs -> xs[i]? = some x,fun i H=>∃ xs,SqT K H a xs /\ xs.length <= i⟩
def Itr (lo:Int) (n:Nat):It:=⟨fun i _=>i < n,fun i H x H'=>H' = H /\ x = .int (lo + i),fun i _=>n <= i⟩
theorem yI {P:Program} {w:World} {K:PySem.W.Frag} {tg:Expr} (a it:Addr):vf P w K tg (Itl K a) [it] it (fun i h=>h.IsListIter it a i) where
  mem:=by simp
  obj:=fun i h st b hb=>by
    have e:b = it:=by simpa using hb
    subst e
    obtain ⟨o,e,c,d⟩:=st
    exact ⟨o,e,fun v z=>by rw [d] at z;cases z⟩
  keep:=fun i h h' st k=>st.at fun o e=>k it (by simp) o e
  item:=by
    intro X hP hw hK hc i pins s σ H E I hf st hg
    subst hP hw hK
    obtain ⟨xs,x,hq,hx⟩:=hg
    obtain ⟨its,rv,p,hz⟩:=I.list hq
    obtain ⟨u,hu,ru⟩:=rv.get hx
    obtain ⟨f0,f1,f2,f3,f4,f5⟩:=hf it (by simp)
    refine wpAny_pyNext_list_item st p.isList (x:=u) (by simpa using hu) fun h' st' sb=>?_
    have I1:Inv X pins σ H { s with heap:=h' }:=I.turned (t':=s.toks) (fun b o hb e=>(sb.2 b hb).trans e) f0 f1 f3 f4 f5
    obtain ⟨o,e,c,d⟩:=id st'
    exact ⟨u,rfl,Xj (s:={ s with heap:=h' }) e c d (by decide) ⟨x,H,I1,ru,⟨rfl,fun ys hy=>by rw [I.list_inj hy hq];exact hx⟩,st',fun b hb=>(hf b hb).1⟩⟩
  done:=by
    intro X hP hw hK hc i pins s σ H E I hf st hg
    subst hP hw hK
    obtain ⟨xs,hq,hx⟩:=hg
    obtain ⟨its,rv,p,hz⟩:=I.list hq
    obtain ⟨f0,f1,f2,f3,f4,f5⟩:=hf it (by simp)
    have hl:=rv.length
    exact wpAny_pyNext_list_end (I.ok.hd hc) st p.isList (by simp;omega) fun h' eb=>⟨rfl,I.turned (t':=s.toks) (fun b o hb e=>eb b o hb e) f0 f1 f3 f4 f5⟩
  self:=fun _ _ _ _ _ st h=>wpAny_pyIter_listiter st h
theorem wH {P:Program} {w:World} {K:PySem.W.Frag} {tg:Expr} (a it:Addr):vf P w K tg (Itt K a) [it] it (fun i h=>h.IsTupleIter it a i) where
  mem:=by simp
  obj:=fun i h st b hb=>by
    have e:b = it:=by simpa using hb
    subst e
    obtain ⟨o,e,c,d⟩:=st
    exact ⟨o,e,fun v z=>by rw [d] at z;cases z⟩
  keep:=fun i h h' st k=>st.at fun o e=>k it (by simp) o e
  item:=by
    intro X hP hw hK hc i pins s σ H E I hf st hg
    subst hP hw hK
    obtain ⟨xs,x,hq,hx⟩:=hg
    obtain ⟨its,rv,p,hz⟩:=I.tuple hq
    obtain ⟨u,hu,ru⟩:=rv.get hx
    obtain ⟨f0,f1,f2,f3,f4,f5⟩:=hf it (by simp)
    refine wpAny_pyNext_tuple_item st (show s.heap.IsTuple a its.toArray from p) (x:=u) (by simpa using hu) fun h' st' sb=>?_
    have I1:Inv X pins σ H { s with heap:=h' }:=I.turned (t':=s.toks) (fun b o hb e=>(sb.2 b hb).trans e) f0 f1 f3 f4 f5
    obtain ⟨o,e,c,d⟩:=id st'
    exact ⟨u,rfl,Xj (s:={ s with heap:=h' }) e c d (by decide) ⟨x,H,I1,ru,⟨rfl,fun ys hy=>by rw [I.tuple_inj hy hq];exact hx⟩,st',fun b hb=>(hf b hb).1⟩⟩
  done:=by
    intro X hP hw hK hc i pins s σ H E I hf st hg
    subst hP hw hK
    obtain ⟨xs,hq,hx⟩:=hg
    obtain ⟨its,rv,p,hz⟩:=I.tuple hq
    obtain ⟨f0,f1,f2,f3,f4,f5⟩:=hf it (by simp)
    have hl:=rv.length
    exact wpAny_pyNext_tuple_end (I.ok.hd hc) st (show s.heap.IsTuple a its.toArray from p) (by simp;omega) fun h' eb=>⟨rfl,I.turned (t':=s.toks) (fun b o hb e=>eb b o hb e) f0 f1 f3 f4 f5⟩
  self:=fun _ _ _ _ _ st h=>wpAny_pyIter_tupleiter st h
theorem QX {P:Program} {w:World} {K:PySem.W.Frag} {tg:Expr} (it:Addr) (lo:Int) (n:Nat):vf P w K tg (Itr lo n) [it] it (fun i h=>IsRangeIter h it (lo + (i:Nat) * 1) ((n:Int) - (i:Nat)) 1) where
  mem:=by simp
  obj:=fun i h st b hb=>by
    have e:b = it:=by simpa using hb
    subst e
    exact ⟨_,st,fun v z=>by
      have z':Data.fields _ = Data.cell v:=z
      cases z'⟩
  keep:=fun i h h' st k=>k it (by simp) _ st
  item:=by
    intro X hP hw hK hc i pins s σ H E I hf st hg
    subst hP hw hK
    obtain ⟨f0,f1,f2,f3,f4,f5⟩:=hf it (by simp)
    have W:=Walks.range (prog:=X.prog) (w:=X.w) (I.ok.hd hc) it lo 1 n
    refine W.item i s _ _ hg st fun v h' tk hv st' kk=>?_
    obtain ⟨t,rfl⟩:=hv
    have I1:Inv X pins σ H { s with heap:=h',toks:=tk }:=I.turned (fun b o hb e=>kk b o (by simpa using hb) e) f0 f1 f3 f4 f5
    refine ⟨_,rfl,Xj (s:={ s with heap:=h',toks:=tk }) (n:= "range_iterator") st' rfl rfl (by decide) ⟨.int (lo + i),H,I1,⟨t,?_⟩,⟨rfl,rfl⟩,st',fun b hb=>(hf b hb).1⟩⟩
    rw [Int.mul_one]
  done:=by
    intro X hP hw hK hc i pins s σ H E I hf st hg
    subst hP hw hK
    obtain ⟨f0,f1,f2,f3,f4,f5⟩:=hf it (by simp)
    exact wpAny_pyNext_range_end (I.ok.hd hc) st (by have:n <= i:=hg;omega) fun h' eb=>⟨rfl,I.turned (t':=s.toks) (fun b o hb e=>eb b o hb e) f0 f1 f3 f4 f5⟩
  self:=fun _ _ _ _ _ st h=>wpAny_pyIter_rangeiter st h
section
variable {X:Cx} {tg:Expr}
inductive InL (K:PySem.W.Frag) (x:V) (H:Hp) (R:It -> Hp -> Prop):Prop
  | mk (a:Addr) (h:x = .ref a) (e:∃ xs,SqL K H a xs) (r:R (Itl K a) H):InL K x H R
inductive InT (K:PySem.W.Frag) (x:V) (H:Hp) (R:It -> Hp -> Prop):Prop
  | mk (a:Addr) (h:x = .ref a) (e:∃ xs,SqT K H a xs) (r:R (Itt K a) H):InT K x H R
def zaF (K:PySem.W.Frag) (tl:TE):TI:=fun σ H R=>tl σ H fun x H1=>InL K x H1 R
def zcy (K:PySem.W.Frag) (tl:TE):TI:=fun σ H R=>tl σ H fun x H1=>InT K x H1 R
theorem zL {l:Expr} {tl:TE} (hl:PE X l tl):PI X tg l (zaF X.K tl):=by
  intro pins s σ H R I h
  refine thn (hl pins s σ H _ I h) fun v s1 ⟨x,H1,I1,r1,q1⟩=>?_
  obtain ⟨a,e,⟨xs,hq⟩,q⟩:=q1
  subst e
  cases r1
  obtain ⟨its,rv,p,hz⟩:=I1.list hq
  refine wpAny_pyIter_list p.isList ?_
  refine ⟨s1.heap.objs.size,[s1.heap.objs.size],_,_,H1,rfl,I1.kept (t':=s1.toks) fun b o e=>Heap.get?_push_of_some _ e,yI a _,⟨_,Heap.get?_push_size _ rfl,rfl,rfl⟩,fun b hb=>?_,q⟩
  have e:b = s1.heap.objs.size:=by simpa using hb
  subst e
  exact I1.fpOk (Nat.le_refl _) (I1.hok.fresh (Nat.le_refl _))
theorem jN {l:Expr} {tl:TE} (hl:PE X l tl):PI X tg l (zcy X.K tl):=by
  intro pins s σ H R I h
  refine thn (hl pins s σ H _ I h) fun v s1 ⟨x,H1,I1,r1,q1⟩=>?_
  obtain ⟨a,e,⟨xs,hq⟩,q⟩:=q1
  subst e
  cases r1
  obtain ⟨its,rv,p,hz⟩:=I1.tuple hq
  refine wpAny_pyIter_tuple (show s1.heap.IsTuple a its.toArray from p) ?_
  refine ⟨s1.heap.objs.size,[s1.heap.objs.size],_,_,H1,rfl,I1.kept (t':=s1.toks) fun b o e=>Heap.get?_push_of_some _ e,wH a _,⟨_,Heap.get?_push_size _ rfl,rfl,rfl⟩,fun b hb=>?_,q⟩
  have e:b = s1.heap.objs.size:=by simpa using hb
  subst e
  exact I1.fpOk (Nat.le_refl _) (I1.hok.fresh (Nat.le_refl _))
theorem Wj {pins:List (Addr × Obj)} {σ:St} {H:Hp} {s:Shared} {R:It -> Hp -> Prop} {E:Value -> Shared -> Prop} {lo hi:Int} {t u v:Tok} {tk:Nat} (I:Inv X pins σ H s) (h1:-(2 ^ 62) <= lo) (h2:lo < 2 ^ 62) (h3:-(2 ^ 62) <= hi) (h4:hi < 2 ^ 62)
    (q:R (Itr lo (hi - lo).toNat) H):wpAny (model X.prog X.w) X.A (pyIter (.ref s.heap.objs.size)) (PIE X pins σ tg R) E { s with heap:=s.heap.push { cls:=.type "range",data:=.fields #[.int lo t,.int hi u,.int 1 v] },toks:=tk }:=by
  refine wpAny_pyIter_range (IsRange.new ..) (small_one h1 h2 h3 h4) ?_
  have I1:Inv X pins σ H { s with heap:=s.heap.push { cls:=.type "range",data:=.fields #[.int lo t,.int hi u,.int 1 v] },toks:=tk }:=I.kept fun b o e=>Heap.get?_push_of_some _ e
  refine ⟨(s.heap.push { cls:=.type "range",data:=.fields #[.int lo t,.int hi u,.int 1 v] }).objs.size,[(s.heap.push { cls:=.type "range",data:=.fields #[.int lo t,.int hi u,.int 1 v] }).objs.size],_,_,H,rfl,
    I1.kept (t':=tk) fun b o e=>Heap.get?_push_of_some _ e,QX _ lo (hi - lo).toNat,?_,fun b hb=>?_,q⟩
  · have e1:lo + ((0:Nat):Int) * 1 = lo:=by simp
    have e2:(((hi - lo).toNat:Nat):Int) - ((0:Nat):Int) = Builtin.Range.rangeSize lo hi 1:=by rw [rangeSize_one];split <;> omega
    show IsRangeIter _ _ (lo + ((0:Nat):Int) * 1) ((((hi - lo).toNat:Nat):Int) - ((0:Nat):Int)) 1
    rw [e1,e2]
    exact Heap.get?_push_size _ rfl
  · have e:b = (s.heap.push { cls:=.type "range",data:=.fields #[.int lo t,.int hi u,.int 1 v] }).objs.size:=by simpa using hb
    subst e
    exact I1.fpOk (Nat.le_refl _) (I1.hok.fresh (Nat.le_refl _))
inductive zcN (vs:List V) (H:Hp) (R:It -> Hp -> Prop):Prop
  | mk (j:Int) (h:vs = [.int j]) (h1:-(2 ^ 62) <= j) (h2:j < 2 ^ 62) (r:R (Itr 0 j.toNat) H):zcN vs H R
def zcA (ta:TA):TI:=fun σ H R=>ta σ H fun vs H1=>zcN vs H1 R
theorem qe {a:Expr} {ta:TA} {p pos:Pos} (hg:Gl X "range") (hm:X.mg "range" = none) (ha:PA X [a] ta) (hs:starEach [a] X.env = [(false,eval a X.env)]:=by rfl):PI X tg (.Call (.Name "range" p) [a] [] pos) (zcA ta):=by
  intro pins s σ H R I h
  refine Call_ (jY I hg hm boot_range (PyProof.Rows.callWith_type1 (thn (ha pos pins s σ H _ I h) fun us s1 ⟨vs,H1,I1,r1,q1⟩=>?_) hs rfl))
  obtain ⟨j,e,q1,q2,q⟩:=q1
  subst e
  cases r1 with
  | cons r rr=>
    cases rr
    obtain ⟨t,rfl⟩:=r
    exact call_range_1 (Wj I1 (by omega) (by omega) q1 q2 (by simpa using q))
def zc0 (wi:TI) (g:TG) (tb:TS):TS:=fun D σ H=>wi σ H fun J H1=>∃ W:Nat -> Nat -> St -> Hp -> Prop,(∃ m,W 0 m σ H1) /\ ∀ i m σ H,W i m σ H ->
  (J.stop i H /\ D.nx σ H) \/ (J.go i H /\ ∃ N:St -> Hp -> Prop,(∀ σ' H',N σ' H' -> ∃ m',m' < m /\ W (i + 1) m' σ' H') /\ ∀ x H',J.yld i H x H' -> g x σ H' fun σ2 H2=>tb { D with nx:=N,ct:=N,bk:=D.nx } σ2 H2)
def zR (fp:List Addr) (h:Heap):List (Addr × Obj):=fp.filterMap fun b=>(h.get? b).map fun o=>(b,o)
theorem qy {fp:List Addr} {h:Heap} {b:Addr} {o:Obj} (hb:b ∈ fp) (e:h.get? b = some o):(b,o) ∈ zR fp h:=List.mem_filterMap.mpr ⟨b,hb,by rw [e];rfl⟩
theorem j9 {fp:List Addr} {h:Heap} {p:Addr × Obj} (hp:p ∈ zR fp h):p.1 ∈ fp /\ h.get? p.1 = some p.2:=by
  obtain ⟨b,hb,e⟩:=List.mem_filterMap.mp hp
  cases q:h.get? b with
  | none=>rw [q] at e;cases e
  | some o=>
    rw [q] at e
    have e':(b,o) = p:=Option.some.inj e
    subst e'
    exact ⟨hb,q⟩
theorem Inv.pinned {pins:List (Addr × Obj)} {σ:St} {H:Hp} {s:Shared} {fp:List Addr} (I:Inv X pins σ H s) (hf:∀ b ∈ fp,jk X pins H b) (ho:∀ b ∈ fp,∃ o,s.heap.get? b = some o /\ ∀ v,o.data ≠ .cell v):Inv X (pins ++ zR fp s.heap) σ H s:=
  I.pins_of fun p hp=>(List.mem_append.mp hp).elim (fun z=>I.pin p (List.mem_append_right _ z)) fun z=>by
    obtain ⟨hb,e⟩:=j9 z
    obtain ⟨f0,f1,f2,_⟩:=hf p.1 hb
    obtain ⟨o,e',d⟩:=ho p.1 hb
    rw [e] at e';cases e'
    exact ⟨e,f0,f1,f2,d⟩
theorem Inv.unpinned {pins pl:List (Addr × Obj)} {σ:St} {H:Hp} {s:Shared} (I:Inv X (pins ++ pl) σ H s):Inv X pins σ H s:=I.pins_of fun p hp=>I.pin p (List.mem_append_right _ (List.mem_append_left _ hp))
theorem zU {iter:Expr} {body:List Stmt} {wi:TI} {g:TG} {tb:TS} {pos:Pos} (hp:PassesOwn (model X.prog X.w) X.A X.env X.xe) (hc:X.calm = true) (hi:PI X tg iter wi) (hg:PG X tg g) (hb:PSs X body tb)
    (hs:∀ x,foldedSetIterable iter X.env x = pure x:=by intro _;rfl):PS X (.For tg iter body [] pos) (zc0 wi g tb):=by
  intro pins s σ H D I h
  refine wpAny_For (thn (hi pins s σ H _ I h) fun v s1 h1=>thn h1 fun itv s2 h2=>?_) hs
  obtain ⟨it,fp,tn,J,H2,e,I2,T,st2,f2,W,⟨m0,w0⟩,turn⟩:=h2
  subst e
  have stat:∀ {H':Hp},(∀ b ∈ fp,H' b = none) -> ∀ b ∈ fp,jk X pins H' b:=fun hn b hb=>⟨hn b hb,(f2 b hb).2⟩
  refine codeAny_forLoop_any (fun n s'=>∃ i σ' H',Inv X pins σ' H' s' /\ tn i s'.heap /\ (∀ b ∈ fp,H' b = none) /\ W i n σ' H') ?_ m0 ⟨0,σ,H2,I2,st2,fun b hb=>(f2 b hb).1,w0⟩
  rintro n s3 ⟨i,σ3,H3,I3,st3,fr3,w3⟩
  rcases turn i n σ3 H3 w3 with ⟨stop,qn⟩ | ⟨go,N,hN,step⟩
  · refine wpAny_passesOwn hp (thn (T.done X rfl rfl rfl hc i pins s3 σ3 H3 X.xe I3 (stat fr3) st3 stop) fun r s4 ⟨hr,I4⟩=>?_)
    subst hr
    exact wpAny_execs_nil ⟨σ3,H3,I4,qn⟩
  · refine wpAny_passesOwn hp (thn (T.item X rfl rfl rfl hc i pins s3 σ3 H3 X.xe I3 (stat fr3) st3 go) fun r s4 ⟨u,hr,h4⟩=>?_)
    subst hr
    refine wpAny_passesOwn hp (thn h4 fun _ s5 ⟨x,H5,I5,r5,y5,st5,fr5⟩=>?_)
    have I5':=I5.pinned (stat fr5) (T.obj _ _ st5)
    refine wpAny_passesOwn hp (thn (hg _ s5 σ3 H5 x u _ I5' r5 (step x H5 y5)) fun _ s6 ⟨σ6,H6,I6,q6⟩=>?_)
    refine wpAny_passesOwn hp (thn (hb _ s6 σ6 H6 _ I6 q6) fun f s7 q7=>?_)
    have again:∀ {σ7:St} {H7:Hp},Inv X (pins ++ zR fp s5.heap) σ7 H7 s7 -> N σ7 H7 -> ∃ m,m < n /\ ∃ i σ' H',Inv X pins σ' H' s7 /\ tn i s7.heap /\ (∀ b ∈ fp,H' b = none) /\ W i m σ' H':=fun {σ7 H7} I7 n7=>by
      obtain ⟨m',hm,w7⟩:=hN σ7 H7 n7
      refine ⟨m',hm,i + 1,σ7,H7,I7.unpinned,T.keep _ _ _ st5 fun b hb o e=>(I7.pin (b,o) (List.mem_append_right _ (List.mem_append_right _ (qy hb e)))).1,fun b hb=>?_,w7⟩
      obtain ⟨o,e,d⟩:=T.obj _ _ st5 b hb
      exact (I7.pin (b,o) (List.mem_append_right _ (List.mem_append_right _ (qy hb e)))).2.1
    cases f with
    | next=>obtain ⟨σ7,H7,I7,n7⟩:=q7;exact again I7 n7
    | cont=>obtain ⟨σ7,H7,I7,n7⟩:=q7;exact again I7 n7
    | brk=>obtain ⟨σ7,H7,I7,q7⟩:=q7;exact ⟨σ7,H7,I7.unpinned,q7⟩
    | ret v=>obtain ⟨x7,σ7,H7,I7,r7,q7⟩:=q7;exact ⟨x7,σ7,H7,I7.unpinned,r7,q7⟩
end
theorem qL {K:PySem.W.Frag} {a:Addr} {xs:List V} {g:TG} {tb:TS} {D:yE} {σ:St} {H:Hp} (Pv:Nat -> St -> Hp -> Prop) (h0:Pv 0 σ H) (hl:∀ i σ H,i <= xs.length -> Pv i σ H -> SqL K H a xs)
    (hs:∀ i x σ H,xs[i]? = some x -> Pv i σ H -> g x σ H fun σ2 H2=>tb { D with nx:=Pv (i + 1),ct:=Pv (i + 1),bk:=D.nx } σ2 H2) (hd:∀ σ H,Pv xs.length σ H -> D.nx σ H) :
    ∃ W:Nat -> Nat -> St -> Hp -> Prop,(∃ m,W 0 m σ H) /\ ∀ i m σ H,W i m σ H ->
      ((Itl K a).stop i H /\ D.nx σ H) \/ ((Itl K a).go i H /\ ∃ N:St -> Hp -> Prop,(∀ σ' H',N σ' H' -> ∃ m',m' < m /\ W (i + 1) m' σ' H') /\ ∀ x H',(Itl K a).yld i H x H' -> g x σ H' fun σ2 H2=>tb { D with nx:=N,ct:=N,bk:=D.nx } σ2 H2):=by
  refine ⟨fun i m σ H=>m = xs.length - i /\ i <= xs.length /\ Pv i σ H,⟨xs.length,by simp,Nat.zero_le _,h0⟩,?_⟩
  rintro i m σ H ⟨rfl,hi,p⟩
  have q:=hl i σ H hi p
  by_cases hlt:i < xs.length
  · refine .inr ⟨⟨xs,xs[i],q,by simp [hlt]⟩,Pv (i + 1),fun σ' H' p'=>⟨xs.length - (i + 1),by omega,rfl,hlt,p'⟩,fun x H' y=>?_⟩
    obtain ⟨e,y⟩:=y
    subst e
    exact hs i x σ _ (y xs q) p
  · have e:i = xs.length:=by omega
    subst e
    exact .inl ⟨⟨xs,q,Nat.le_refl _⟩,hd σ H p⟩
theorem Xk {K:PySem.W.Frag} {a:Addr} {xs:List V} {g:TG} {tb:TS} {D:yE} {σ:St} {H:Hp} (Pv:Nat -> St -> Hp -> Prop) (h0:Pv 0 σ H) (hl:∀ i σ H,i <= xs.length -> Pv i σ H -> SqT K H a xs)
    (hs:∀ i x σ H,xs[i]? = some x -> Pv i σ H -> g x σ H fun σ2 H2=>tb { D with nx:=Pv (i + 1),ct:=Pv (i + 1),bk:=D.nx } σ2 H2) (hd:∀ σ H,Pv xs.length σ H -> D.nx σ H) :
    ∃ W:Nat -> Nat -> St -> Hp -> Prop,(∃ m,W 0 m σ H) /\ ∀ i m σ H,W i m σ H ->
      ((Itt K a).stop i H /\ D.nx σ H) \/ ((Itt K a).go i H /\ ∃ N:St -> Hp -> Prop,(∀ σ' H',N σ' H' -> ∃ m',m' < m /\ W (i + 1) m' σ' H') /\ ∀ x H',(Itt K a).yld i H x H' -> g x σ H' fun σ2 H2=>tb { D with nx:=N,ct:=N,bk:=D.nx } σ2 H2):=by
  refine ⟨fun i m σ H=>m = xs.length - i /\ i <= xs.length /\ Pv i σ H,⟨xs.length,by simp,Nat.zero_le _,h0⟩,?_⟩
  rintro i m σ H ⟨rfl,hi,p⟩
  have q:=hl i σ H hi p
  by_cases hlt:i < xs.length
  · refine .inr ⟨⟨xs,xs[i],q,by simp [hlt]⟩,Pv (i + 1),fun σ' H' p'=>⟨xs.length - (i + 1),by omega,rfl,hlt,p'⟩,fun x H' y=>?_⟩
    obtain ⟨e,y⟩:=y
    subst e
    exact hs i x σ _ (y xs q) p
  · have e:i = xs.length:=by omega
    subst e
    exact .inl ⟨⟨xs,q,Nat.le_refl _⟩,hd σ H p⟩
theorem qK {lo:Int} {n:Nat} {g:TG} {tb:TS} {D:yE} {σ:St} {H:Hp} (Pv:Nat -> St -> Hp -> Prop) (h0:Pv 0 σ H)
    (hs:∀ i σ H,i < n -> Pv i σ H -> g (.int (lo + i)) σ H fun σ2 H2=>tb { D with nx:=Pv (i + 1),ct:=Pv (i + 1),bk:=D.nx } σ2 H2) (hd:∀ σ H,Pv n σ H -> D.nx σ H) :
    ∃ W:Nat -> Nat -> St -> Hp -> Prop,(∃ m,W 0 m σ H) /\ ∀ i m σ H,W i m σ H ->
      ((Itr lo n).stop i H /\ D.nx σ H) \/ ((Itr lo n).go i H /\ ∃ N:St -> Hp -> Prop,(∀ σ' H',N σ' H' -> ∃ m',m' < m /\ W (i + 1) m' σ' H') /\ ∀ x H',(Itr lo n).yld i H x H' -> g x σ H' fun σ2 H2=>tb { D with nx:=N,ct:=N,bk:=D.nx } σ2 H2):=by
  refine ⟨fun i m σ H=>m = n - i /\ i <= n /\ Pv i σ H,⟨n,by simp,Nat.zero_le _,h0⟩,?_⟩
  rintro i m σ H ⟨rfl,hi,p⟩
  by_cases hlt:i < n
  · refine .inr ⟨hlt,Pv (i + 1),fun σ' H' p'=>⟨n - (i + 1),by omega,rfl,hlt,p'⟩,fun x H' y=>?_⟩
    obtain ⟨e,y⟩:=y
    subst e y
    exact hs i σ _ hlt p
  · have e:i = n:=by omega
    subst e
    exact .inl ⟨Nat.le_refl _,hd σ H p⟩
abbrev R2:=V -> V -> Hp -> VK -> Prop
def OpR (X:Cx) (f:Value -> Value -> Sem Value) (r:R2):Prop:=
  ∀ (pins:List (Addr × Obj)) (s:Shared) (σ:St) (H:Hp) (x y:V) (v u:Value) (Q:VK),Inv X pins σ H s -> RelV x v -> RelV y u -> r x y H Q ->
    wpAny (model X.prog X.w) X.A (f v u) (EP X pins σ Q) X.xe s
def UnR (X:Cx) (f:Value -> Sem Value) (r:V -> Hp -> VK -> Prop):Prop:=
  ∀ (pins:List (Addr × Obj)) (s:Shared) (σ:St) (H:Hp) (x:V) (v:Value) (Q:VK),Inv X pins σ H s -> RelV x v -> r x H Q ->
    wpAny (model X.prog X.w) X.A (f v) (EP X pins σ Q) X.xe s
def ja (X:Cx) (f:Value) (r:List V -> Hp -> VK -> Prop):Prop:=
  ∀ (pins:List (Addr × Obj)) (s:Shared) (σ:St) (H:Hp) (xs:List V) (us:List Value) (Q:VK),Inv X pins σ H s -> Vals xs us -> r xs H Q ->
    wpAny (model X.prog X.w) X.A (call f us) (EP X pins σ Q) X.xe s
def tOp (r:R2) (ta tb:TE):TE:=fun σ H Q=>ta σ H fun x H1=>tb σ H1 fun y H2=>r x y H2 Q
def tUn (r:V -> Hp -> VK -> Prop) (ta:TE):TE:=fun σ H Q=>ta σ H fun x H1=>r x H1 Q
inductive rI (C:Int -> Int -> Prop) (g:Int -> Int -> V) (x:V) (y:V) (H:Hp) (Q:VK):Prop
  | mk (i j:_) (_:x = .int i) (_:y = .int j) (_:C i j) (_:Q (g i j) H):rI C g x y H Q
inductive rI0 (g:Int -> Int -> V) (x:V) (y:V) (H:Hp) (Q:VK):Prop
  | mk (i j:_) (_:x = .int i) (_:y = .int j) (_:Q (g i j) H):rI0 g x y H Q
inductive rU (g:Int -> V) (x:V) (H:Hp) (Q:VK):Prop
  | mk (i:_) (_:x = .int i) (_:Q (g i) H):rU g x H Q
section
variable {X:Cx} {a b c:Expr} {ta tb tc:TE} {pos:Pos}
theorem zbG (ha:PE X a ta) (hb:PE X b tb) {pins:List (Addr × Obj)} {s:Shared} {σ:St} {H:Hp} {R:V -> V -> Hp -> Prop} (I:Inv X pins σ H s)
    (h:ta σ H fun x H1=>tb σ H1 fun y H2=>R x y H2) {Q:Value -> Shared -> Prop} {f:Value -> Value -> Sem Value}
    (hf:∀ v u s2 x y H2,Inv X pins σ H2 s2 -> RelV x v -> RelV y u -> R x y H2 -> wpAny (model X.prog X.w) X.A (f v u) Q X.xe s2) :
    wpAny (model X.prog X.w) X.A (eval a X.env) (fun v s₁=>wpAny (model X.prog X.w) X.A (eval b X.env) (fun u s₂=>wpAny (model X.prog X.w) X.A (f v u) Q X.xe s₂) X.xe s₁) X.xe s:=by
  refine thn (ha pins s σ H _ I h) fun v s1 ⟨x,H1,I1,r1,q1⟩=>?_
  refine thn (hb pins s1 σ H1 _ I1 q1) fun u s2 ⟨y,H2,I2,r2,q2⟩=>?_
  exact hf v u s2 x y H2 I2 r1 r2 q2
theorem zA {op:Operator} {r:R2} (ho:OpR X (binaryOp op) r) (ha:PE X a ta) (hb:PE X b tb):PE X (.BinOp a op b pos) (tOp r ta tb):=by
  intro pins s σ H Q I h
  exact wpAny_BinOp (zbG ha hb I h fun v u s2 x y H2 I2 rx ry q=>ho pins s2 σ H2 x y v u Q I2 rx ry q)
theorem zcg {op:UnaryOp} {r:V -> Hp -> VK -> Prop} (ho:UnR X (unaryOp op) r) (ha:PE X a ta):PE X (.UnaryOp op a pos) (tUn r ta):=by
  intro pins s σ H Q I h
  exact UnaryOp_ (thn (ha pins s σ H _ I h) fun v s1 ⟨x,H1,I1,r1,q1⟩=>ho pins s1 σ H1 x v Q I1 r1 q1)
theorem opI {f:Value -> Value -> Sem Value} {C:Int -> Int -> Prop} {g:Int -> Int -> Int}
    (rule:∀ (i j:Int) (t u:Tok) (s:Shared) (Q:Value -> Shared -> Prop) (E:Value -> Shared -> Prop),C i j -> Q (.int (g i j) s.toks) { s with toks:=s.toks + 1 } -> wpAny (model X.prog X.w) X.A (f (.int i t) (.int j u)) Q E s) :
    OpR X f (rI C fun i j=>.int (g i j)):=by
  intro pins s σ H x y v u Q I rx ry h
  obtain ⟨i,j,rfl,rfl,hc,q⟩:=h
  obtain ⟨t,rfl⟩:=rx
  obtain ⟨t',rfl⟩:=ry
  exact rule i j t t' s _ _ hc ⟨.int (g i j),H,I.tok _,⟨_,rfl⟩,q⟩
theorem zck {f:Value -> Value -> Sem Value} {g:Int -> Int -> Int}
    (rule:∀ (i j:Int) (t u:Tok) (s:Shared) (Q:Value -> Shared -> Prop) (E:Value -> Shared -> Prop),Q (.int (g i j) s.toks) { s with toks:=s.toks + 1 } -> wpAny (model X.prog X.w) X.A (f (.int i t) (.int j u)) Q E s) :
    OpR X f (rI0 fun i j=>.int (g i j)):=by
  intro pins s σ H x y v u Q I rx ry h
  obtain ⟨i,j,rfl,rfl,q⟩:=h
  obtain ⟨t,rfl⟩:=rx
  obtain ⟨t',rfl⟩:=ry
  exact rule i j t t' s _ _ ⟨.int (g i j),H,I.tok _,⟨_,rfl⟩,q⟩
theorem zbi {f:Value -> Value -> Sem Value} {g:Int -> Int -> Bool}
    (rule:∀ (i j:Int) (t u:Tok) (s:Shared) (Q:Value -> Shared -> Prop) (E:Value -> Shared -> Prop),Q (.bool (g i j)) s -> wpAny (model X.prog X.w) X.A (f (.int i t) (.int j u)) Q E s) :
    OpR X f (rI0 fun i j=>.bl (g i j)):=by
  intro pins s σ H x y v u Q I rx ry h
  obtain ⟨i,j,rfl,rfl,q⟩:=h
  obtain ⟨t,rfl⟩:=rx
  obtain ⟨t',rfl⟩:=ry
  exact rule i j t t' s _ _ ⟨.bl (g i j),H,I,rfl,q⟩
def zcP (i j:Int):Prop:=0 < j /\ j < 1073741824
def zda (i j:Int):Prop:=0 <= j /\ j <= 1000000 /\ i.natAbs < 2 ^ 64
def CMul (i j:Int):Prop:=(-(2 ^ 64) < i /\ i < 2 ^ 64) \/ (-(2 ^ 64) < j /\ j < 2 ^ 64)
theorem CMul.ok {i j:Int} (h:CMul i j):IntMulOk i j:=by
  rcases h with ⟨h1,h2⟩ | ⟨h1,h2⟩
  · exact .of_left (intBits_le_64 h1 h2)
  · exact .of_right (intBits_le_64 h1 h2)
theorem qh:OpR X (binaryOp .Add) (rI0 fun i j=>.int (i + j)):=zck fun _ _ _ _ _ _ _ q=>add_int q
theorem xC:OpR X (binaryOp .Sub) (rI0 fun i j=>.int (i - j)):=zck fun _ _ _ _ _ _ _ q=>sub_int q
theorem jO:OpR X (binaryOp .Mult) (rI CMul fun i j=>.int (i * j)):=opI fun _ _ _ _ _ _ _ hc q=>mul_int q hc.ok
theorem J3:OpR X (binaryOp .FloorDiv) (rI zcP fun i j=>.int (i / j)):=opI fun i j _ _ _ _ _ hc q=>by
  have h1:(0:Int) < j:=hc.1
  have h2:j < 1073741824:=hc.2
  exact floordiv_int (by omega) (by rw [Int.fdiv_eq_ediv_of_nonneg i (by omega)];exact q) (.inl (PyProof.noPylong_small (by omega)))
theorem jG:OpR X (binaryOp .Mod) (rI (fun _ j=>0 < j) fun i j=>.int (i % j)):=opI fun i j _ _ _ _ _ hc q=>by
  have h1:(0:Int) < j:=hc
  exact mod_int' (by omega) (by rw [Int.fmod_eq_emod_of_nonneg i (by omega)];exact q)
theorem zbh:OpR X (binaryOp .Pow) (rI zda fun i j=>.int (i ^ j.toNat)):=opI fun _ _ _ _ _ _ _ hc q=>pow_int_small hc.1 hc.2.1 hc.2.2 q
theorem unI {f:Value -> Sem Value} {g:Int -> Int}
    (rule:∀ (i:Int) (t:Tok) (s:Shared) (Q:Value -> Shared -> Prop) (E:Value -> Shared -> Prop),Q (.int (g i) s.toks) { s with toks:=s.toks + 1 } -> wpAny (model X.prog X.w) X.A (f (.int i t)) Q E s) :
    UnR X f (rU fun i=>.int (g i)):=by
  intro pins s σ H x v Q I rx h
  obtain ⟨i,rfl,q⟩:=h
  obtain ⟨t,rfl⟩:=rx
  exact rule i t s _ _ ⟨.int (g i),H,I.tok _,⟨_,rfl⟩,q⟩
theorem zaJ:UnR X (unaryOp .USub) (rU fun i=>.int (-i)):=unI fun _ _ _ _ _ q=>neg_int q
end
def zbX:V -> V -> Bool
  | .non,.non=>true | .non,.int _=>true | .int _,.non=>true | .non,.bl _=>true | .bl _,.non=>true | .non,.str _=>true | .str _,.non=>true
  | .int _,.int _=>true | .bl _,.bl _=>true | .str _,.str _=>true | .byt _,.byt _=>true
  | .int _,.str _=>true | .str _,.int _=>true | .bl _,.str _=>true | .str _,.bl _=>true
  | _,_=>false
def rEq:R2:=fun x y H Q=>zbX x y = true /\ Q (.bl (decide (x = y))) H
def rNe:R2:=fun x y H Q=>zbX x y = true /\ Q (.bl (!decide (x = y))) H
theorem Xt {i j:Int}:decide (V.int i = V.int j) = (i == j):=by
  rw [Bool.eq_iff_iff]
  simp
theorem W7 {i j:Bool}:decide (V.bl i = V.bl j) = (i == j):=by
  rw [Bool.eq_iff_iff]
  simp
theorem Xr {i j:Str}:decide (V.str i = V.str j) = (i == j):=by
  rw [Bool.eq_iff_iff]
  simp
theorem Xu {i j:Array UInt8}:decide (V.byt i = V.byt j) = (i.toList == j.toList):=by
  rw [Bool.eq_iff_iff]
  cases i
  cases j
  simp
section
variable {X:Cx} {a b c:Expr} {ta tb tc:TE} {pos:Pos}
theorem zP {pins:List (Addr × Obj)} {σ:St} {H:Hp} {s:Shared} {Q:VK} {k k':Bool} (I:Inv X pins σ H s) (q:Q (.bl k) H) (e:k = k'):EP X pins σ Q (.bool k') s:=by
  subst e
  exact ⟨.bl k,H,I,rfl,q⟩
theorem jg:OpR X (compareOp .Eq) rEq:=by
  intro pins s σ H x y v u Q I rx ry h
  obtain ⟨hs,q⟩:=h
  cases x with
  | non=>
    cases rx
    cases y with
    | non=>cases ry;exact PySem.EqNone.eq_none_none (zP I q (by simp))
    | bl j=>cases ry;exact PySem.EqNone.eq_none_bool (zP I q (by simp))
    | int j=>obtain ⟨t',rfl⟩:=ry;exact PySem.EqNone.eq_none_int (zP I q (by simp))
    | str j=>obtain ⟨t',rfl⟩:=ry;exact PySem.EqNone.eq_none_str (zP I q (by simp))
    | _=>exact absurd (show false = true from hs) Bool.false_ne_true
  | bl i=>
    cases rx
    cases y with
    | non=>cases ry;exact PySem.EqNone.eq_bool_none (zP I q (by simp))
    | bl j=>cases ry;exact eq_bool (zP I q W7)
    | str j=>obtain ⟨t',rfl⟩:=ry;exact PySem.EqMixed.eq_bool_str (zP I q (by simp))
    | _=>exact absurd (show false = true from hs) Bool.false_ne_true
  | int i=>
    obtain ⟨t,rfl⟩:=rx
    cases y with
    | non=>cases ry;exact PySem.EqNone.eq_int_none (zP I q (by simp))
    | int j=>obtain ⟨t',rfl⟩:=ry;exact eq_int (zP I q Xt)
    | str j=>obtain ⟨t',rfl⟩:=ry;exact PySem.EqMixed.eq_int_str (zP I q (by simp))
    | _=>exact absurd (show false = true from hs) Bool.false_ne_true
  | str i=>
    obtain ⟨t,rfl⟩:=rx
    cases y with
    | non=>cases ry;exact PySem.EqNone.eq_str_none (zP I q (by simp))
    | bl j=>cases ry;exact PySem.EqMixed.eq_str_bool (zP I q (by simp))
    | int j=>obtain ⟨t',rfl⟩:=ry;exact PySem.EqMixed.eq_str_int (zP I q (by simp))
    | str j=>obtain ⟨t',rfl⟩:=ry;exact eq_str (zP I q Xr)
    | _=>exact absurd (show false = true from hs) Bool.false_ne_true
  | byt i=>
    obtain ⟨t,rfl⟩:=rx
    cases y with
    | byt j=>obtain ⟨t',rfl⟩:=ry;exact PySem.W.eq_bytes (zP I q Xu)
    | _=>exact absurd (show false = true from hs) Bool.false_ne_true
  | _=>cases y <;> exact absurd (show false = true from hs) Bool.false_ne_true
theorem Qm:OpR X (compareOp .NotEq) rNe:=by
  intro pins s σ H x y v u Q I rx ry h
  obtain ⟨hs,q⟩:=h
  cases x with
  | non=>
    cases rx
    cases y with
    | non=>cases ry;exact PySem.EqNone.ne_none_none (zP I q (by simp))
    | bl j=>cases ry;exact PySem.EqNone.ne_none_bool (zP I q (by simp))
    | int j=>obtain ⟨t',rfl⟩:=ry;exact PySem.EqNone.ne_none_int (zP I q (by simp))
    | str j=>obtain ⟨t',rfl⟩:=ry;exact PySem.EqNone.ne_none_str (zP I q (by simp))
    | _=>exact absurd (show false = true from hs) Bool.false_ne_true
  | bl i=>
    cases rx
    cases y with
    | non=>cases ry;exact PySem.EqNone.ne_bool_none (zP I q (by simp))
    | bl j=>cases ry;exact ne_bool (zP I q (congrArg not W7))
    | str j=>obtain ⟨t',rfl⟩:=ry;exact PySem.EqMixed.ne_bool_str (zP I q (by simp))
    | _=>exact absurd (show false = true from hs) Bool.false_ne_true
  | int i=>
    obtain ⟨t,rfl⟩:=rx
    cases y with
    | non=>cases ry;exact PySem.EqNone.ne_int_none (zP I q (by simp))
    | int j=>obtain ⟨t',rfl⟩:=ry;exact ne_int (zP I q (congrArg not Xt))
    | str j=>obtain ⟨t',rfl⟩:=ry;exact PySem.EqMixed.ne_int_str (zP I q (by simp))
    | _=>exact absurd (show false = true from hs) Bool.false_ne_true
  | str i=>
    obtain ⟨t,rfl⟩:=rx
    cases y with
    | non=>cases ry;exact PySem.EqNone.ne_str_none (zP I q (by simp))
    | bl j=>cases ry;exact PySem.EqMixed.ne_str_bool (zP I q (by simp))
    | int j=>obtain ⟨t',rfl⟩:=ry;exact PySem.EqMixed.ne_str_int (zP I q (by simp))
    | str j=>obtain ⟨t',rfl⟩:=ry;exact ne_str (zP I q (congrArg not Xr))
    | _=>exact absurd (show false = true from hs) Bool.false_ne_true
  | byt i=>
    obtain ⟨t,rfl⟩:=rx
    cases y with
    | byt j=>obtain ⟨t',rfl⟩:=ry;exact PySem.W.ne_bytes (zP I q (congrArg not Xu))
    | _=>exact absurd (show false = true from hs) Bool.false_ne_true
  | _=>cases y <;> exact absurd (show false = true from hs) Bool.false_ne_true
theorem JZ:OpR X (compareOp .Lt) (rI0 fun i j=>.bl (decide (i < j))):=zbi fun _ _ _ _ _ _ _ q=>lt_int q
theorem yY:OpR X (compareOp .Gt) (rI0 fun i j=>.bl (decide (j < i))):=zbi fun _ _ _ _ _ _ _ q=>gt_int q
theorem zcj:OpR X (compareOp .GtE) (rI0 fun i j=>.bl (decide (j <= i))):=zbi fun _ _ _ _ _ _ _ q=>ge_int q
theorem Wy:OpR X (compareOp .Is) (fun x y H Q=>y = .non /\ Q (.bl (decide (x = .non))) H):=by
  intro pins s σ H x y v u Q I rx ry h
  obtain ⟨rfl,q⟩:=h
  cases ry
  refine is_none_gen (zP I q ?_)
  cases x <;> first
    | (cases rx;rfl)
    | (obtain ⟨t,rfl⟩:=rx;rfl)
theorem zB (b:Expr) {op:CmpOp} (h:op ≠ .In:=by decide) (h2:op ≠ .NotIn:=by decide):behindInMarks op b = false:=by
  have e1:(op == CmpOp.In) = false:=by cases op <;> first | rfl | exact absurd rfl h
  have e2:(op == CmpOp.NotIn) = false:=by cases op <;> first | rfl | exact absurd rfl h2
  cases b <;> simp [behindInMarks,e1,e2]
theorem qN {op:CmpOp} {r:R2} (ho:OpR X (compareOp op) r) (ha:PE X a ta) (hb:PE X b tb) (hm:behindInMarks op b = false):PE X (.Compare a [op] [b] pos) (tOp r ta tb):=by
  intro pins s σ H Q I h
  exact wpAny_Compare1 (zbG ha hb I h fun v u s2 x y H2 I2 rx ry q=>ho pins s2 σ H2 x y v u Q I2 rx ry q) hm
def zbN (t:TE):TT:=fun σ H Q=>t σ H fun x H'=>IsB x H' Q
theorem zw {op:CmpOp} {r:R2} (ho:OpR X (compareOp op) r) (ha:PE X a ta) (hb:PE X b tb) (hm:behindInMarks op b = false):PT X (.Compare a [op] [b] pos) (zbN (tOp r ta tb)):=by
  intro pins s σ H Q I h
  refine wpAny_isTrue_Compare1 (thn (ha pins s σ H _ I h) fun v s1 ⟨x,H1,I1,r1,q1⟩=>thn (hb pins s1 σ H1 _ I1 q1) fun u s2 ⟨y,H2,I2,r2,q2⟩=>
    thn (ho pins s2 σ H2 x y v u _ I2 r1 r2 q2) fun c s3 ⟨z,H3,I3,r3,k,e,q3⟩=>?_) hm
  subst e
  cases r3
  exact wpAny_truthy_bool ⟨H3,I3,q3⟩
theorem vY:(sizeLine:Nat) < 2 ^ 63:=by rw [sizeLine_eq];decide
inductive vI (x:V) (y:V) (H:Hp) (Q:VK):Prop
  | mk (i j:_) (_:x = .str i) (_:y = .str j) (_:i.length + j.length <= sizeLine) (_:Q (.str (i ++ j)) H):vI x y H Q
theorem Je:OpR X (binaryOp .Add) (vI):=by
  intro pins s σ H x y v u Q I rx ry h
  obtain ⟨i,j,rfl,rfl,hz,q⟩:=h
  obtain ⟨t,rfl⟩:=rx
  obtain ⟨t',rfl⟩:=ry
  exact add_str (fun t' tk=>⟨.str (i ++ j),H,I.tok _,⟨_,rfl⟩,q⟩) hz
theorem j5 {x:V} {us:List Value} (r:Vals [x] us):∃ u,us = [u] /\ RelV x u:=by
  cases r with
  | cons r1 r2=>cases r2;exact ⟨_,rfl,r1⟩
theorem yG {x y:V} {us:List Value} (r:Vals [x,y] us):∃ u w',us = [u,w'] /\ RelV x u /\ RelV y w':=by
  cases r with
  | cons r1 r2=>
    cases r2 with
    | cons r3 r4=>cases r4;exact ⟨_,_,rfl,r1,r3⟩
inductive yy (xs:List V) (H:Hp) (Q:VK):Prop
  | mk (i:_) (_:xs = [.int i]) (_:Q (.int (if i < 0 then -i else i)) H):yy xs H Q
theorem QP:ja X (.builtin "abs") (yy):=by
  intro pins s σ H xs us Q I r h
  obtain ⟨i,rfl,q⟩:=h
  obtain ⟨u,rfl,t,rfl⟩:=j5 r
  exact call_abs_int fun u tk=>⟨.int (if i < 0 then -i else i),H,I.tok _,⟨_,rfl⟩,q⟩
inductive wo (xs:List V) (H:Hp) (Q:VK):Prop
  | mk (i j:_) (_:xs = [.int i,.int j]) (_:Q (.int (if j > i then j else i)) H):wo xs H Q
theorem Zf (hc:X.calm = true):ja X (.builtin "max") (wo):=by
  intro pins s σ H xs us Q I r h
  obtain ⟨i,j,rfl,q⟩:=h
  obtain ⟨u,w',rfl,⟨t,rfl⟩,⟨t',rfl⟩⟩:=yG r
  refine max_two_ints (I.ok.hd hc) fun h' tk k=>⟨_,H,I.kept k,?_,q⟩
  by_cases hj:j > i
  · rw [if_pos hj,if_pos hj];exact ⟨_,rfl⟩
  · rw [if_neg hj,if_neg hj];exact ⟨_,rfl⟩
theorem wb:ja X (.type "int") (fun xs H Q=>(∃ i,xs = [.int i] /\ Q (.int i) H) \/ ∃ k,xs = [.bl k] /\ Q (.int (if k then 1 else 0)) H):=by
  intro pins s σ H xs us Q I r h
  rcases h with ⟨i,rfl,q⟩ | ⟨k,rfl,q⟩
  · obtain ⟨u,rfl,t,rfl⟩:=j5 r
    exact call_int_int ⟨.int i,H,I,⟨_,rfl⟩,q⟩
  · obtain ⟨u,rfl,r1⟩:=j5 r
    cases r1
    exact call_int_bool ⟨.int (if k then 1 else 0),H,I.tok _,⟨_,rfl⟩,q⟩
inductive x6 (xs:List V) (H:Hp) (Q:VK):Prop
  | mk (i j:_) (_:xs = [.int i,.int j]) (_:zcP i j) (_:∀ p,H p = none -> Q (.ref p) (upd H p (.tup [.int (i / j),.int (i % j)]))):x6 xs H Q
theorem QO:ja X (.builtin "divmod") (x6):=by
  intro pins s σ H xs us Q I r h
  obtain ⟨i,j,rfl,⟨h1,h2⟩,q⟩:=h
  obtain ⟨u,w',rfl,⟨t,rfl⟩,⟨t',rfl⟩⟩:=yG r
  refine divmod_int (by omega) ?_ (.inl (PyProof.noPylong_small (by omega)))
  rw [Int.fdiv_eq_ediv_of_nonneg i (by omega),Int.fmod_eq_emod_of_nonneg i (by omega)]
  have hn:H s.heap.objs.size = none:=I.hok.fresh (Nat.le_refl _)
  refine ⟨.ref s.heap.objs.size,_,?_,rfl,q _ hn⟩
  refine I.laid (fun b o e=>Heap.get?_push_of_some _ e) (Nat.le_refl _) ⟨by simp only [List.length_cons,List.length_nil];rw [sizeLine_eq];decide,[.int (i / j) s.toks,.int (i % j) (s.toks + 1)],.cons ⟨_,rfl⟩ (.cons ⟨_,rfl⟩ .nil),?_⟩
  exact ⟨⟨_,Heap.get?_push_size s.heap rfl,rfl,0,rfl⟩,_,Heap.get?_push_size s.heap rfl,rfl⟩
end
structure ObjM (h:Heap) (x dx C:Addr) (mA:Str -> Option Value):Prop where
  obj:h.get? x = some (PySem.W.instObj C dx)
  ns:h.Ns1 dx mA
  ne:dx ≠ x
section
variable {prog:Program} {w:World} {A:Around} {E:Value -> Shared -> Prop} {s:Shared} {K:PySem.W.Frag} {x dx C f:Addr} {mA:Str -> Option Value} {name:Str} {v:Value}
end
def putF (f:Str) (v:V):List (Str × V) -> List (Str × V)
  | []=>[(f,v)]
  | (g,x) :: r=>if g = f then (g,v) :: r else (g,x) :: putF f v r
theorem RelO.some_of {v:V} {o:Option Value} (r:RelO (some v) o):∃ u,o = some u /\ RelV v u:=by
  cases o with
  | none=>exact (show False from r).elim
  | some u=>exact ⟨u,rfl,r⟩
section
variable {P:Program} {w:World} {H H':Hp} {h h':Heap} {a C dx:Addr} {fs fs':List (Str × V)}
end
structure Cls (K:PySem.W.Frag) (C:Addr):Prop where
  pg:PySem.W.plainGet K C Str.empty = true
  hd:PySem.W.hasDictIn K C = true
  po:PySem.W.plainOver K C = true
  sa:PySem.W.findIn K (.ref C) "__setattr__" = some (some (.builtin "object.__setattr__"))
structure Con (K:PySem.W.Frag) (C:Addr) (f:Str) (v:V) (u:Value):Prop where
  at_:PySem.W.findIn K (.ref C) f = some (some u)
  rel:RelV v u
  get:PySem.W.specialIn K u "__get__" = some none
  cp:PySem.W.copiedNames.contains f = false
structure Meth (K:PySem.W.Frag) (C:Addr) (m:Str) (f:Addr):Prop where
  at_:PySem.W.findIn K (.ref C) m = some (some (.ref f))
  fn:PySem.W.isFn K (.ref f) = true
  kp:PySem.W.keepIn K (.ref f) = true
section
variable {X:Cx} {pins:List (Addr × Obj)} {σ:St} {H:Hp} {s:Shared} {a C dx:Addr} {fs:List (Str × V)} {f:Str} {v:V} {A:Around} {E:Value -> Shared -> Prop}
end
section
variable {X:Cx} {o e value:Expr} {f:Str} {pos pos' tpos:Pos} {ta tv:TE}
end
section
variable {X:Cx} {pins:List (Addr × Obj)} {σ:St} {H:Hp} {s:Shared} {A:Around} {E:Value -> Shared -> Prop} {Q:Value -> Shared -> Prop} {c:Value} {b:Bool}
inductive yq (K:PySem.W.Frag) (H:Hp):V -> Value -> Prop where
  | non:yq K H .non (.type "NoneType")
  | bl (x:Bool):yq K H (.bl x) (.type "bool")
  | int (i:Int):yq K H (.int i) (.type "int")
  | str (x:Str):yq K H (.str x) (.type "str")
  | flt (x:UInt64):yq K H (.flt x) (.type "float")
  | lst {a:Addr} {xs:List V} (e:H a = some (.lst xs)):yq K H (.ref a) (.type "list")
  | frz {a:Addr} {o:Obj} {xs:List V} (e:H a = some (.frz o (.lst xs))):yq K H (.ref a) (.type "list")
  | tup {a:Addr} {xs:List V} (e:H a = some (.tup xs)):yq K H (.ref a) (.type "tuple")
  | dK {a:Addr} {kvs:List (Key × V)} (e:H a = some (.dK kvs)):yq K H (.ref a) (.type "dict")
  | dT {a:Addr} {kvs:List (List Key × V)} (e:H a = some (.dT kvs)):yq K H (.ref a) (.type "dict")
  | ins {a C dx:Addr} {fs:List (Str × V)} (e:H a = some (.ins C dx fs)) (cl:Cls K C) (ha:PySem.W.findIn K (.ref C) "__class__" = some (some (.builtin "object.__class__")))
      (hn:PySem.W.specialIn K (.builtin "object.__class__") "__get__" = some (some (.builtin "getset_descriptor.__get__"))) (htk:PySem.W.takesIn K (.builtin "object.__class__") = some true)
      (hm:PySem.W.mroIn K C (.type "object") = some true):yq K H (.ref a) (.ref C)
end
structure Room (k:Nat) (A:Around):Prop where
  hd:A.handled = none
  dp:A.depth + 3 * k + 5 < recursionLimit
  un:A.units + 16 * k + 200 < cLine
  gd:A.guards = some []
theorem Room.mono {j k:Nat} {A:Around} (r:Room k A) (h:j <= k):Room j A:=⟨r.hd,by have:=r.dp;omega,by have:=r.un;omega,r.gd⟩
theorem Room.deeper {k:Nat} {A:Around} (r:Room (k + 1) A) (env:Env):Room k (A.deeper env):=
  ⟨r.hd,by have:=r.dp;show A.depth + 1 + 3 * k + 5 < _;omega,by have:=r.un;show A.units + 3 + 16 * k + 200 < _;omega,r.gd⟩
theorem Room.depth {k:Nat} {A:Around} (r:Room k A):A.depth < recursionLimit:=by have:=r.dp;omega
theorem Room.units {k:Nat} {A:Around} (r:Room k A):A.units + 64 < cLine:=by have:=r.un;omega
theorem Room.units0 {k:Nat} {A:Around} (r:Room k A):A.units < cLine:=by have:=r.un;omega
def zaN:TA:=fun _ H Q=>Q [] H
def j7 (ta:TE) (tr:TA):TA:=fun σ H Q=>ta σ H fun x H1=>tr σ H1 fun xs H2=>Q (x :: xs) H2
section
variable {X:Cx} {e:Expr} {es:List Expr} {te:TE} {t:TA} {pos:Pos}
theorem zd:PA X [] zaN:=fun _ _ _ _ H Q I h=>Calls.spliced_nil ⟨[],H,I,.nil,h⟩
theorem za (ha:PE X e te) (hr:PA X es t) (hs:starEach (e :: es) X.env = (false,eval e X.env) :: starEach es X.env:=by rfl):PA X (e :: es) (j7 te t):=by
  intro pos pins s σ H Q I h
  rw [hs]
  show wpAny _ _ (spliced ((false,eval e X.env) :: backTo pos (starEach es X.env))) _ _ s
  refine Calls.spliced_cons (thn (ha pins s σ H _ I h) fun u s1 ⟨x,H1,I1,r1,q1⟩=>?_)
  exact thn (hr pos pins s1 σ H1 _ I1 q1) fun us s2 ⟨xs,H2,I2,r2,q2⟩=>⟨x :: xs,H2,I2,.cons r1 r2,q2⟩
def zcR (t:TA):TE:=fun σ H Q=>t σ H fun xs H1=>xs.length <= sizeLine /\ ∀ p,H1 p = none -> Q (.ref p) (upd H1 p (.tup xs))
def zcX (t:TA):TE:=fun σ H Q=>t σ H fun xs H1=>xs.length <= sizeLine /\ ∀ p,H1 p = none -> Q (.ref p) (upd H1 p (.lst xs))
theorem zO {x1} (h:PA X es t):PE X (.Tuple es x1 pos) (zcR t):=by
  intro pins s σ H Q I hq
  refine wpAny_Tuple_spliced (thn (h pos pins s σ H _ I hq) fun us s1 ⟨xs,H1,I1,r,z,q⟩=>⟨by rw [<- r.length];exact z,?_⟩)
  have hf:H1 s1.heap.objs.size = none:=I1.hok.fresh (Nat.le_refl _)
  refine ⟨.ref s1.heap.objs.size,upd H1 s1.heap.objs.size (.tup xs),I1.laid (t':=s1.toks) (fun b u e=>Heap.get?_push_of_some _ e) (Nat.le_refl _) ?_,rfl,q _ hf⟩
  exact ⟨z,us,r,⟨_,Heap.get?_push_size _ rfl,rfl,_,rfl⟩,_,Heap.get?_push_size _ rfl,rfl⟩
theorem zJ (h:PA X es t):PE X (.List es pos) (zcX t):=by
  intro pins s σ H Q I hq
  refine wpAny_List_spliced (thn (h pos pins s σ H _ I hq) fun us s1 ⟨xs,H1,I1,r,z,q⟩=>⟨by rw [<- r.length];exact z,?_⟩)
  have hf:H1 s1.heap.objs.size = none:=I1.hok.fresh (Nat.le_refl _)
  refine ⟨.ref s1.heap.objs.size,upd H1 s1.heap.objs.size (.lst xs),I1.laid (t':=s1.toks) (fun b u e=>Heap.get?_push_of_some _ e) (Nat.le_refl _) ?_,rfl,q _ hf⟩
  exact ⟨z,us,0,r,Heap.get?_push_size _ rfl⟩
end
abbrev Sp:=List V -> Hp -> VK -> XK -> Prop
abbrev CXT:=List Env -> Hp -> Shared -> XK -> Value -> Shared -> Prop
structure zam (P:Program) (w:World) (K:PySem.W.Frag) (mg:Str -> Option Value) (base:Heap) (A:Around) (outer:List Env) (s:Shared) (H:Hp):Prop where
  frames:A.frames = some outer
  mod:Mod K mg base
  bs:∀ b o,base.get? b = some o -> s.heap.get? b = some o /\ H b = none
  bsz:base.objs.size <= s.heap.objs.size
  funs:s.heap.FunFrames base outer
  frf:∀ b ∈ frs outer,H b = none
  hok:HOk P w H s.heap
  bare:AllBare s.gens
def CE (outer:List Env) (P:Program) (w:World) (H:Hp) (s:Shared) (Q:VK) (u:Value) (s':Shared):Prop:=
  ∃ v H',s'.os = s.os /\ AllBare s'.gens /\ Un (frs outer) [] H H' s.heap s'.heap /\ HOk P w H' s'.heap /\ RelV v u /\ Q v H'
def CR (CX:CXT) (outer:List Env) (P:Program) (w:World) (H:Hp) (s:Shared) (Q:VK) (E:XK) (r:Result) (s':Shared):Prop:=
  match r with
  | .ok (.ret u)=>CE outer P w H s Q u s'
  | .ok _=>False
  | .error e=>CX outer H s E e s'
structure qA (P:Program) (w:World) (K:PySem.W.Frag) (mg:Str -> Option Value) (base:Heap) (CX:CXT) (k:Nat) (f:Addr) (fd:FuncData) (ps:List Str) (sp:Sp):Prop where
  len:∀ vs H Q E,sp vs H Q E -> vs.length = ps.length
  run:∀ (A:Around) (outer:List Env) (s:Shared) (H:Hp) (args:Args) (us:List Value) (vs:List V) (Q:VK) (E:XK),Room k A -> zam P w K mg base A outer s H -> BindsTo s fd args (ps.zip us) -> Vals vs us -> sp vs H Q E ->
    codeAny (model P w) A (.call (.ref f) args) (CR CX outer P w H s Q E) s
section
variable {X:Cx} {pins:List (Addr × Obj)} {σ:St} {H:Hp} {s s':Shared}
theorem Inv.env0 (I:Inv X pins σ H s):zam X.prog X.w X.K X.mg X.base X.A X.stack s H:=
  ⟨I.ok.frames,I.ok.mod,I.bs,Nat.le_trans I.ok.bsz I.sz,I.stack,I.stkFree,I.hok,I.bare⟩
theorem Inv.after {Q:VK} {u:Value} (I:Inv X pins σ H s) (h:CE X.stack X.prog X.w H s Q u s'):EP X pins σ Q u s':=by
  obtain ⟨v,H',os,bare,un,hok,r,q⟩:=h
  obtain ⟨hh,g,d,t,os'⟩:=s'
  obtain rfl:os' = s.os:=os
  exact ⟨v,H',I.call (h':=hh) (g':=g) (d':=d) (t':=t) (ch:=[]) un hok bare (fun b z=>absurd z (by simp)),r,q⟩
end
def zao (sp:Sp) (dvs:List V) (E:XK) (t:TA):TE:=fun σ H Q=>t σ H fun vs H1=>sp (vs ++ dvs) H1 Q E
def Binds (K:PySem.W.Frag) (fd:FuncData) (ps:List Str) (ds:List Value):Prop:=
  ∀ (s:Shared) (us:List Value),K.In s.heap -> (us ++ ds).length = ps.length -> BindsTo s fd ⟨us,[]⟩ (ps.zip (us ++ ds))
theorem Binds.all {K:PySem.W.Frag} {fd:FuncData} {ps:List Str} (h:∀ us:List Value,us.length = ps.length -> bindArgs fd ⟨us,[]⟩ = pure (ps.zip us)):Binds K fd ps []:=fun s us _ hl=>by
  rw [List.append_nil] at hl ⊢
  exact .of_eq (h us hl)
def Ju (CX:CXT) (X:Cx) (E:XK):Prop:=∀ (pins:List (Addr × Obj)) (σ:St) (H:Hp) (s:Shared) (e:Value) (s':Shared),Inv X pins σ H s -> CX X.stack H s E e s' -> X.xe e s'
section
variable {X:Cx} {CX:CXT} {k:Nat} {f C:Addr} {fd:FuncData} {ps:List Str} {sp:Sp} {dvs:List V} {ds:List Value} {E:XK} {x m:Str} {p pos apos:Pos} {e o:Expr} {es:List Expr} {ta:TE} {t:TA}
theorem za0 {pins:List (Addr × Obj)} {σ:St} {H:Hp} {s:Shared} {Q:VK} {us:List Value} {vs:List V} (F:qA X.prog X.w X.K X.mg X.base CX k f fd ps sp) (hr:Room k X.A) (hb:Binds X.K fd ps ds) (hd:Vals dvs ds) (hx:Ju CX X E)
    (I:Inv X pins σ H s) (r:Vals vs us) (h:sp (vs ++ dvs) H Q E):wpAny (model X.prog X.w) X.A (call (.ref f) us) (EP X pins σ Q) X.xe s:=by
  have r2:Vals (vs ++ dvs) (us ++ ds):=r.append hd
  have hl:(us ++ ds).length = ps.length:=by rw [<- r2.length];exact F.len _ _ _ _ h
  refine wpAny_call (codeAny_mono (F.run X.A X.stack s H ⟨us,[]⟩ (us ++ ds) (vs ++ dvs) Q E hr I.env0 (hb s us I.kIn hl) r2 h) fun r s' hq=>?_)
  cases r with
  | error e=>exact hx pins σ H s e s' I hq
  | ok fl=>
    cases fl with
    | ret u=>exact I.after hq
    | next=>exact False.elim hq
    | brk=>exact False.elim hq
    | cont=>exact False.elim hq
theorem YF (F:qA X.prog X.w X.K X.mg X.base CX k f fd ps sp) (hr:Room k X.A) (hg:Gl X x) (hm:X.mg x = some (.ref f)) (hk:PySem.W.keepIn X.K (.ref f) = true) (hb:Binds X.K fd ps ds) (hd:Vals dvs ds) (hx:Ju CX X E)
    (ha:PA X (e :: es) t) (hdb:(x == ("__debug__" : Str)) = false:=by decide) (he:starEach (e :: es) X.env = (false,eval e X.env) :: starEach es X.env:=by rfl) (hpl:(backTo pos (starEach es X.env)).any (·.1) = false:=by rfl) :
    PE X (.Call (.Name x p) (e :: es) [] pos) (zao sp dvs E t):=by
  intro pins s σ H Q I h
  refine wpAny_Call_Name_kw (YZ I hg hm ?_ hdb)
  refine PySem.W.callWith_K (h₀:=X.base) I.ok.mod.kin hk (thn (ha pos pins s σ H _ I h) fun us s1 ⟨vs,H1,I1,r,q⟩=>⟨I1.kIn,?_⟩) he hpl
  exact za0 F hr hb hd hx I1 r q
structure Mk (K:PySem.W.Frag) (C f:Addr):Prop where
  makes:PySem.W.makesIn K C = true
  init:PySem.W.findIn K (.ref C) "__init__" = some (some (.ref f))
  fn:PySem.W.isFn K (.ref f) = true
  kp:PySem.W.keepIn K (.ref C) = true
end
section
variable {X:Cx} {CX:CXT} {k:Nat} {f C:Addr} {fd:FuncData} {ps ks:List Str} {sp:Sp} {E:XK} {x m:Str} {p pos apos kpos:Pos} {e o:Expr} {es:List Expr} {kws:List Keyword} {te ta:TE} {t tk:TA} {nm:Option Str}
structure KBinds (K:PySem.W.Frag) (fd:FuncData) (ps ks:List Str) (g:List Value -> List Value -> List Value) (gV:List V -> List V -> List V):Prop where
  to:∀ (s:Shared) (us ws:List Value),K.In s.heap -> (g us ws).length = ps.length -> BindsTo s fd ⟨us,ks.zip ws⟩ (ps.zip (g us ws))
  rel:∀ {vs:List V} {us:List Value} {zs:List V} {ws:List Value},Vals vs us -> Vals zs ws -> Vals (gV vs zs) (g us ws)
variable {g:List Value -> List Value -> List Value} {gV:List V -> List V -> List V}
end
structure zy (N P:List Str) (sc:Scope):Prop where
  kind:sc.kind = .function
  co:sc.isCoroutine = false
  gen:sc.isGenerator = false
  nd:N.Nodup
  pre:N.take P.length = P
  par:∀ x ∈ P,sc.names.lookup x = some .local \/ sc.names.lookup x = some .cell
  nofree:∀ y ∈ sc.names,y.2 ≠ .free
theorem Zn {kindOf:Str -> Option NameKind} {x:Str}:∀ {binds:List (Str × Value)} {m:Str -> Option Value},(∀ v,(x,v) ∉ binds) -> bindL kindOf binds m x = m x
  | [],_,_=>rfl
  | (n,v) :: r,m,h=>by
    unfold bindL
    rw [Zn fun w hw=>h w (List.mem_cons_of_mem _ hw)]
    split
    · have:x ≠ n:=by rintro rfl;exact h v List.mem_cons_self
      simp [this]
    · rfl
theorem Zp {kindOf:Str -> Option NameKind} {x:Str}:∀ {binds:List (Str × Value)} {m:Str -> Option Value},(∀ v,(x,v) ∉ binds) -> bindC kindOf binds m x = m x
  | [],_,_=>rfl
  | (n,v) :: r,m,h=>by
    unfold bindC
    rw [Zp fun w hw=>h w (List.mem_cons_of_mem _ hw)]
    split
    · rfl
    · have:x ≠ n:=by rintro rfl;exact h v List.mem_cons_self
      simp [this]
theorem Zo {kindOf:Str -> Option NameKind} {x:Str} {v:Value}:∀ {P:List Str} {vs:List Value} {i:Nat} {m:Str -> Option Value},P.Nodup -> P[i]? = some x -> vs[i]? = some v -> kindOf x = some .local ->
    bindL kindOf (P.zip vs) m x = some v
  | [],_,_,_,_,h,_,_=>by simp at h
  | _ :: _,[],_,_,_,_,h,_=>by simp at h
  | p :: P,w :: vs,0,m,nd,h1,h2,hk=>by
    simp at h1 h2;subst h1;subst h2
    show bindL kindOf ((p,w) :: P.zip vs) m p = _
    unfold bindL
    rw [Zn fun v hv=>(List.nodup_cons.mp nd).1 (List.of_mem_zip hv).1,if_pos hk]
    simp
  | p :: P,w :: vs,i + 1,m,nd,h1,h2,hk=>by
    show bindL kindOf ((p,w) :: P.zip vs) m x = _
    unfold bindL
    exact Zo (i:=i) (List.nodup_cons.mp nd).2 (by simpa using h1) (by simpa using h2) hk
theorem Zq {kindOf:Str -> Option NameKind} {x:Str} {v:Value}:∀ {P:List Str} {vs:List Value} {i:Nat} {m:Str -> Option Value},P.Nodup -> P[i]? = some x -> vs[i]? = some v -> kindOf x ≠ some .local ->
    bindC kindOf (P.zip vs) m x = some v
  | [],_,_,_,_,h,_,_=>by simp at h
  | _ :: _,[],_,_,_,_,h,_=>by simp at h
  | p :: P,w :: vs,0,m,nd,h1,h2,hk=>by
    simp at h1 h2;subst h1;subst h2
    show bindC kindOf ((p,w) :: P.zip vs) m p = _
    unfold bindC
    rw [Zp fun v hv=>(List.nodup_cons.mp nd).1 (List.of_mem_zip hv).1,if_neg hk]
    simp
  | p :: P,w :: vs,i + 1,m,nd,h1,h2,hk=>by
    show bindC kindOf ((p,w) :: P.zip vs) m x = _
    unfold bindC
    exact Zq (i:=i) (List.nodup_cons.mp nd).2 (by simpa using h1) (by simpa using h2) hk
def wd (N:List Str) (vs:List V):St:=vs.map some ++ List.replicate (N.length - vs.length) none
def VB (CX:CXT) (P:Program) (w:World) (K:PySem.W.Frag) (mg:Str -> Option Value) (base:Heap) (N:List Str) (qual:Str) (scope:Scope) (f:Addr) (cd:Value) (A:Around) (outer:List Env) (s:Shared) (H:Hp) (E:XK):Cx where
  prog:=P
  w:=w
  K:=K
  mg:=mg
  base:=base
  A:=A.deeper (envOfC qual scope s.heap.objs.size f cd)
  N:=N
  s₀:=s
  H₀:=H
  env:=envOfC qual scope s.heap.objs.size f cd
  outer:=outer
  stack:=envOfC qual scope s.heap.objs.size f cd :: outer
  ex:=[]
  calm:=true
  fn:=fun _=>true
  pn:=[]
  xe:=fun e s'=>wpAny (model P w) (A.deeper (envOfC qual scope s.heap.objs.size f cd)) (leaving (envOfC qual scope s.heap.objs.size f cd) e) (fun _ s''=>CX outer H s E e s'') (fun e' s''=>CX outer H s E e' s'') s'
theorem QM {sc:Scope} {n:Nat} {x:Str} (h:sc.names.lookup x = some .cell):∃ c,(cellsFrom n sc.names []).lookup x = some c:=by
  have q:=PySem.W.cellsFrom_some sc.names n [] (.inl h)
  exact Option.isSome_iff_exists.mp q
theorem Vu {CX:CXT} {P:Program} {w:World} {K:PySem.W.Frag} {mg:Str -> Option Value} {base:Heap} {N ps:List Str} {qual:Str} {scope:Scope} {f:Addr} {cd:Value} {A:Around} {outer:List Env} {s s1:Shared} {H:Hp} {E:XK} {us:List Value} {vs:List V}
    (S:zy N ps scope) (hd:A.handled = none) (e0:zam P w K mg base A outer s H) (hl:vs.length = ps.length) (r:Vals vs us)
    (x:InCallC s s.heap.objs.size (bindL (envOfC qual scope s.heap.objs.size f cd).kindOf (ps.zip us) fun _=>none) (cellsFrom (s.heap.objs.size + 1) scope.names []) (bindC (envOfC qual scope s.heap.objs.size f cd).kindOf (ps.zip us) fun _=>none) s1) :
    Inv (VB CX P w K mg base N qual scope f cd A outer s H E) [] (wd N vs) H s1:=by
  have hpl:ps.length <= N.length:=by have:=congrArg List.length S.pre;rw [List.length_take] at this;omega
  obtain ⟨h1,tk,rfl,hk⟩:=x.done
  have noA:∀ b:Addr,b ∉ (VB CX P w K mg base N qual scope f cd A outer s H E).ex:=fun b z=>absurd (show b ∈ ([]:List Addr) from z) (by simp)
  refine ⟨⟨e0.mod,S.kind,rfl,rfl,Nat.le_refl _,fun y z c h1 h2=>?_,fun y hy=>?_,fun y c _ h=>?_,fun _=>hd,Around.frames_deeper e0.frames,.inr ⟨rfl,rfl⟩,fun b z=>absurd z (noA b),e0.bs,e0.bsz,fun b _ _=>noA b,fun b z=>absurd z (noA b),e0.funs,e0.frf⟩,
    rfl,e0.bare,Un.kept hk,⟨_,x.toInCall.ns,fun i y v h1 h2 h3=>?_⟩,fun y c h=>⟨_,x.cell y c h⟩,e0.hok.fresh (Nat.le_refl _),fun y c h=>?_,fun p hp=>absurd (show p ∈ ([]:List (Addr × Obj)) from hp) (by simp),e0.hok.kept hk,?_⟩
  · exact name_of_addr x.apart (PySem.mem_of_lookup h1) (PySem.mem_of_lookup h2)
  · have hy:scope.names.lookup y = some .cell \/ scope.names.lookup y = some .free:=hy
    rcases hy with hy | hy
    · exact QM hy
    · exact absurd rfl (S.nofree _ (PySem.mem_of_lookup hy))
  · exact Nat.le_of_lt (x.above y c (PySem.mem_of_lookup h))
  · have hi:i < vs.length:=by
      unfold wd at h2
      by_cases hi:i < vs.length
      · exact hi
      · rw [List.getElem?_append_right (by simpa using hi)] at h2
        rw [List.getElem?_replicate] at h2
        split at h2 <;> cases h2
    have ha:vs[i]? = some v:=by
      unfold wd at h2
      rw [List.getElem?_append_left (by simpa using hi),List.getElem?_map] at h2
      cases e:vs[i]? with
      | none=>rw [e] at h2;cases h2
      | some a=>rw [e] at h2;cases h2;rfl
    obtain ⟨u,hu,rv⟩:=r.get ha
    have hp:ps[i]? = some y:=by
      rw [<- S.pre,List.getElem?_take_of_lt (by omega)];exact h1
    have ndP:ps.Nodup:=by rw [<- S.pre];exact S.nd.sublist (List.take_sublist _ _)
    refine ⟨u,rv,?_⟩
    rcases S.par y (List.mem_of_getElem? hp) with k | k
    · exact .inl ⟨k,Zo ndP hp hu k⟩
    · obtain ⟨c,e⟩:=QM (n:=s.heap.objs.size + 1) k
      refine .inr ⟨.inl k,c,e,?_⟩
      have q:=x.cell y c e
      rw [Zq ndP hp hu (by show scope.names.lookup y ≠ _;rw [k];decide)] at q
      exact q
  · exact e0.hok.fresh (Nat.le_of_lt (x.above y c (PySem.mem_of_lookup h)))
  · unfold wd
    show _ = N.length
    rw [List.length_append,List.length_map,List.length_replicate]
    omega
theorem zcE {CX:CXT} {P:Program} {w:World} {K:PySem.W.Frag} {mg:Str -> Option Value} {base:Heap} {k:Nat} {f:Addr} {name qual:Str} {params:Arguments} {body:List Stmt} {scope:Scope} {dV kV doc pm cdv ct oc:Value} {an od:Option Addr}
    {osl:Array (Option Value)} {N ps:List Str} {sp:Sp} (lk:K.lookup f = some ⟨oc,od,.func (PySem.W.fnOf name qual params body scope dV kV doc pm an cdv ct),osl⟩) (hcd:PySem.W.codeIn K cdv qual = true) (S:zy N ps scope)
    (len:∀ vs H Q E,sp vs H Q E -> vs.length = ps.length)
    (hbody:∀ (A:Around) (outer:List Env) (s:Shared) (H:Hp) (vs:List V) (Q:VK) (E:XK),Room k (A.deeper (envOfC qual scope s.heap.objs.size f cdv)) -> sp vs H Q E ->
      ∃ t,PSs (VB CX P w K mg base N qual scope f cdv A outer s H E) body t /\ t { nx:=fun _ H'=>Q .non H',rt:=Q } (wd N vs) H) :
    qA P w K mg base CX (k + 1) f (PySem.W.fnOf name qual params body scope dV kV doc pm an cdv ct) ps sp:=by
  refine ⟨len,fun A outer s H args us vs Q E hr e0 hb r hsp=>?_⟩
  have hl:=len _ _ _ _ hsp
  have KX:K.In s.heap:=e0.mod.kin.keeps fun b o e=>(e0.bs b o e).1
  have lim:s.heap.NoLimit:=e0.mod.nolimit.keeps fun b o e=>(e0.bs b o e).1
  have hkind:∀ y ∈ ps.zip us,scope.names.lookup y.1 = some .local \/ (scope.names.lookup y.1 = some .cell /\ ((cellsFrom (s.heap.objs.size + 1) scope.names []).lookup y.1).isSome = true):=fun ⟨n,v⟩ hy=>by
    rcases S.par n (List.of_mem_zip hy).1 with q | q
    · exact .inl q
    · exact .inr ⟨q,PySem.W.cellsFrom_some _ _ _ (.inl q)⟩
  refine codeAny_call_function hr.depth (KX _ _ lk) rfl S.co S.gen rfl (PySem.W.codeRec_of KX hcd) (hb _ _ _ _ ?_)
  refine wpAny_newFunctionEnv_cells S.kind hkind fun env he s1 x=>?_
  subst he
  refine ⟨lim.keeps x.toInCall.keep,codeAny_func ?_⟩
  obtain ⟨t,ht,hq⟩:=hbody A outer s H vs Q E (hr.deeper _) hsp
  have I:Inv (VB CX P w K mg base N qual scope f cdv A outer s H E) [] (wd N vs) H s1:=Vu S hr.hd e0 hl r x
  refine wpAny_mono (ht [] s1 (wd N vs) H _ I hq) (fun fl s' hs=>?_) fun e s' hs=>hs
  have fin:∀ {σ':St} {H':Hp} {v:V} {u:Value},Inv (VB CX P w K mg base N qual scope f cdv A outer s H E) [] σ' H' s' -> RelV v u -> Q v H' -> CE outer P w H s Q u s':=
    fun {σ' H' v u} J rv q=>⟨v,H',J.os,J.bare,J.base,J.hok,rv,q⟩
  cases fl with
  | ret u=>
    obtain ⟨v,σ',H',J,rv,q⟩:=hs
    exact fin J rv q
  | next=>
    obtain ⟨σ',H',J,q⟩:=hs
    exact fin (v:=V.non) (u:=Value.none) J rfl q
  | brk=>
    obtain ⟨_,_,_,q⟩:=hs
    exact False.elim q
  | cont=>
    obtain ⟨_,_,_,q⟩:=hs
    exact False.elim q
section
variable {X:Cx} {x:Str} {p pos:Pos} {e:Expr} {es:List Expr} {t:TA} {id T:String} {r:List V -> Hp -> VK -> Prop}
def tCB (r:List V -> Hp -> VK -> Prop) (t:TA):TE:=fun σ H Q=>t σ H fun vs H1=>r vs H1 Q
theorem zr (hc:ja X (.builtin id) r) (hg:Gl X x) (hm:X.mg x = none) (hv:bootBuiltins x = some (.builtin id)) (ha:PA X (e :: es) t) (hn:x ≠ "__name__" :=by decide) (hdb:(x == ("__debug__" : Str)) = false:=by decide)
    (he:starEach (e :: es) X.env = (false,eval e X.env) :: starEach es X.env:=by rfl) (hpl:(backTo pos (starEach es X.env)).any (·.1) = false:=by rfl):PE X (.Call (.Name x p) (e :: es) [] pos) (tCB r t):=by
  intro pins s σ H Q I h
  refine wpAny_Call_Name_kw (jY I hg hm hv ?_ hn hdb)
  exact PyProof.Rows.callWith_builtin1 (thn (ha pos pins s σ H _ I h) fun us s1 ⟨vs,H1,I1,r1,q1⟩=>hc pins s1 σ H1 vs us Q I1 r1 q1) he hpl
theorem zM (hc:ja X (.type T) r) (hg:Gl X x) (hm:X.mg x = none) (hv:bootBuiltins x = some (.type T)) (ha:PA X (e :: es) t) (hn:x ≠ "__name__" :=by decide) (hdb:(x == ("__debug__" : Str)) = false:=by decide)
    (he:starEach (e :: es) X.env = (false,eval e X.env) :: starEach es X.env:=by rfl) (hpl:(backTo pos (starEach es X.env)).any (·.1) = false:=by rfl):PE X (.Call (.Name x p) (e :: es) [] pos) (tCB r t):=by
  intro pins s σ H Q I h
  refine wpAny_Call_Name_kw (jY I hg hm hv ?_ hn hdb)
  exact PyProof.Rows.callWith_type1 (thn (ha pos pins s σ H _ I h) fun us s1 ⟨vs,H1,I1,r1,q1⟩=>hc pins s1 σ H1 vs us Q I1 r1 q1) he hpl
end
end L2
namespace HT
open PySem PyProof.Rows
section
open PySem.SeqAt
open PySem.AutoSeq1 (wpAny_loadPart')
open PySem.MeetsSeq PySem.MeetsSeq2 PySem.MeetsSeq3
end
section
variable {prog:Program} {w:World} {A:Around} {E:Value -> Shared -> Prop} {s:Shared}
def sIx (n d:Nat):Option Int -> Nat
  | none=>d
  | some v=>if v < 0 then (v + (n:Int)).toNat else min v.toNat n
theorem sIx_none (n d:Nat):sIx n d none = d:=rfl
theorem sIx_nat (n d k:Nat):sIx n d (some (k:Int)) = min k n:=by
  show (if (k:Int) < 0 then ((k:Int) + (n:Int)).toNat else min (k:Int).toNat n) = min k n
  rw [if_neg (by omega),Int.toNat_natCast]
end
end HT
namespace L2
open PySem PySem.Spec PyProof.Rows
abbrev TO:=St -> Hp -> (Option Int -> Hp -> Prop) -> Prop
def PO (X:Cx) (e:Option Expr) (t:TO):Prop:=
  ∀ (pins:List (Addr × Obj)) (s:Shared) (σ:St) (H:Hp) (Q:Option Int -> Hp -> Prop),Inv X pins σ H s -> t σ H Q ->
    wpAny (model X.prog X.w) X.A (evalPart e X.env) (fun u s'=>∃ o H',Inv X pins σ H' s' /\ IsPart u o /\ Q o H') X.xe s
def Yl:TO:=fun _ H Q=>Q none H
def zbO (t:TE):TO:=fun σ H Q=>t σ H fun x H1=>IsI x H1 fun i H1=>Q (some i) H1
theorem Jo {ns:List Int}:∀ {us:List Value},Vals (ns.map V.int) us -> IntsAre us ns:=by
  induction ns with
  | nil=>intro us r;rw [List.map_nil] at r;cases r;exact .nil
  | cons n ns ih=>
    intro us r
    rw [List.map_cons] at r
    cases r with
    | cons r1 r2=>
      obtain ⟨t,e⟩:=r1
      subst e
      exact .cons n t (ih r2)
section
variable {X:Cx} {e:Expr} {te:TE} {lo hi:Option Expr} {tl th:TO} {pos p2:Pos}
theorem JW:PO X none Yl:=by
  intro pins s σ H Q I h
  rw [evalPart_none]
  exact wpAny_pure ⟨none,H,I,.none,h⟩
theorem wz (h:PE X e te):PO X (some e) (zbO te):=by
  intro pins s σ H Q I hw
  rw [evalPart_some]
  refine thn (h pins s σ H _ I hw) fun u s1 ⟨x,H1,I1,r1,q1⟩=>?_
  obtain ⟨i,rfl,q⟩:=q1
  obtain ⟨t,rfl⟩:=r1
  exact ⟨some i,H1,I1,.int i t,q⟩
def SlR (X:Cx) (r:V -> Option Int -> Option Int -> Hp -> VK -> Prop):Prop:=
  ∀ (pins:List (Addr × Obj)) (s:Shared) (σ:St) (H:Hp) (x:V) (v vl vu:Value) (lo hi:Option Int) (sl:Addr) (Q:VK),Inv X pins σ H s -> RelV x v -> s.heap.IsSliceOf sl vl vu .none -> IsPart vl lo -> IsPart vu hi -> r x lo hi H Q ->
    ∃ T id,typeLookup (.type T) "__getitem__" = pure (some (.builtin id)) /\ s.TypeIs v T /\ wpAny (model X.prog X.w) X.A (getItem v (.ref sl)) (EP X pins σ Q) X.xe s
def tSl (r:V -> Option Int -> Option Int -> Hp -> VK -> Prop) (te:TE) (tl th:TO):TE:=fun σ H Q=>te σ H fun x H1=>tl σ H1 fun l H2=>th σ H2 fun u H3=>r x l u H3 Q
theorem wQ {r:V -> Option Int -> Option Int -> Hp -> VK -> Prop} (hr:SlR X r) (he:PE X e te) (hl:PO X lo tl) (hu:PO X hi th):PE X (.Subscript e (.Slice lo hi none p2) pos) (tSl r te tl th):=by
  intro pins s σ H Q I h
  refine Subscript_ (thn (he pins s σ H _ I h) fun v s1 ⟨x,H1,I1,r1,q1⟩=>?_)
  refine wpAny_Slice (thn (hl pins s1 σ H1 _ I1 q1) fun vl s2 ⟨l,H2,I2,pl,q2⟩=>thn (hu pins s2 σ H2 _ I2 q2) fun vu s3 ⟨u,H3,I3,pu,q3⟩=>?_)
  rw [evalPart_none]
  refine wpAny_pure ?_
  have I4:Inv X pins σ H3 { s3 with heap:=s3.heap.push { cls:=.type "slice",data:=.fields #[vl,vu,.none] } }:=I3.kept (t':=s3.toks) fun b ob q=>Heap.get?_push_of_some _ q
  obtain ⟨T,id,hT,ht,hg⟩:=hr pins { s3 with heap:=s3.heap.push { cls:=.type "slice",data:=.fields #[vl,vu,.none] } } σ H3 x v vl vu l u s3.heap.objs.size Q I4 r1 (Heap.IsSliceOf.new ..) pl pu q3
  show wpAny (model X.prog X.w) X.A (subscriptTail e (.Slice lo hi none p2) v (.ref s3.heap.objs.size)) (EP X pins σ Q) X.xe { s3 with heap:=s3.heap.push { cls:=.type "slice",data:=.fields #[vl,vu,.none] } }
  exact tail_any (ops:=[.ref s3.heap.objs.size,v]) ht hT hg (by with_unfolding_all rfl)
def j3 (xs:List V) (lo hi:Option Int):List V:=(xs.drop (HT.sIx xs.length 0 lo)).take (HT.sIx xs.length xs.length hi - HT.sIx xs.length 0 lo)
theorem QK (xs:List V) (lo hi:Option Int):(j3 xs lo hi).length <= xs.length:=by
  unfold j3
  rw [List.length_take,List.length_drop]
  omega
end
def ixN (n:Nat) (i:Int):Option Nat:=if 0 <= i then (if i < n then some i.toNat else none) else if -(n:Int) <= i then some (i + n).toNat else none
def atI {α:Type} (xs:List α) (i:Int):Option α:=(ixN xs.length i).bind fun j=>xs[j]?
theorem Xg {n:Nat} {i:Int} {j:Nat} (h:ixN n i = some j):seqIndex? i n = some j /\ j < n /\ -(n:Int) <= i /\ i < n:=by
  unfold ixN at h
  by_cases h0:0 <= i
  · rw [if_pos h0] at h
    by_cases h1:i < n
    · rw [if_pos h1] at h
      have e:i.toNat = j:=Option.some.inj h
      exact ⟨by rw [seqIndex_of h0 h1,e],by omega,by omega,h1⟩
    · rw [if_neg h1] at h;cases h
  · rw [if_neg h0] at h
    by_cases h1:-(n:Int) <= i
    · rw [if_pos h1] at h
      have e:(i + n).toNat = j:=Option.some.inj h
      exact ⟨by rw [seqIndex_neg (by omega) h1,e],by omega,h1,by omega⟩
    · rw [if_neg h1] at h;cases h
theorem ZT {α:Type} {xs:List α} {i:Int} {v:α} (h:atI xs i = some v):∃ j,seqIndex? i xs.length = some j /\ xs[j]? = some v /\ j < xs.length /\ -(xs.length:Int) <= i /\ i < xs.length:=by
  unfold atI at h
  cases e:ixN xs.length i with
  | none=>rw [e] at h;cases h
  | some j=>
    rw [e] at h
    obtain ⟨h1,h2,h3,h4⟩:=Xg e
    exact ⟨j,h1,h,h2,h3,h4⟩
theorem qm {α:Type} {xs:List α} {j:Nat} {v:α} (h:xs[j]? = some v):atI xs (j:Int) = some v:=by
  have hj:j < xs.length:=(List.getElem?_eq_some_iff.mp h).1
  have e:ixN xs.length (j:Int) = some j:=by
    unfold ixN
    rw [if_pos (by omega),if_pos (by omega)];simp
  unfold atI;rw [e];exact h
theorem Yg {α:Type} (xs:List α) (v:α):atI (xs ++ [v]) (-1) = some v:=by
  have hl:(xs ++ [v]).length = xs.length + 1:=by simp
  have e:ixN (xs ++ [v]).length (-1) = some xs.length:=by
    unfold ixN
    rw [hl,if_neg (by decide),if_pos (by omega)]
    congr 1
    omega
  unfold atI
  rw [e]
  show (xs ++ [v])[xs.length]? = some v
  simp
def zai (b:Expr):Prop:=∀ o i,subscripted b false o i = operate [o,i] (getItem o i)
def IxR (X:Cx) (r:R2):Prop:=
  ∀ (value slice:Expr) (pins:List (Addr × Obj)) (s:Shared) (σ:St) (H:Hp) (x y:V) (v u:Value) (Q:VK),Inv X pins σ H s -> RelV x v -> RelV y u -> r x y H Q ->
    subscripted slice false v u = operate [v,u] (getItem v u) -> wpAny (model X.prog X.w) X.A (subscriptTail value slice v u) (EP X pins σ Q) X.xe s
def MtR (X:Cx) (id:String) (r:V -> List V -> Hp -> VK -> Prop):Prop:=
  ∀ (pins:List (Addr × Obj)) (s:Shared) (σ:St) (H:Hp) (x:V) (xs:List V) (v:Value) (us:List Value) (Q:VK),Inv X pins σ H s -> RelV x v -> Vals xs us -> r x xs H Q ->
    wpAny (model X.prog X.w) X.A (call (.builtin id) (v :: us)) (EP X pins σ Q) X.xe s
section
variable {X:Cx} {a b:Expr} {ta tb:TE} {pos:Pos}
theorem zx {r:R2} (hr:IxR X r) (ha:PE X a ta) (hb:PE X b tb) (hs:zai b):PE X (.Subscript a b pos) (tOp r ta tb):=by
  intro pins s σ H Q I h
  exact Subscript_ (zbG ha hb I h fun v u s2 x y H2 I2 rx ry q=>hr a b pins s2 σ H2 x y v u Q I2 rx ry q (hs _ _))
inductive za5 (K:PySem.W.Frag) (x:V) (y:V) (H:Hp) (Q:VK):Prop
  | mk (p xs i v:_) (_:x = .ref p) (_:y = .int i) (_:SqL K H p xs) (_:atI xs i = some v) (_:Q v H):za5 K x y H Q
inductive za4 (K:PySem.W.Frag) (x:V) (y:V) (H:Hp) (Q:VK):Prop
  | mk (p xs i v:_) (_:x = .ref p) (_:y = .int i) (_:SqT K H p xs) (_:atI xs i = some v) (_:Q v H):za4 K x y H Q
inductive zcd (x:V) (y:V) (H:Hp) (Q:VK):Prop
  | mk (z i c:_) (_:x = .str z) (_:y = .int i) (_:z.length <= sizeLine) (_:atI z.cps.toList i = some c) (_:Q (.str ⟨#[c]⟩) H):zcd  x y H Q
theorem zD:IxR X (za5 X.K):=by
  intro value slice pins s σ H x y v u Q I rx ry h hs
  obtain ⟨p,xs,i,z,rfl,rfl,hq,he,q⟩:=h
  cases rx
  obtain ⟨t,rfl⟩:=ry
  obtain ⟨its,r,pl,hz⟩:=I.list hq
  obtain ⟨j,h1,h2,h3,h4,h5⟩:=ZT he
  obtain ⟨w,ew,rw'⟩:=r.get h2
  have hl:=r.length
  have hn:=vY
  have fin:EP X pins σ Q w s:=⟨z,H,I,rw',q⟩
  by_cases h0:0 <= i
  · have hj:i.toNat = j:=by
      rw [seqIndex_of h0 h5] at h1
      exact Option.some.inj h1
    exact item_listR pl.isList h0 (by omega) (by rw [hj];simpa using ew) fin hs
  · have hj:(i + (its.toArray.size:Int)).toNat = j:=by
      rw [seqIndex_neg (by omega) h4] at h1
      rw [List.size_toArray,<- hl]
      exact Option.some.inj h1
    exact subscriptTail_builtinR (x:=w) pl.isList.typeIs slot_list_getitem.lookup
      (wpAny_getItem_list_neg (Q:=fun r s'=>r = w /\ EP X pins σ Q r s') pl.isList (by omega) (by rw [List.size_toArray] <;> omega) (by omega) (by rw [hj];simpa using ew) ⟨rfl,fin⟩) hs
theorem qW:IxR X (za4 X.K):=by
  intro value slice pins s σ H x y v u Q I rx ry h hs
  obtain ⟨p,xs,i,z,rfl,rfl,hq,he,q⟩:=h
  cases rx
  obtain ⟨t,rfl⟩:=ry
  obtain ⟨its,r,pl,hz⟩:=I.tuple hq
  obtain ⟨j,h1,h2,h3,h4,h5⟩:=ZT he
  obtain ⟨w,ew,rw'⟩:=r.get h2
  have hl:=r.length
  have hn:=vY
  have fin:EP X pins σ Q w s:=⟨z,H,I,rw',q⟩
  exact subscriptTail_builtinR (x:=w) pl.typeIs slot_tuple_getitem.lookup
    (getItem_tuple (j:=j) (Q:=fun r s'=>r = w /\ EP X pins σ Q r s') pl (by omega) (by omega) (by rw [List.size_toArray,<- hl];exact h1) (by simpa using ew) ⟨rfl,fin⟩) hs
theorem zbw:IxR X zcd:=by
  intro value slice pins s σ H x y v u Q I rx ry h hs
  obtain ⟨z,i,c,rfl,rfl,hz,he,q⟩:=h
  obtain ⟨t,rfl⟩:=rx
  obtain ⟨t',rfl⟩:=ry
  obtain ⟨j,h1,h2,h3,h4,h5⟩:=ZT he
  have hl:z.cps.toList.length = z.length:=by simp [Str.length]
  rw [hl] at h1 h4 h5
  have hn:=vY
  exact tail_any (typeIs_str s z t) slot_str_getitem.lookup (getItem_str (c:=c) (by
    have e1:decide (i < -(2 ^ 63:Int)) = false:=decide_eq_false (by omega)
    have e2:decide (i ≥ 2 ^ 63) = false:=decide_eq_false (by omega)
    rw [e1,e2,Bool.or_false]) (by rw [h1];simpa using h2) ⟨.str ⟨#[c]⟩,H,I.tok _,⟨_,rfl⟩,q⟩) hs
theorem Jk (its:List Value) (n j:Nat) (u:Value):Obj.mapSeq (·.setIfInBounds j u) { cls:=.type "list",data:=.seq its.toArray n } = { cls:=.type "list",data:=.seq (its.set j u).toArray n }:=by
  simp [Obj.mapSeq]
theorem Inv.lst {pins:List (Addr × Obj)} {σ:St} {H:Hp} {s:Shared} {p:Addr} {xs:List V} (I:Inv X pins σ H s) (h:H p = some (.lst xs)) :
    ∃ (its:List Value) (n:Nat),Vals xs its /\ s.heap.get? p = some { cls:=.type "list",data:=.seq its.toArray n } /\ xs.length <= sizeLine:=by
  obtain ⟨z,its,n,r,e⟩:=I.hok p _ h
  exact ⟨its,n,r,e,z⟩
theorem Inv.lstUpd {pins:List (Addr × Obj)} {σ:St} {H:Hp} {s:Shared} {p:Addr} {xs ys:List V} {its its':List Value} {n n':Nat} {f:Obj -> Obj} (I:Inv X pins σ H s) (h:H p = some (.lst xs))
    (ho:s.heap.get? p = some { cls:=.type "list",data:=.seq its.toArray n }) (hf:f { cls:=.type "list",data:=.seq its.toArray n } = { cls:=.type "list",data:=.seq its'.toArray n' }) (r:Vals ys its') (hz:ys.length <= sizeLine) (t:Nat) :
    Inv X pins σ (upd H p (.lst ys)) { s with heap:=s.heap.update p f,toks:=t }:=by
  have e:(s.heap.update p f).get? p = some { cls:=.type "list",data:=.seq its'.toArray n' }:=by
    rw [Heap.get?_update_self f ho (by rw [hf] <;> rfl),hf]
  refine I.write (x:=p) (e:=p) (by rw [h];trivial) (.inl rfl) (fun b u hb q=>(Heap.get?_update_other _ _ (Ne.symm hb)).trans q) ⟨_,e⟩ ?_
  exact ⟨hz,its',n',r,e⟩
inductive zax (o:V) (i:V) (v:V) (H:Hp) (Q:Hp -> Prop):Prop
  | mk (p xs k j:_) (_:o = .ref p) (_:i = .int k) (_:H p = some (.lst xs)) (_:ixN xs.length k = some j) (_:Q (upd H p (.lst (xs.set j v)))):zax  o i v H Q
theorem jM:zaj X zax:=by
  intro pins s σ H o i v ov iv u Q I ro ri rv h
  obtain ⟨p,xs,k,j,rfl,rfl,hp,hj,q⟩:=h
  cases ro
  obtain ⟨t,rfl⟩:=ri
  obtain ⟨its,n,r,ho,hz⟩:=I.lst hp
  obtain ⟨h1,h2,h3,h4⟩:=Xg hj
  have hl:=r.length
  have hn:=vY
  have I':Inv X pins σ (upd H p (.lst (xs.set j v))) { s with heap:=s.heap.update p (Obj.mapSeq (·.setIfInBounds j u)) }:=
    I.lstUpd hp ho (Jk its n j u) (r.set rv j) (by rw [List.length_set];exact hz) s.toks
  by_cases h0:0 <= k
  · have hk:k.toNat = j:=by
      rw [seqIndex_of h0 h4] at h1
      exact Option.some.inj h1
    exact PySem.W.ki_setAt ho h0 (by omega) (by rw [List.size_toArray,<- hl];exact h4) (by rw [hk];exact ⟨_,I',q⟩)
  · have hk:(k + (its.toArray.size:Int)).toNat = j:=by
      rw [seqIndex_neg (by omega) h3] at h1
      rw [List.size_toArray,<- hl]
      exact Option.some.inj h1
    exact PySem.W.ki_setBack ho (by omega) (by rw [List.size_toArray,<- hl];exact h3) (by omega) (by rw [hk];exact ⟨_,I',q⟩)
theorem ZE (lo hi:Option Int) (n:Nat):(sliceBounds lo hi none n).1 = ((HT.sIx n 0 lo:Nat):Int) /\ (sliceBounds lo hi none n).2.1 = ((HT.sIx n n hi:Nat):Int) /\ (sliceBounds lo hi none n).2.2 = 1:=by
  refine ⟨?_,?_,rfl⟩
  · cases lo with
    | none=>simp [sliceBounds,HT.sIx]
    | some i=>
      simp only [sliceBounds,HT.sIx,Option.getD_none,show (1:Int) > 0 by decide,if_true]
      by_cases h:i < 0
      · simp only [h,if_true] <;> omega
      · simp only [h,if_false] <;> omega
  · cases hi with
    | none=>simp [sliceBounds,HT.sIx]
    | some i=>
      simp only [sliceBounds,HT.sIx,Option.getD_none,show (1:Int) > 0 by decide,if_true]
      by_cases h:i < 0
      · simp only [h,if_true] <;> omega
      · simp only [h,if_false] <;> omega
theorem yB (its:List Value) (lo hi:Option Int):slicePick its.toArray lo hi none = ((its.drop (HT.sIx its.length 0 lo)).take (HT.sIx its.length its.length hi - HT.sIx its.length 0 lo)).toArray:=by
  obtain ⟨h1,h2,h3⟩:=ZE lo hi its.toArray.size
  unfold slicePick
  rw [h1,h2,h3]
  simp only [sliceRange_one,pick_run,List.size_toArray] <;> rfl
inductive zcb (K:PySem.W.Frag) (x:V) (lo:Option Int) (hi:Option Int) (H:Hp) (Q:VK):Prop
  | mk (a xs:_) (_:x = .ref a) (_:SqL K H a xs) (_:∀ p,H p = none -> Q (.ref p) (upd H p (.lst (j3 xs lo hi)))):zcb K x lo hi H Q
theorem ZF:SlR X (zcb X.K):=by
  intro pins s σ H x v vl vu lo hi sl Q I rx hs pl pu h
  obtain ⟨a,xs,rfl,hx,q⟩:=h
  cases rx
  obtain ⟨its,r,ht,hz⟩:=I.list hx
  have hlen:=r.length
  refine ⟨"list",_,slot_list_getitem.lookup,ht.isList.typeIs,?_⟩
  refine wpAny_getItem_list_slice ht.isList hs pl pu .none (by simp) ?_ (by rw [List.size_toArray] <;> omega)
  rw [yB,<- hlen]
  refine ⟨.ref s.heap.objs.size,_,I.laid (t':=s.toks) (o:=.lst (j3 xs lo hi)) (fun b ob q=>Heap.get?_push_of_some _ q) (Nat.le_refl _) ?_,rfl,q _ (I.hok.fresh (Nat.le_refl _))⟩
  exact ⟨Nat.le_trans (QK xs lo hi) hz,_,0,(r.drop (HT.sIx xs.length 0 lo)).take (HT.sIx xs.length xs.length hi - HT.sIx xs.length 0 lo),Heap.get?_push_size _ rfl⟩
def jr:V -> Bool
  | .non=>true
  | .bl _=>true
  | .int _=>true
  | .str _=>true
  | _=>false
def eqV:V -> V -> Bool
  | .non,.non=>true
  | .bl a,.bl b=>a == b
  | .bl a,.int b=>(if a then 1 else 0) == b
  | .int a,.bl b=>a == (if b then 1 else 0)
  | .int a,.int b=>a == b
  | .str a,.str b=>a == b
  | _,_=>false
theorem W5 {A:Around} {s:Shared} {y x:V} {u v:Value} (ry:RelV y u) (rx:RelV x v) (fy:jr y = true) (fx:jr x = true):SeqAt.EqAt A s u v (eqV y x):=by
  cases y with
  | non=>
    cases ry
    cases x with
    | non=>cases rx;exact SeqAt.EqAt.same _
    | bl b=>cases rx;exact SeqAt.EqAt.none_bool b
    | int b=>obtain ⟨t,rfl⟩:=rx;exact SeqAt.EqAt.none_int b t
    | str b=>obtain ⟨t,rfl⟩:=rx;exact SeqAt.EqAt.none_str b t
    | _=>exact absurd (show false = true from fx) Bool.false_ne_true
  | bl a=>
    cases ry
    cases x with
    | non=>cases rx;exact SeqAt.EqAt.bool_none a
    | bl b=>cases rx;exact SeqAt.EqAt.bool_bool a b
    | int b=>obtain ⟨t,rfl⟩:=rx;exact SeqAt.EqAt.bool_int a b t
    | str b=>obtain ⟨t,rfl⟩:=rx;exact SeqAt.EqAt.bool_str a b t
    | _=>exact absurd (show false = true from fx) Bool.false_ne_true
  | int a=>
    obtain ⟨t',rfl⟩:=ry
    cases x with
    | non=>cases rx;exact SeqAt.EqAt.int_none a t'
    | bl b=>cases rx;exact SeqAt.EqAt.int_bool a t' b
    | int b=>obtain ⟨t,rfl⟩:=rx;exact SeqAt.EqAt.int_int a t' b t
    | str b=>obtain ⟨t,rfl⟩:=rx;exact SeqAt.EqAt.int_str a t' b t
    | _=>exact absurd (show false = true from fx) Bool.false_ne_true
  | str a=>
    obtain ⟨t',rfl⟩:=ry
    cases x with
    | non=>cases rx;exact SeqAt.EqAt.str_none a t'
    | bl b=>cases rx;exact SeqAt.EqAt.str_bool a t' b
    | int b=>obtain ⟨t,rfl⟩:=rx;exact SeqAt.EqAt.str_int a t' b t
    | str b=>obtain ⟨t,rfl⟩:=rx;exact SeqAt.EqAt.str_str a t' b t
    | _=>exact absurd (show false = true from fx) Bool.false_ne_true
  | _=>exact absurd (show false = true from fy) Bool.false_ne_true
def eqU (x:V) (u:Value):Bool:=match u with
  | .none=>eqV .non x
  | .bool b=>eqV (.bl b) x
  | .int i _=>eqV (.int i) x
  | .str z _=>eqV (.str z) x
  | _=>false
theorem W4 {x y:V} {u:Value} (r:RelV y u) (f:jr y = true):eqU x u = eqV y x:=by
  cases y with
  | non=>cases r;rfl
  | bl b=>cases r;rfl
  | int i=>obtain ⟨t,rfl⟩:=r;rfl
  | str z=>obtain ⟨t,rfl⟩:=r;rfl
  | _=>exact absurd (show false = true from f) Bool.false_ne_true
theorem vG {x:V}:∀ {xs:List V} {us:List Value},Vals xs us -> xs.all jr = true -> us.any (eqU x) = xs.any fun y=>eqV y x
  | _,_,.nil,_=>rfl
  | y :: xs,u :: us,.cons r t,f=>by
    rw [List.all_cons,Bool.and_eq_true] at f
    rw [List.any_cons,List.any_cons,W4 r f.1,vG t f.2]
theorem xE {A:Around} {s:Shared} {x:V} {v:Value} (rx:RelV x v) (fx:jr x = true):∀ {xs:List V} {us:List Value},Vals xs us -> xs.all jr = true -> ∀ u ∈ us,SeqAt.EqAt A s u v (eqU x u)
  | _,_,.nil,_=>fun u hu=>by cases hu
  | y :: xs,u :: us,.cons r t,f=>fun u' hu=>by
    rw [List.all_cons,Bool.and_eq_true] at f
    rcases List.mem_cons.mp hu with rfl | hu
    · rw [W4 r f.1];exact W5 r rx f.1 fx
    · exact xE rx fx t f.2 u' hu
def inV (x:V) (xs:List V):Bool:=xs.any fun y=>eqV y x
inductive rIn (K:PySem.W.Frag) (neg:Bool) (x:V) (y:V) (H:Hp) (Q:VK):Prop
  | mk (p xs:_) (_:y = .ref p) (_:(SqL K H p xs \/ SqT K H p xs)) (_:jr x = true) (_:xs.all jr = true) (_:Q (.bl (if neg then !inV x xs else inV x xs)) H):rIn K neg x y H Q
theorem yX:OpR X (compareOp .In) (rIn X.K false):=by
  intro pins s σ H x y v u Q I rx ry h
  obtain ⟨p,xs,rfl,hq,fx,fs,q⟩:=h
  cases ry
  rcases hq with hq | hq
  · obtain ⟨its,r,pl,hz⟩:=I.list hq
    refine SeqAt.in_listAt (eqU x) pl.isList (fun w hw=>xE rx fx r fs w (by simpa using hw)) ⟨.bl _,H,I,rfl,?_⟩
    rw [show its.toArray.any (eqU x) = its.any (eqU x) by simp,vG r fs]
    exact q
  · obtain ⟨its,r,pl,hz⟩:=I.tuple hq
    refine SeqAt.in_tupleAt (eqU x) pl (fun w hw=>xE rx fx r fs w (by simpa using hw)) ⟨.bl _,H,I,rfl,?_⟩
    rw [show its.toArray.any (eqU x) = its.any (eqU x) by simp,vG r fs]
    exact q
theorem ZI:OpR X (compareOp .NotIn) (rIn X.K true):=by
  intro pins s σ H x y v u Q I rx ry h
  obtain ⟨p,xs,rfl,hq,fx,fs,q⟩:=h
  cases ry
  rcases hq with hq | hq
  · obtain ⟨its,r,pl,hz⟩:=I.list hq
    refine SeqAt.notIn_listAt (eqU x) pl.isList (fun w hw=>xE rx fx r fs w (by simpa using hw)) ⟨.bl _,H,I,rfl,?_⟩
    rw [show its.toArray.any (eqU x) = its.any (eqU x) by simp,vG r fs]
    exact q
  · obtain ⟨its,r,pl,hz⟩:=I.tuple hq
    refine SeqAt.notIn_tupleAt (eqU x) pl (fun w hw=>xE rx fx r fs w (by simpa using hw)) ⟨.bl _,H,I,rfl,?_⟩
    rw [show its.toArray.any (eqU x) = its.any (eqU x) by simp,vG r fs]
    exact q
inductive jS (K:PySem.W.Frag) (xs:List V) (H:Hp) (Q:VK):Prop
  | mk (p ys:_) (_:xs = [.ref p]) (_:(SqL K H p ys \/ SqT K H p ys)) (_:Q (.int ys.length) H):jS K xs H Q
theorem zI:ja X (.builtin "len") (jS X.K):=by
  intro pins s σ H xs us Q I r h
  obtain ⟨p,ys,rfl,hq,q⟩:=h
  obtain ⟨u,rfl,rx⟩:=j5 r
  cases rx
  have hn:=vY
  rcases hq with hq | hq
  · obtain ⟨its,r',pl,hz⟩:=I.list hq
    have hlen:=r'.length
    exact Calls.call_len_list pl.isList (by simp only [List.size_toArray] <;> omega) ⟨.int ys.length,H,I.tok _,⟨s.toks + 1,by rw [List.size_toArray,hlen]⟩,q⟩
  · obtain ⟨its,r',pl,hz⟩:=I.tuple hq
    have hlen:=r'.length
    exact len_tuple pl (by simp only [List.size_toArray] <;> omega) ⟨.int ys.length,H,I.tok _,⟨s.toks + 1,by rw [List.size_toArray,hlen]⟩,q⟩
inductive xM (K:PySem.W.Frag) (xs:List V) (H:Hp) (Q:VK):Prop
  | mk (p ys:_) (_:xs = [.ref p]) (_:(SqL K H p ys \/ SqT K H p ys)) (_:∀ l,H l = none -> Q (.ref l) (upd H l (.lst ys))):xM K xs H Q
theorem vE:ja X (.type "list") (xM X.K):=by
  intro pins s σ H xs us Q I r h
  obtain ⟨p,ys,rfl,hq,q⟩:=h
  obtain ⟨u,rfl,rx⟩:=j5 r
  cases rx
  have fin:∀ (its:List Value),Vals ys its -> ys.length <= sizeLine -> ∀ (h':Heap) (c':Nat),(∀ b o',s.heap.get? b = some o' -> h'.get? b = some o') ->
      h'.get? s.heap.objs.size = some { cls:=.type "list",dict:=none,data:=.seq its.toArray c',slots:=#[] } -> EP X pins σ Q (.ref s.heap.objs.size) { s with heap:=h' }:=fun its r' hz h' c' kp e=>
    ⟨.ref s.heap.objs.size,_,I.laid (t':=s.toks) kp (Nat.le_refl _) (show ObjOk X.prog X.w _ h' _ (.lst ys) from ⟨hz,its,c',r',e⟩),rfl,q _ (I.hok.fresh (Nat.le_refl _))⟩
  rcases hq with hq | hq
  · obtain ⟨its,r',pl,hz⟩:=I.list hq
    have hlen:=r'.length
    obtain ⟨o,ho,hc,n,hd⟩:=pl.isList
    exact call_list_seq p (.inl rfl) ho hc hd (fun h' c' kp e=>fin its r' hz h' c' kp e) (by simp only [List.size_toArray] <;> omega)
  · obtain ⟨its,r',pl,hz⟩:=I.tuple hq
    have hlen:=r'.length
    obtain ⟨o,ho,hc,n,hd⟩:=pl
    exact call_list_seq p (.inr rfl) ho hc hd (fun h' c' kp e=>fin its r' hz h' c' kp e) (by simp only [List.size_toArray] <;> omega)
inductive xu (K:PySem.W.Frag) (xs:List V) (H:Hp) (Q:VK):Prop
  | mk (p ys:_) (_:xs = [.ref p]) (_:((SqL K H p ys /\ ∀ l,H l = none -> Q (.ref l) (upd H l (.tup ys))) \/ (SqT K H p ys /\ Q (.ref p) H))):xu K xs H Q
theorem zY:ja X (.type "tuple") (xu X.K):=by
  intro pins s σ H xs us Q I r h
  obtain ⟨p,ys,rfl,h⟩:=h
  obtain ⟨u,rfl,rx⟩:=j5 r
  cases rx
  rcases h with ⟨hq,q⟩ | ⟨hq,q⟩
  · obtain ⟨its,r',pl,hz⟩:=I.list hq
    have hlen:=r'.length
    refine call_tuple_list pl.isList (fun h' kp=>?_) (by simp only [List.size_toArray] <;> omega)
    have I1:Inv X pins σ H { s with heap:=h' }:=I.kept (t':=s.toks) kp
    have I2:Inv X pins σ (upd H h'.objs.size (.tup ys)) { s with heap:=h'.push { cls:=.type "tuple",data:=.seq its.toArray } }:=
      I1.laid (t':=s.toks) (fun b o e=>Heap.get?_push_of_some _ e) (Nat.le_refl _) (show ObjOk X.prog X.w _ _ _ (.tup ys) from ⟨hz,its,r',⟨IsTup.new _ _,_,Heap.get?_push_size _ rfl,rfl⟩⟩)
    exact ⟨.ref h'.objs.size,_,I2,rfl,q _ (I1.hok.fresh (Nat.le_refl _))⟩
  · obtain ⟨its,r',pl,hz⟩:=I.tuple hq
    exact call_tuple_same pl ⟨.ref p,H,I,rfl,q⟩
def tyV (K:PySem.W.Frag) (T:String) (x:V) (H:Hp):Prop:=match x with
  | .str _=>T = "str"
  | .int _=>T = "int"
  | .ref p=>(T = "list" /\ ∃ xs,SqL K H p xs) \/ (T = "tuple" /\ ∃ o,K.lookup p = some o /\ o.cls = .type "tuple" /\ o.dict = none) \/
      (T = "dict" /\ ((∃ kvs,H p = some (.dK kvs)) \/ ∃ kvs,H p = some (.dT kvs))) \/ (T = "set" /\ ∃ S n,H p = some (.set S n))
  | _=>False
theorem zaK {pins:List (Addr × Obj)} {σ:St} {H:Hp} {s:Shared} {T:String} {x:V} {v:Value} (I:Inv X pins σ H s) (r:RelV x v) (ty:tyV X.K T x H) :
    s.TypeIs v T /\ ∀ a,v = .ref a -> ∃ ob,s.heap.get? a = some ob /\ ob.dict = none:=by
  cases x with
  | str z=>
    obtain ⟨t,rfl⟩:=r
    cases (show T = "str" from ty)
    exact ⟨typeIs_str s z t,fun _ e=>nomatch e⟩
  | int i=>
    obtain ⟨t,rfl⟩:=r
    cases (show T = "int" from ty)
    exact ⟨typeIs_int s i t,fun _ e=>nomatch e⟩
  | ref p=>
    cases r
    rcases ty with ⟨rfl,xs,hq⟩ | ⟨rfl,o,hk,hc,hd⟩ | ⟨rfl,hk⟩ | ⟨rfl,S,n,hk⟩
    · obtain ⟨its,_,pl,_⟩:=I.list hq
      refine ⟨pl.isList.typeIs,fun a e=>?_⟩
      cases e
      obtain ⟨o,n,e,c,hd,_⟩:=pl
      exact ⟨o,e,hd⟩
    · refine ⟨⟨o,I.kIn p o hk,hc⟩,fun a e=>?_⟩
      cases e
      exact ⟨o,I.kIn _ o hk,hd⟩
    · have z:∃ o,s.heap.get? p = some o /\ o.ExactDict:=by
        rcases hk with ⟨kvs,hk⟩ | ⟨kvs,hk⟩
        · obtain ⟨_,_,_,_,o,_,_,e,ex,_⟩:=I.hok p _ hk
          exact ⟨o,e,ex⟩
        · obtain ⟨_,_,_,_,o,_,_,e,ex,_⟩:=I.hok p _ hk
          exact ⟨o,e,ex⟩
      obtain ⟨o,e,ex⟩:=z
      refine ⟨⟨o,e,ex.1⟩,fun a e2=>?_⟩
      cases e2
      exact ⟨o,e,ex.2.1⟩
    · obtain ⟨o,_,_,_,e,ex,_⟩:=I.hok p _ hk
      refine ⟨⟨o,e,ex.1⟩,fun a e2=>?_⟩
      cases e2
      exact ⟨o,e,ex.2.1⟩
  | _=>exact False.elim ty
def tBM (K:PySem.W.Frag) (T:String) (r:V -> List V -> Hp -> VK -> Prop) (to:TE) (t:TA):TE:=fun σ H Q=>to σ H fun x H1=>tyV K T x H1 /\ t σ H1 fun xs H2=>r x xs H2 Q
variable {o e:Expr} {es:List Expr} {to:TE} {t:TA} {name:Str} {apos cpos:Pos} {T id:String} {r:V -> List V -> Hp -> VK -> Prop}
theorem jn (pa:PlainAttrs T) (slot:Slot T name id) (hty:typeOf (.builtin id) = pure (.type "method_descriptor")) (hm:MtR X id r) (ho:PE X o to) (ha:PA X (e :: es) t)
    (hbase:attributeBase o name X.env (eval o X.env) = eval o X.env:=by rfl)
    (hfew:((backTo cpos (starEach (e :: es) X.env)).all (fun x=>!x.1) && (backToKw cpos (keywordEach [] X.env)).all (fun x=>x.1.isSome)
      && decide ((e :: es).length + ([]:List Keyword).length + (if ([]:List Keyword).isEmpty then 0 else 1) < 30)) = true:=by rfl)
    (hline:(apos.endLine == cpos.line) = true:=by rfl) (hs:starEach (e :: es) X.env = (false,eval e X.env) :: starEach es X.env:=by rfl) (hplain:(backTo cpos (starEach es X.env)).any (·.1) = false:=by rfl) :
    PE X (.Call (.Attribute o name apos) (e :: es) [] cpos) (tBM X.K T r to t):=by
  intro pins s σ H Q I h
  refine wpAny_Call_method_late hbase hfew hline rfl (thn (ho pins s σ H _ I h) fun v s1 ⟨x,H1,I1,r1,ty,q1⟩=>?_)
  obtain ⟨h1,h2⟩:=zaK I1 r1 ty
  refine ⟨T,id,pa,slot,hty,h1,h2,?_⟩
  have hA:=ha cpos pins s1 σ H1 _ I1 q1
  rw [hs] at hA ⊢
  refine Calls.callWith_builtin (by show (false || (backTo cpos (starEach es X.env)).any (·.1)) = false;rw [hplain] <;> rfl) (Calls.evalArgs_plain ?_)
  exact thn hA fun us s2 ⟨vs,H2,I2,r2,q2⟩=>hm pins s2 σ H2 x vs v us Q I2 r1 r2 q2
end
def MtM (X:Cx) (id:String) (r:V -> List V -> Hp -> VK -> Prop):Prop:=
  ∀ (pins:List (Addr × Obj)) (s:Shared) (σ:St) (H:Hp) (x:V) (xs:List V) (v:Value) (us:List Value) (Q:VK),Inv X pins σ H s -> RelV x v -> Vals xs us -> r x xs H Q ->
    wpAny (model X.prog X.w) X.A (call (.builtin id) (v :: us)) (EP X pins σ Q) X.xe s
theorem Vals.one:∀ {x:V} {us:List Value},Vals [x] us -> ∃ u,us = [u] /\ RelV x u
  | _,_,.cons r .nil=>⟨_,rfl,r⟩
theorem Vals.two:∀ {x y:V} {us:List Value},Vals [x,y] us -> ∃ u v,us = [u,v] /\ RelV x u /\ RelV y v
  | _,_,_,.cons r (.cons q .nil)=>⟨_,_,rfl,r,q⟩
theorem Vals.eraseIdx:∀ {xs:List V} {us:List Value} (i:Nat),Vals xs us -> Vals (xs.eraseIdx i) (us.eraseIdx i)
  | _,_,_,.nil=>.nil
  | _,_,0,.cons _ t=>t
  | _,_,i + 1,.cons r t=>.cons r (Vals.eraseIdx i t)
theorem Vals.rep {xs:List V} {us:List Value} (h:Vals xs us):∀ k:Nat,Vals (List.replicate k xs).flatten (List.replicate k us).flatten
  | 0=>.nil
  | k + 1=>by
    rw [List.replicate_succ,List.replicate_succ,List.flatten_cons,List.flatten_cons]
    exact Vals.append h (Vals.rep h k)
theorem y9 (its:List Value):∀ (k:Nat) (acc:List Value),
    List.foldl (fun x1 x2=>x1 ++ x2) acc.toArray (List.replicate k its.toArray) = (acc ++ (List.replicate k its).flatten).toArray
  | 0,acc=>by simp
  | k + 1,acc=>by
    have e:acc.toArray ++ its.toArray = (acc ++ its).toArray:=by simp
    have e2:(acc ++ its) ++ (List.replicate k its).flatten = acc ++ (List.replicate (k + 1) its).flatten:=by
      rw [List.replicate_succ,List.flatten_cons,List.append_assoc]
    rw [<- e2,<- y9 its k (acc ++ its),<- e,List.replicate_succ,List.foldl_cons]
section
variable {X:Cx} {pins:List (Addr × Obj)} {σ:St} {H:Hp} {s:Shared} {l b:Addr} {xs ys zs:List V}
theorem Inv.lset {its its':List Value} {n:Nat} {f:Array Value -> Array Value} {t':Nat} (I:Inv X pins σ H s) (hH:H l = some (.lst xs))
    (e:s.heap.get? l = some { cls:=.type "list",data:=.seq its.toArray n }) (hf:f its.toArray = its'.toArray) (hv:Vals ys its') (hz:ys.length <= sizeLine) :
    Inv X pins σ (upd H l (.lst ys)) { s with heap:=s.heap.update l (Obj.mapSeq f),toks:=t' }:=by
  have q:=PySem.IsL.update e f
  rw [hf] at q
  refine I.write (x:=l) (e:=l) (by rw [hH];exact trivial) (.inl rfl) (fun b' u hb hu=>(Heap.get?_update_other s.heap (Obj.mapSeq f) (Ne.symm hb)).trans hu) ⟨_,q⟩ ?_
  exact ⟨hz,its',_,hv,q⟩
theorem Inv.lnew {its:List Value} {t':Nat} (I:Inv X pins σ H s) (hv:Vals ys its) (hz:ys.length <= sizeLine) :
    Inv X pins σ (upd H s.heap.objs.size (.lst ys)) { s with heap:=s.heap.push { cls:=.type "list",data:=.seq its.toArray },toks:=t' }:=
  I.laid (fun _ _ q=>Heap.get?_push_of_some _ q) (Nat.le_refl _) ⟨hz,its,0,hv,Heap.get?_push_size _ rfl⟩
theorem Inv.fresh (I:Inv X pins σ H s):H s.heap.objs.size = none:=I.hok.fresh (Nat.le_refl _)
theorem Inv.lstM (I:Inv X pins σ H s) (hH:H l = some (.lst xs)):xs.length <= sizeLine /\ ∃ (its:List Value) (n:Nat),Vals xs its /\ xs.length = its.length /\ s.heap.get? l = some { cls:=.type "list",data:=.seq its.toArray n }:=by
  obtain ⟨z,its,n,r,e⟩:=I.hok l _ hH
  exact ⟨z,its,n,r,r.length,e⟩
theorem Qo {n:Nat} (h:n <= sizeLine):Builtin.List.listTooLong n = false:=by
  unfold Builtin.List.listTooLong
  exact decide_eq_false (by omega)
end
section
variable {X:Cx}
inductive JT (x:V) (vs:List V) (H:Hp) (Q:VK):Prop
  | mk (l xs y:_) (_:x = .ref l) (_:vs = [y]) (_:H l = some (.lst xs)) (_:xs.length < sizeLine) (_:Q .non (upd H l (.lst (xs ++ [y])))):JT  x vs H Q
theorem zV:MtM X "list.append" JT:=by
  intro pins s σ H x vs v us Q I rx rv h
  obtain ⟨l,xs,y,rfl,rfl,hH,hz,q⟩:=h
  cases rx
  obtain ⟨u,rfl,ru⟩:=rv.one
  obtain ⟨z,its,n,r,hl,e⟩:=I.lstM hH
  refine call_meets F.slot_list_append ⟨_,e,rfl⟩ F.entry_list_append (F.args_list_append_2 _ _) (PySem.list_append l its.toArray n u (by rw [List.size_toArray];omega)) ⟨e,?_⟩
  refine ⟨.non,_,I.lset (its':=its ++ [u]) hH e (by simp) (r.append (.cons ru .nil)) ?_,rfl,q⟩
  rw [List.length_append,List.length_singleton]
  omega
inductive za6 (x:V) (y:V) (H:Hp) (Q:VK):Prop
  | mk (l b xs zs:_) (_:x = .ref l) (_:y = .ref b) (_:H l = some (.lst xs)) (_:H b = some (.lst zs)) (_:xs.length + zs.length <= sizeLine) (_:∀ p,H p = none -> Q (.ref p) (upd H p (.lst (xs ++ zs)))):za6  x y H Q
theorem ZJ:OpR X (binaryOp .Add) za6:=by
  intro pins s σ H x y v u Q I rx ry h
  obtain ⟨l,b,xs,zs,rfl,rfl,hH,hB,hz,q⟩:=h
  cases rx
  cases ry
  obtain ⟨z,its,n,r,hl,e⟩:=I.lstM hH
  obtain ⟨z2,its2,n2,r2,hl2,e2⟩:=I.lstM hB
  refine PySem.P.add_list e e2 ?_ (by rw [List.size_toArray,List.size_toArray];omega)
  have ea:its.toArray ++ its2.toArray = (its ++ its2).toArray:=by simp
  rw [ea]
  exact ⟨.ref _,_,I.lnew (t':=s.toks) (r.append r2) (by rw [List.length_append];omega),rfl,q _ I.fresh⟩
inductive zcc (x:V) (y:V) (H:Hp) (Q:VK):Prop
  | mk (l k xs:_) (_:x = .ref l) (_:y = .int k) (_:H l = some (.lst xs)) (_:-(2 ^ 63) <= k) (_:k < 2 ^ 63) (_:xs.length * k.toNat <= sizeLine) (_:∀ p,H p = none -> Q (.ref p) (upd H p (.lst (List.replicate k.toNat xs).flatten))):zcc  x y H Q
theorem YY {α:Type} (xs:List α) (k:Nat):(List.replicate k xs).flatten.length = k * xs.length:=by
  induction k with
  | zero=>simp
  | succ k ih=>rw [List.replicate_succ,List.flatten_cons,List.length_append,ih,Nat.succ_mul,Nat.add_comm]
theorem zbg:OpR X (binaryOp .Mult) zcc:=by
  intro pins s σ H x y v u Q I rx ry h
  obtain ⟨l,k,xs,rfl,rfl,hH,h1,h2,hz,q⟩:=h
  cases rx
  obtain ⟨t,rfl⟩:=ry
  obtain ⟨z,its,n,r,hl,e⟩:=I.lstM hH
  have hlen:its.toArray.size * k.toNat <= sizeLine:=by rw [List.size_toArray,<- hl];exact hz
  have hcap:¬ its.toArray.size * k.toNat > (2 ^ 63 - 1) / 8:=by
    have:(sizeLine:Nat) <= (2 ^ 63 - 1) / 8:=by decide
    omega
  have hfit:¬ (!Builtin.List.listFitsIndex k) = true:=by
    rw [fitsIndex_both h1 h2]
    exact Bool.false_ne_true
  have hlong:¬ Builtin.List.listTooLong (its.toArray.size * k.toNat) = true:=by
    rw [Qo hlen]
    exact Bool.false_ne_true
  have hnew:List.foldl (fun x1 x2=>x1 ++ x2) #[] (List.replicate (if its.toArray.isEmpty = true then 0 else k.toNat) its.toArray) = (List.replicate k.toNat its).flatten.toArray:=by
    have f0:∀ m:Nat,List.foldl (fun x1 x2=>x1 ++ x2) #[] (List.replicate m its.toArray) = (List.replicate m its).flatten.toArray:=fun m=>by
      have:=y9 its m []
      rw [List.nil_append] at this
      exact this
    rw [f0]
    cases its with
    | nil=>simp
    | cons a r'=>rw [if_neg (by simp)]
  refine wpAny_binaryOp_repeat_ref (T:= "list") (U:= "int") (by decide) ⟨_,e,rfl⟩ (fun s'=>typeIs_int s' k t) noFill_list_mul F.fills_int_mul F.slot_int_rmul repeat_list F.slot_int_index.lookup
    (call_meets F.slot_int_rmul (typeIs_int s k t) F.entry_int_rmul (F.args_int_rmul_2 _ _) (int___rmul___int_list k t l its.toArray n)
      ⟨e,rfl,⟨_,e,rfl⟩,call_meets F.slot_list_mul ⟨_,e,rfl⟩ F.entry_list_mul (F.args_list_mul_2 _ _) (AutoListH.list___mul___list_int_3 l its.toArray n k t hfit hcap hlong) ⟨e,?_⟩⟩)
  rw [hnew]
  exact ⟨.ref _,_,I.lnew (t':=s.toks) (r.rep k.toNat) (by rw [YY,Nat.mul_comm];exact hz),rfl,q _ I.fresh⟩
end
section
variable {prog:Program} {w:World} {A:Around} {E:Value -> Shared -> Prop} {s:Shared}
end
section
variable {X:Cx}
end
end L2
namespace Att
open PySem PySem.W PySem.Calls PyProof.Rows
theorem ww {P:Params} {h:Heap}:∀ (ns:List Int) (vs:List Value),WellAll P h vs (ns.map WData.int) -> IntsAre vs ns:=by
  intro ns
  induction ns with
  | nil=>
    intro vs w
    rw [List.map_nil] at w
    cases w
    exact .nil
  | cons n ns ih=>
    intro vs w
    rw [List.map_cons] at w
    cases w with
    | cons a b=>
      cases a
      exact .cons _ _ (ih _ b)
theorem Vh {l:OpenLaw} {n:Nat} (hn:l.most = some n) {P:Params} {h:Heap} {args:List WData} {vals:List Value}
    (hpre:l.row.toRowW.claim.pre args = true) (hwl:WellAll P h vals args) :
    ∃ a vs ns,vals = [Value.ref a] /\ args = [WData.list (ns.map WData.int)] /\ h.get? a = some { cls:=.type "list",data:=.seq vs.toArray } /\ IntsAre vs ns /\ ns.length <= n:=by
  have hsh:WShape.hasAll [] args [.list .int] = true:=(pre_splitW hpre).1
  have hc:l.pre.holds [] { args:=args } = true:=(pre_splitW hpre).2
  obtain ⟨d,r,rfl,h1,h2⟩:=hasAllW_cons hsh
  obtain rfl:=hasAllW_nil h2
  obtain ⟨xs,rfl,h3⟩:=hasW_list h1
  obtain ⟨ns,rfl⟩:=items_int h3
  have hlen:ns.length <= n:=by
    unfold OpenLaw.pre at hc
    have h4:(WTm.not (.lt (.lit (.int (n:Int))) (.len (.arg 0)))).holds [] { args:=[.list (ns.map .int)] } = true:=by
      have h4:=(holds_andW hc).1
      rw [hn] at h4
      exact h4
    have h5:=condW_of h4 (w_not (w_lt w_lit (w_len_list (w_arg rfl))))
    rw [List.length_map] at h5
    refine Nat.le_of_not_lt fun q=>?_
    have q':(n:Int) < ((ns.length:Nat):Int):=by omega
    first
      | (rw [decide_eq_true q'] at h5;exact absurd h5 (by decide))
      | (simp at h5;omega)
  cases hwl with
  | cons w1 w2=>
    cases w2
    cases w1 with
    | list ho hall=>exact ⟨_,_,ns,rfl,rfl,ho,ww ns _ hall,hlen⟩
theorem Vj (l:OpenLaw) (args:List WData):l.row.toRowW.claim.post args (.bool true) args = true:=
  postW_of (r:=l.row.toRowW) (X:=(true == true))
    (show WShape.has [] (.bool true) .bool = true by first | rfl | decide | simp [WShape.has,WShape.arms,WShape.armsAll])
    (show (WTm.eq .res (.lit (.bool true))).value [] { args:=args,res:=some (.bool true),after:=args } = some (.bool (true == true)) from w_eq_bool (w_res rfl) w_lit) rfl
theorem attach_call {l:OpenLaw} {n:Nat} {q:Program} {loose:List Str} {XP:(Str -> Option Value) -> Heap -> Prop} {YP:World -> Heap -> Prop} {d:DefRec}
    (hn:l.most = some n) (hdf:d.params.defaults = [])
    (call:∀ (w:World) (s₀ s₁:Shared) (mg mb:Str -> Option Value) (fa:Addr) (o:Obj) (pm cd doc:Value) (a:Addr) (vs:List Value) (ns:List Int),
      Ground q loose [] XP w s₀ mg mb s₁.heap -> YP w s₁.heap ->
      s₁.heap.get? fa = some o -> o.data = .func (docDef d.name d.params d.body d.scope pm cd doc) -> s₁.heap.CodeRec cd d.name -> mg d.name = some (.ref fa) ->
      s₁.heap.get? a = some { cls:=.type "list",data:=.seq vs.toArray } -> IntsAre vs ns -> ns.length <= n -> s₁.gens = #[] ->
      codeAny (model l.prog w) callerA (.call (.ref fa) ⟨[.ref a],[]⟩) (fun r s'=>r = .ok (.ret (.bool true)) /\ OldK s₁.heap s'.heap /\ s'.os = s₁.os /\ AllBare s'.gens) s₁) :
    WalkO q loose XP YP l.row.toRowW d [] (fun f vs=>PySem.call f vs):=by
  intro w s₀ s₁ mg mb G Y fa o pm cd doc dV kV ho hd hcd hD hmg hg args vals as hpre hlay hrd hwl hlo
  obtain rfl:dV = .none:=Dflts.none hD hdf
  obtain rfl:kV = .none:=Dflts.noKw hD
  obtain ⟨a,vs,ns,rfl,rfl,hobj,hints,hlen⟩:=Vh hn hpre hwl
  refine enter_call (codeAny_mono (call w s₀ s₁ mg mb fa o pm cd doc a vs ns G Y ho (fd_plain hd) hcd hmg hobj hints hlen hg) fun r s' hq=>?_)
  obtain ⟨rfl,h2,h3,h4⟩:=hq
  exact ⟨.inl ⟨.bool true,.bool true,[],rfl,fun _=>rfl,.bool true,Vj l _,fun _=>⟨List.Pairwise.nil,fun _ hm=>(nomatch hm)⟩⟩,h2,h3,h4⟩
section
variable {prog:Program} {w:World} {A:Around} {E:Value -> Shared -> Prop} {s:Shared} {K:Frag}
def ledger (h:Heap) (L d:Addr):List (Addr × Obj):=(List.range h.objs.size).filterMap fun a=>if a = L \/ a = d then none else (h.get? a).map fun o=>(a,o)
end
end Att
namespace L2
open PySem PySem.Spec PyProof.Rows
theorem yF:∀ {vs:List Value} {ns:List Int},IntsAre vs ns -> Vals (ns.map V.int) vs
  | _,_,.nil=>.nil
  | _,_,.cons n t h=>.cons ⟨t,rfl⟩ (yF h)
def zbK (H:Hp):Prop:=∀ b,H b = none \/ ∃ o xs,H b = some (.frz o (.lst xs))
theorem WU {P:Program} {w:World} {K:PySem.W.Frag} {mg mb:Str -> Option Value} {CX:CXT} {k:Nat} {fa a:Addr} {fd:FuncData} {x:Str} {sp:Sp} {s₁:Shared} {vs:List Value} {ns:List Int}
    (KX:K.In s₁.heap) (hns:s₁.heap.Ns mainGlobals mg) (hb:s₁.heap.Ns builtinsNs mb) (hbb:∀ x:Str,x ≠ "__name__" -> mb x = bootBuiltins x) (hlim:s₁.heap.NoLimit) (hg:s₁.gens = #[])
    (ha:s₁.heap.get? a = some { cls:=.type "list",data:=.seq vs.toArray }) (hi:IntsAre vs ns) (hl:ns.length <= sizeLine) (hr:Room k callerA)
    (F:∀ base:Heap,K.In base -> base.Ns mainGlobals mg -> qA P w K mg base CX k fa fd [x] sp) (hbind:∀ (s:Shared) (u:Value),BindsTo s fd ⟨[u],[]⟩ [(x,u)])
    (hsp:∀ H:Hp,zbK H -> SqL K H a (ns.map V.int) -> sp [.ref a] H (fun v _=>v = .bl true) fun _ _ _=>False)
    (hCX:∀ H e s',CX [] H s₁ (fun _ _ _=>False) e s' -> False) :
    codeAny (model P w) callerA (.call (.ref fa) ⟨[.ref a],[]⟩) (fun r s'=>r = .ok (.ret (.bool true)) /\ OldK s₁.heap s'.heap /\ s'.os = s₁.os /\ AllBare s'.gens) s₁:=by
  have rv:=yF hi
  have lenV:=hi.length
  have core:∀ H:Hp,zbK H -> SqL K H a (ns.map V.int) -> HOk P w H s₁.heap -> (∀ b,H b ≠ none -> b = a) -> (H a ≠ none -> K.lookup a = none) ->
      codeAny (model P w) callerA (.call (.ref fa) ⟨[.ref a],[]⟩) (fun r s'=>r = .ok (.ret (.bool true)) /\ OldK s₁.heap s'.heap /\ s'.os = s₁.os /\ AllBare s'.gens) s₁:=by
    intro H hO hS hok hA hK
    have base_of:∀ {b:Addr} {o:Obj},s₁.heap.get? b = some o -> H b = none -> (ZO s₁.heap H).get? b = some o:=fun e n=>WV e n
    have noA:∀ {b:Addr} {o:Obj} {es:Array DictEntry} {ep:Nat},s₁.heap.get? b = some o -> o.data = .dict es ep -> H b = none:=fun {b o es ep} e d=>by
      cases q:H b with
      | none=>rfl
      | some u=>
        have e':b = a:=hA b (by rw [q];simp)
        subst e'
        rw [ha] at e;cases e
        have d':Data.seq vs.toArray _ = Data.dict es ep:=d
        cases d'
    have nsK:∀ {b:Addr} {m:Str -> Option Value},s₁.heap.Ns b m -> (ZO s₁.heap H).Ns b m:=fun {b m} ⟨o,es,ep,e,d,r⟩=>⟨o,es,ep,base_of e (noA e d),d,r⟩
    have hKb:K.In (ZO s₁.heap H):=fun b o e=>base_of (KX b o e) (by
      cases q:H b with
      | none=>rfl
      | some u=>
        have e':b = a:=hA b (by rw [q];simp)
        subst e'
        rw [hK (by rw [q];simp)] at e;cases e)
    have hM:Mod K mg (ZO s₁.heap H):=⟨hKb,nsK hns,⟨mb,nsK hb,hbb⟩,let ⟨mc,h1,h2⟩:=hlim;⟨mc,nsK h1,h2⟩⟩
    have e0:zam P w K mg (ZO s₁.heap H) callerA [] s₁ H:=⟨rfl,hM,fun b o e=>YR e,Nat.le_of_eq (Vv _ _),trivial,fun b hb=>absurd (show b ∈ ([]:List Addr) from hb) (by simp),hok,.of_eq hg⟩
    refine codeAny_mono ((F _ hKb (nsK hns)).run callerA [] s₁ H ⟨[.ref a],[]⟩ [.ref a] [.ref a] _ _ hr e0 (hbind s₁ (.ref a)) (.cons rfl .nil) (hsp H hO hS)) fun r s' h=>?_
    cases r with
    | error e=>exact (hCX H e s' h).elim
    | ok fl=>
      cases fl with
      | next=>exact False.elim h
      | brk=>exact False.elim h
      | cont=>exact False.elim h
      | ret u=>
        obtain ⟨v,H',os,bare,un,hok',r',q⟩:=h
        have q':v = .bl true:=q
        subst q'
        obtain rfl:u = Value.bool true:=r'
        refine ⟨rfl,OldK.of_keep fun b o e=>?_,os,bare⟩
        cases q:H b with
        | none=>exact un.keep b o e q (by intro z;exact absurd (show b ∈ ([]:List Addr) from z) (by simp)) (by simp)
        | some u=>
          rcases hO b with z | ⟨ob,xs,z⟩
          · rw [q] at z;cases z
          · have z2:=un.frzs b ob _ z
            obtain ⟨e1,_⟩:=hok b _ z
            obtain ⟨e2,_⟩:=hok' b _ z2
            rw [e] at e1;cases e1
            exact e2
  cases hk:K.lookup a with
  | some o=>
    have e:=KX a o hk
    rw [ha] at e
    cases e
    refine core (fun _=>none) (fun _=>.inl rfl) (.inr ⟨_,vs.toArray,_,hk,rfl,rfl,rfl,by rw [List.size_toArray,lenV];exact hl,by simpa using rv⟩) (fun b u z=>by have z':(none:Option HO) = some u:=z;cases z') (fun b z=>absurd rfl z) fun z=>absurd rfl z
  | none=>
    refine core (fun b=>if b = a then some (.frz { cls:=.type "list",data:=.seq vs.toArray } (.lst (ns.map V.int))) else none) (fun b=>?_) (.inl (.inr ⟨{ cls:=.type "list",data:=.seq vs.toArray },if_pos rfl⟩)) (fun b u z=>?_) (fun b z=>?_) fun _=>hk
    · by_cases hb:b = a
      · exact .inr ⟨_,_,if_pos hb⟩
      · exact .inl (if_neg hb)
    · by_cases hb:b = a
      · have z':=(if_pos hb).symm.trans z
        cases z'
        subst hb
        exact ⟨ha,by rw [List.length_map];exact hl,vs,_,rv,ha⟩
      · have z':=(if_neg hb).symm.trans z
        cases z'
    · by_cases hb:b = a
      · exact hb
      · exact absurd (if_neg hb) z
theorem walk_of {l:PySem.W.OpenLaw} {n k:Nat} {q:Program} {loose:List Str} {XP:(Str -> Option Value) -> Heap -> Prop} {YP:World -> Heap -> Prop} {d:DefRec} {K:Params -> PySem.W.Frag} {CX:World -> CXT} {sp:World -> Sp} {x:Str}
    (hn:l.most = some n) (hn2:n <= sizeLine) (hdf:d.params.defaults = []) (hr:Room k callerA)
    (hY:∀ (w:World) (h:Heap),YP w h -> (K w.params).In h)
    (F:∀ (w:World) (mg:Str -> Option Value) (fa:Addr) (h:Heap),(K w.params).In h -> h.Ns mainGlobals mg -> mg d.name = some (.ref fa) ->
      ∃ fd:FuncData,(∀ (s:Shared) (u:Value),BindsTo s fd ⟨[u],[]⟩ [(x,u)]) /\
        ∀ base:Heap,(K w.params).In base -> base.Ns mainGlobals mg -> qA l.prog w (K w.params) mg base (CX w) k fa fd [x] (sp w))
    (hsp:∀ (w:World) (H:Hp) (a:Addr) (ns:List Int),ns.length <= n -> zbK H -> SqL (K w.params) H a (ns.map V.int) -> sp w [.ref a] H (fun v _=>v = .bl true) fun _ _ _=>False)
    (hCX:∀ (w:World) (H:Hp) (s:Shared) (e:Value) (s':Shared),CX w [] H s (fun _ _ _=>False) e s' -> False) :
    PySem.W.WalkO q loose XP YP l.row.toRowW d [] (fun f vs=>PySem.call f vs):=by
  refine Att.attach_call hn hdf fun w s₀ s₁ mg mb fa o pm cd doc a vs ns G Y ho hd hcd hmg hobj hints hlen hg=>?_
  have KX:=hY w _ Y
  obtain ⟨fd,hb,hF⟩:=F w mg fa _ KX G.T.g hmg
  exact WU KX G.T.g G.T.b G.T.builtins G.T.nolimit hg hobj hints (Nat.le_trans hlen hn2) hr hF hb (fun H hO hS=>hsp w H a ns hlen hO hS) fun H e s'=>hCX w H s₁ e s'
def xp (s:Stmt):Arguments:=match s with
  | .FunctionDef _ a _ _ _ _ _ _ _ _=>a
  | _=>{ posonlyargs:=[],args:=[],vararg:=none,kwonlyargs:=[],kw_defaults:=[],kwarg:=none,defaults:=[] }
def jW (s:Stmt):List Stmt:=match s with
  | .FunctionDef _ _ b _ _ _ _ _ _ _=>b
  | _=>[]
def zt (s:Stmt):Scope:=match s with
  | .FunctionDef _ _ _ _ _ _ sc _ _ _=>sc
  | _=>{ kind:=.function,names:=[],isGenerator:=false,isCoroutine:=false }
abbrev CX0:CXT:=fun _ _ _ _ _ _=>False
abbrev E0:XK:=fun _ _ _=>False
theorem zci {X:Cx}:Ju CX0 X E0:=fun _ _ _ _ _ _ _ h=>h.elim
structure Fun (K:PySem.W.Frag) (x qual:Str) (st:Stmt) (f:Addr) (fd:FuncData):Prop where
  ex:∃ (oc:Value) (od:Option Addr) (kV doc pm:Value) (an:Option Addr) (cdv ct:Value) (osl:Array (Option Value)),
    fd = PySem.W.fnOf x qual (xp st) (jW st) (zt st) .none kV doc pm an cdv ct /\ K.lookup f = some ⟨oc,od,.func fd,osl⟩ /\ PySem.W.codeIn K cdv qual = true
  kp:PySem.W.keepIn K (.ref f) = true
section
variable {P:Program} {w:World} {K:PySem.W.Frag} {mg:Str -> Option Value} {base:Heap}
theorem Fun.ok {x qual:Str} {st:Stmt} {f:Addr} {fd:FuncData} {N ps:List Str} {k:Nat} {sp:Sp} (F:Fun K x qual st f fd) (S:zy N ps (zt st)) (len:∀ vs H Q E,sp vs H Q E -> vs.length = ps.length)
    (hbody:∀ (cdv:Value) (A:Around) (outer:List Env) (s:Shared) (H:Hp) (vs:List V) (Q:VK) (E:XK),Room k (A.deeper (envOfC qual (zt st) s.heap.objs.size f cdv)) -> sp vs H Q E ->
      ∃ t,PSs (VB CX0 P w K mg base N qual (zt st) f cdv A outer s H E).nox (jW st) t /\ t { nx:=fun _ H'=>Q .non H',rt:=Q } (wd N vs) H):qA P w K mg base CX0 (k + 1) f fd ps sp:=by
  obtain ⟨oc,od,kV,doc,pm,an,cdv,ct,osl,rfl,lk,hcd⟩:=F.ex
  refine zcE lk hcd S len fun A outer s H vs Q E hr hsp=>?_
  obtain ⟨t,h,q⟩:=hbody cdv A outer s H vs Q E hr hsp
  exact ⟨t,h.nox,q⟩
theorem Fun.binds {x qual:Str} {st:Stmt} {f:Addr} {fd:FuncData} {ps:List Str} (F:Fun K x qual st f fd)
    (h:∀ (kV doc pm:Value) (an:Option Addr) (cdv ct:Value) (us:List Value),us.length = ps.length -> bindArgs (PySem.W.fnOf x qual (xp st) (jW st) (zt st) .none kV doc pm an cdv ct) ⟨us,[]⟩ = pure (ps.zip us)):Binds K fd ps []:=by
  obtain ⟨oc,od,kV,doc,pm,an,cdv,ct,osl,rfl,lk,hcd⟩:=F.ex
  exact .all (h kV doc pm an cdv ct)
theorem WZ {x qual:Str} {st:Stmt} {f:Addr} {oc:Value} {od an:Option Addr} {osl:Array (Option Value)} {kV doc pm cdv ct:Value} (l:K.lookup f = some ⟨oc,od,.func (PySem.W.fnOf x qual (xp st) (jW st) (zt st) .none kV doc pm an cdv ct),osl⟩)
    (c:PySem.W.codeIn K cdv qual = true) (k:PySem.W.keepIn K (.ref f) = true):Fun K x qual st f (PySem.W.fnOf x qual (xp st) (jW st) (zt st) .none kV doc pm an cdv ct):=⟨⟨oc,od,kV,doc,pm,an,cdv,ct,osl,rfl,l,c⟩,k⟩
end
theorem wf {A:Around} {k:Nat} (hr:Room k A):A.units + 1 < cLine:=Nat.lt_of_le_of_lt (Nat.add_le_add_left (by decide:1 <= 64) _) hr.units
section
variable {X:Cx}
theorem pv (i:Nat) {x:Str} {pos:Pos} (hN:X.N[i]? = some x:=by rfl) (hv:Vis X.env.scope x:=by first | exact Or.inl rfl | exact Or.inr (Or.inl rfl) | exact Or.inr (Or.inr rfl)) (hd:(x == ("__debug__" : Str)) = false:=by decide)
    (hcd:(x == ("__classdict__" : Str)) = false:=by decide):PE X (.Name x pos) (zaM i):=zbc hN hv hd hcd
end
theorem qO {c A B:Prop} [Decidable c] (h1:c -> A) (h2:¬ c -> B):if c then A else B:=by
  by_cases h:c
  · rw [if_pos h]
    exact h1 h
  · rw [if_neg h]
    exact h2 h
def Same (H H':Hp):Prop:=∀ b o,H b = some o -> H' b = some o
theorem Same.refl (H:Hp):Same H H:=fun _ _ h=>h
theorem Same.trans {H H1 H2:Hp} (a:Same H H1) (b:Same H1 H2):Same H H2:=fun c o h=>b c o (a c o h)
theorem Same.free {H H':Hp} (e:Same H H') {l:Addr} (h:H' l = Option.none):H l = Option.none:=by
  cases q:H l with
  | none=>rfl
  | some o=>
    rw [e l o q] at h
    cases h
theorem Same.seq {K:PySem.W.Frag} {H H':Hp} {a:Addr} {xs:List V} (e:Same H H') (h:SqL K H a xs):SqL K H' a xs:=by
  rcases h with (h | ⟨o,h⟩) | h
  · exact .inl (.inl (e _ _ h))
  · exact .inl (.inr ⟨o,e _ _ h⟩)
  · exact .inr h
end L2
namespace L2
inductive Ex1 {α1:Sort _} (P:α1 -> Prop):Prop
  | mk (a1:α1) (h:P a1):Ex1 P
inductive Ex2 {α1:Sort _} {α2:Sort _} (P:α1 -> α2 -> Prop):Prop
  | mk (a1:α1) (a2:α2) (h:P a1 a2):Ex2 P
inductive Ex3 {α1:Sort _} {α2:Sort _} {α3:Sort _} (P:α1 -> α2 -> α3 -> Prop):Prop
  | mk (a1:α1) (a2:α2) (a3:α3) (h:P a1 a2 a3):Ex3 P
inductive Ex4 {α1:Sort _} {α2:Sort _} {α3:Sort _} {α4:Sort _} (P:α1 -> α2 -> α3 -> α4 -> Prop):Prop
  | mk (a1:α1) (a2:α2) (a3:α3) (a4:α4) (h:P a1 a2 a3 a4):Ex4 P
inductive Ex5 {α1:Sort _} {α2:Sort _} {α3:Sort _} {α4:Sort _} {α5:Sort _} (P:α1 -> α2 -> α3 -> α4 -> α5 -> Prop):Prop
  | mk (a1:α1) (a2:α2) (a3:α3) (a4:α4) (a5:α5) (h:P a1 a2 a3 a4 a5):Ex5 P
inductive Ex6 {α1:Sort _} {α2:Sort _} {α3:Sort _} {α4:Sort _} {α5:Sort _} {α6:Sort _} (P:α1 -> α2 -> α3 -> α4 -> α5 -> α6 -> Prop):Prop
  | mk (a1:α1) (a2:α2) (a3:α3) (a4:α4) (a5:α5) (a6:α6) (h:P a1 a2 a3 a4 a5 a6):Ex6 P
inductive Ex9 {α1:Sort _} {α2:Sort _} {α3:Sort _} {α4:Sort _} {α5:Sort _} {α6:Sort _} {α7:Sort _} {α8:Sort _} {α9:Sort _} (P:α1 -> α2 -> α3 -> α4 -> α5 -> α6 -> α7 -> α8 -> α9 -> Prop):Prop
  | mk (a1:α1) (a2:α2) (a3:α3) (a4:α4) (a5:α5) (a6:α6) (a7:α7) (a8:α8) (a9:α9) (h:P a1 a2 a3 a4 a5 a6 a7 a8 a9):Ex9 P
inductive zcO {α1:Sort _} {α2:Sort _} {α3:Sort _} {α4:Sort _} {α5:Sort _} {α6:Sort _} {α7:Sort _} {α8:Sort _} {α9:Sort _} {α10:Sort _} {α11:Sort _} (P:α1 -> α2 -> α3 -> α4 -> α5 -> α6 -> α7 -> α8 -> α9 -> α10 -> α11 -> Prop):Prop
  | mk (a1:α1) (a2:α2) (a3:α3) (a4:α4) (a5:α5) (a6:α6) (a7:α7) (a8:α8) (a9:α9) (a10:α10) (a11:α11) (h:P a1 a2 a3 a4 a5 a6 a7 a8 a9 a10 a11):zcO P
inductive An2 (A1 A2:Prop):Prop
  | mk (h1:A1) (h2:A2):An2 A1 A2
inductive An3 (A1 A2 A3:Prop):Prop
  | mk (h1:A1) (h2:A2) (h3:A3):An3 A1 A2 A3
inductive An4 (A1 A2 A3 A4:Prop):Prop
  | mk (h1:A1) (h2:A2) (h3:A3) (h4:A4):An4 A1 A2 A3 A4
inductive An5 (A1 A2 A3 A4 A5:Prop):Prop
  | mk (h1:A1) (h2:A2) (h3:A3) (h4:A4) (h5:A5):An5 A1 A2 A3 A4 A5
inductive An6 (A1 A2 A3 A4 A5 A6:Prop):Prop
  | mk (h1:A1) (h2:A2) (h3:A3) (h4:A4) (h5:A5) (h6:A6):An6 A1 A2 A3 A4 A5 A6
inductive An7 (A1 A2 A3 A4 A5 A6 A7:Prop):Prop
  | mk (h1:A1) (h2:A2) (h3:A3) (h4:A4) (h5:A5) (h6:A6) (h7:A7):An7 A1 A2 A3 A4 A5 A6 A7
inductive An8 (A1 A2 A3 A4 A5 A6 A7 A8:Prop):Prop
  | mk (h1:A1) (h2:A2) (h3:A3) (h4:A4) (h5:A5) (h6:A6) (h7:A7) (h8:A8):An8 A1 A2 A3 A4 A5 A6 A7 A8
inductive An9 (A1 A2 A3 A4 A5 A6 A7 A8 A9:Prop):Prop
  | mk (h1:A1) (h2:A2) (h3:A3) (h4:A4) (h5:A5) (h6:A6) (h7:A7) (h8:A8) (h9:A9):An9 A1 A2 A3 A4 A5 A6 A7 A8 A9
theorem y4 {α:Type _} {us:List α} (h:us.length = 1):∃ a0,us = [a0]:=
  match us,h with
  | [a0],_=>⟨a0,rfl⟩
theorem jh {α:Type _} {us:List α} (h:us.length = 2):∃ a0 a1,us = [a0,a1]:=
  match us,h with
  | [a0,a1],_=>⟨a0,a1,rfl⟩
theorem wZ {α:Type _} {us:List α} (h:us.length = 3):∃ a0 a1 a2,us = [a0,a1,a2]:=
  match us,h with
  | [a0,a1,a2],_=>⟨a0,a1,a2,rfl⟩
theorem zaC {α:Type _} {us:List α} (h:us.length = 4):∃ a0 a1 a2 a3,us = [a0,a1,a2,a3]:=
  match us,h with
  | [a0,a1,a2,a3],_=>⟨a0,a1,a2,a3,rfl⟩
end L2
set_option maxHeartbeats 4000000
namespace L2
open PySem PySem.Spec PyProof.Rows
def qw (cs:List (Str × Addr)):List (Str × NameKind) -> List (Str × Addr) -> List (Str × Addr)
  | [],acc=>acc
  | (n,k) :: r,acc=>qw cs r (if (k == NameKind.free) = true then (n,(cs.lookup n).getD 0) :: acc else acc)
theorem Yc {env:Env} (names:List (Str × NameKind)):∀ (acc:List (Str × Addr)),(∀ y ∈ names,y.2 = NameKind.free -> ∃ c,env.cells.lookup y.1 = some c) ->
    (forIn names acc fun (x:Str × NameKind) (cs:List (Str × Addr))=>
      (if (x.2 == NameKind.free) = true then (cellOf env x.1 >>= fun a=>(pure (ForInStep.yield ((x.1,a) :: cs)):Sem (ForInStep (List (Str × Addr))))) else pure (ForInStep.yield cs))) = (pure (qw env.cells names acc):Sem (List (Str × Addr))):=by
  induction names with
  | nil=>intro acc _;rfl
  | cons y r ih=>
    intro acc h
    obtain ⟨n,k⟩:=y
    rw [List.forIn_cons]
    by_cases hk:(k == NameKind.free) = true
    · obtain ⟨c,hc⟩:=h (n,k) List.mem_cons_self (by simpa using hk)
      have e1:cellOf env n = pure c:=by
        unfold cellOf
        rw [show env.cells.lookup n = some c from hc]
      simp only [hk,if_true,e1,pure_bind]
      rw [ih _ fun z hz=>h z (List.mem_cons_of_mem _ hz)]
      show _ = pure (qw env.cells r (if (k == NameKind.free) = true then (n,(env.cells.lookup n).getD 0) :: acc else acc))
      rw [if_pos hk,show env.cells.lookup n = some c from hc]
      all_goals rfl
    · simp only [hk,pure_bind]
      simp only [Bool.false_eq_true,if_false,pure_bind]
      rw [ih _ fun z hz=>h z (List.mem_cons_of_mem _ hz)]
      show _ = pure (qw env.cells r (if (k == NameKind.free) = true then (n,(env.cells.lookup n).getD 0) :: acc else acc))
      rw [if_neg hk]
theorem Xv {env:Env} {scope:Scope} (h:∀ y ∈ scope.names,y.2 = NameKind.free -> ∃ c,env.cells.lookup y.1 = some c):closureFor scope env = pure (qw env.cells scope.names []):=by
  have e:=Yc (env:=env) scope.names [] h
  unfold closureFor
  refine Eq.trans ?_ (Eq.trans (congrArg (fun m=>m >>= fun cs=>(pure cs:Sem (List (Str × Addr)))) e) ?_)
  · rfl
  · simp
theorem xr {cs:List (Str × Addr)} {x:Str}:∀ (names:List (Str × NameKind)) (acc:List (Str × Addr)),(qw cs names acc).lookup x = (if (names.any fun y=>y.2 == NameKind.free && x == y.1) = true then some ((cs.lookup x).getD 0) else acc.lookup x)
  | [],acc=>by simp [qw]
  | (n,k) :: r,acc=>by
    unfold qw
    rw [xr r]
    by_cases hr:(r.any fun y=>y.2 == NameKind.free && x == y.1) = true
    · rw [if_pos hr,if_pos (by rw [List.any_cons,hr,Bool.or_true])]
    · rw [if_neg hr]
      by_cases hk:(k == NameKind.free) = true
      · rw [if_pos hk]
        by_cases hx:(x == n) = true
        · rw [if_pos (by rw [List.any_cons];simp only [hk,hx,Bool.and_self,Bool.true_or])]
          have e:x = n:=by simpa using hx
          subst e
          simp [List.lookup_cons]
        · rw [if_neg (by rw [List.any_cons];simp only [hk,hx,Bool.and_false,Bool.false_or];exact hr)]
          have hx':(x == n) = false:=by simpa using hx
          simp [List.lookup_cons,hx']
      · rw [if_neg hk,if_neg (by rw [List.any_cons];simp only [hk,Bool.false_and,Bool.false_or];exact hr)]
abbrev zF (X:Cx) (N':List Str) (scope:Scope) (C:Addr) (s:Shared) (H:Hp) (ex:List Addr):Cx where
  prog:=X.prog
  w:=X.w
  K:=X.K
  mg:=X.mg
  base:=X.base
  A:=X.A
  N:=N'
  s₀:=s
  H₀:=H
  env:=compEnvC scope (qw X.env.cells scope.names []) C X.env
  outer:=X.stack
  stack:=X.stack
  ex:=ex
  fn:=fun _=>false
  calm:=X.calm
  pn:=[]
  xe:=fun _ _=>False
abbrev jT (ifs:List Expr) (env:Env):Sem Bool:=
  forIn ifs true fun (c:Expr) (r:Bool)=>if r = true then (isTrue c env (eval c env) >>= fun ok=>(pure (ForInStep.yield ok):Sem (ForInStep Bool))) else pure (ForInStep.yield r)
theorem QT {prog:Program} {w:World} {A:Around} {R:Result -> Shared -> Prop} {s:Shared} {elt tg iter:Expr} {ifs:List Expr} {scope:Scope} {pos:Pos} {it acc:Value} {env:Env} (J:Nat -> Shared -> Prop)
    (turn:∀ n s,J n s -> wpAny (model prog w) A (pyNext it) (fun r s1=>match r with
      | none=>R (.ok .next) s1
      | some v=>wpAny (model prog w) A (letOwnedTupleGo tg it v) (fun _ s2=>wpAny (model prog w) A (assign tg env v) (fun _ s3=>
          wpAny (model prog w) A (jT ifs env) (fun ok s4=>
            if ok = true then wpAny (model prog w) A (eval elt env) (fun x s5=>
              wpAny (model prog w) A (call (.builtin "list.append") [acc,x]) (fun _ s6=>∃ m,m < n /\ J m s6) (fun _ _=>False) s5) (fun _ _=>False) s4
            else ∃ m,m < n /\ J m s4) (fun _ _=>False) s3) (fun _ _=>False) s2) (fun _ _=>False) s1) (fun _ _=>False) s)
    (n:Nat) (h:J n s):codeAny (model prog w) A (.compLoop (.ListComp elt [⟨tg,iter,ifs,0⟩] scope pos) 0 it acc env) R s:=by
  have no:∀ {α:Type} {t:Sem α} {Q:α -> Shared -> Prop} {E:Value -> Shared -> Prop} {s:Shared},wpAny (model prog w) A t Q (fun _ _=>False) s -> wpAny (model prog w) A t Q E s:=fun x=>wpAny_mono x (fun _ _ q=>q) fun _ _ q=>q.elim
  refine codeAny_loop rfl J (fun k u hJ=>?_) n h
  show wpAny _ A ((compTurn (.ListComp elt [⟨tg,iter,ifs,0⟩] scope pos) 0 it acc env).onRaise (fun x=>do noteFrame x env;theTreesLotGoes x)) _ _ u
  refine wpAny_noted ?_
  rw [compTurn_list]
  refine wpAny_bind (wpAny_standAt (wpAny_bind (no (wpAny_mono (turn k u hJ) (fun r s1 h1=>?_) fun _ _ q=>q))))
  cases r with
  | none=>exact wpAny_pure h1
  | some v=>
    refine wpAny_bind (no (wpAny_mono h1 (fun _ s2 h2=>wpAny_bind (no (wpAny_mono h2 (fun _ s3 h3=>wpAny_bind (no (wpAny_mono h3 (fun ok s4 h4=>?_) fun _ _ q=>q))) fun _ _ q=>q))) fun _ _ q=>q))
    cases ok with
    | false=>exact wpAny_pure ⟨rfl,h4⟩
    | true=>
      have h4':wpAny (model prog w) A (eval elt env) (fun x s5=>wpAny (model prog w) A (call (.builtin "list.append") [acc,x]) (fun _ s6=>∃ m,m < k /\ J m s6) (fun _ _=>False) s5) (fun _ _=>False) s4:=h4
      refine wpAny_bind (wpAny_bind (no (wpAny_mono h4' (fun x s5 h5=>wpAny_bind (no (wpAny_mono h5 (fun _ s6 h6=>wpAny_pure (wpAny_pure ⟨rfl,h6⟩)) fun _ _ q=>q))) fun _ _ q=>q)))
def PF (X:Cx) (ifs:List Expr) (t:TT):Prop:=
  ∀ (pins:List (Addr × Obj)) (s:Shared) (σ:St) (H:Hp) (Q:Bool -> Hp -> Prop),Inv X pins σ H s -> t σ H Q -> wpAny (model X.prog X.w) X.A (jT ifs X.env) (TP X pins σ Q) X.xe s
def zcF:TT:=fun _ H Q=>Q true H
theorem qR {X:Cx}:PF X [] zcF:=fun pins s σ H Q I h=>wpAny_pure ⟨H,I,h⟩
theorem qI {X:Cx} {c:Expr} {t:TT} (hc:PT X c t):PF X [c] t:=by
  intro pins s σ H Q I h
  unfold jT
  simp only [List.forIn_cons,List.forIn_nil,if_true]
  refine wpAny_bind (wpAny_bind (thn (hc pins s σ H Q I h) fun ok s1 q=>wpAny_pure (wpAny_pure q)))
theorem Xi {P:Program} {w:World} {H:Hp} {h h':Heap} {C:Addr} (x:HOk P w H h) (hn:H C = none) (k:∀ b o,b ≠ C -> h.get? b = some o -> h'.get? b = some o):HOk P w H h':=fun b u e=>by
  refine (x b u e).stay (fun c v hc q=>k c v ?_ q) (fun _ q=>q) fun _ _ q=>q
  rcases hc with z | z
  · rw [z];exact zf e hn
  · exact zf z hn
theorem y8 {P:Program} {w:World} {H:Hp} {h:Heap} {a:Addr} {o:HO} (x:HOk P w H h) (hn:H a = none) (new:ObjOk P w (upd H a o) h a o):HOk P w (upd H a o) h:=fun b u e=>by
  by_cases hb:b = a
  · subst hb;rw [zb] at e;cases e;exact new
  · rw [zi hb] at e
    exact (x b u e).stay (fun c v _ q=>q) (fun c q=>by rw [zi (zf q hn)];exact q) fun c xs q=>by rw [zi (zf q hn)];exact q
theorem Z2 {fs ex:List Addr} {H H':Hp} {h h':Heap} {a:Addr} {o:HO} (u:Un fs ex H H' h h') (ha:a ∈ ex) (hn:H a = none):Un fs ex H (upd H' a o) h h' where
  keep:=u.keep
  slot:=u.slot
  free:=fun b ob q n hx=>by
    have hb:b ≠ a:=fun z=>hx (by rw [z];exact ha)
    rw [zi hb];exact u.free b ob q n hx
  there:=u.there
  tups:=fun b xs q=>by rw [zi (zf q hn)];exact u.tups b xs q
  frzs:=fun b ob v q=>by rw [zi (zf q hn)];exact u.frzs b ob v q
  tbls:=fun b ps q=>by rw [zi (zf q hn)];exact u.tbls b ps q
theorem VN {fs ex:List Addr} {H H':Hp} {h h1 h2:Heap} {C:Addr} (u:Un fs ex H H' h h1) (hC:h.objs.size <= C) (k:∀ b o,b ≠ C -> h1.get? b = some o -> h2.get? b = some o):Un fs ex H H' h h2 where
  keep:=fun b o q n hb hx=>k b o (Nat.ne_of_lt (Nat.lt_of_lt_of_le (Heap.lt_size q) hC)) (u.keep b o q n hb hx)
  slot:=fun b o q n hb hx=>let ⟨sl,e⟩:=u.slot b o q n hb hx;⟨sl,k b _ (Nat.ne_of_lt (Nat.lt_of_lt_of_le (Heap.lt_size q) hC)) e⟩
  free:=u.free
  there:=fun b o q hx=>let ⟨o',e⟩:=u.there b o q hx;⟨o',k b _ (Nat.ne_of_lt (Nat.lt_of_lt_of_le (Heap.lt_size q) hC)) e⟩
  tups:=u.tups
  frzs:=u.frzs
  tbls:=u.tbls
def wm (sn on:List (Str × NameKind)) (N fr:List Str) (js:List Nat):Bool:=
  sn.all (fun y=>y.2 != .cell && (y.2 != .local || sn.lookup y.1 == some .local) && (y.2 != .free || (on.lookup y.1 == some .cell || on.lookup y.1 == some .free))) && fr.length == js.length
    && (fr.zip js).all fun p=>sn.lookup p.1 == some .free && N[p.2]? == some p.1
structure zaI (sn on:List (Str × NameKind)) (N fr:List Str) (js:List Nat):Prop where
  cell:∀ y ∈ sn,y.2 ≠ NameKind.cell
  loc:∀ y ∈ sn,y.2 = NameKind.local -> sn.lookup y.1 = some .local
  free:∀ y ∈ sn,y.2 = NameKind.free -> on.lookup y.1 = some .cell \/ on.lookup y.1 = some .free
  len:fr.length = js.length
  fr:∀ (k:Nat) (x:Str),fr[k]? = some x -> sn.lookup x = some .free /\ ∃ j:Nat,js[k]? = some j /\ N[j]? = some x
theorem Yf {sn on:List (Str × NameKind)} {N fr:List Str} {js:List Nat} (h:wm sn on N fr js = true):zaI sn on N fr js:=by
  unfold wm at h
  rw [Bool.and_eq_true,Bool.and_eq_true,List.all_eq_true,List.all_eq_true] at h
  obtain ⟨⟨h1,h2⟩,h3⟩:=h
  have h2':fr.length = js.length:=by simpa using h2
  refine ⟨fun y hy=>?_,fun y hy e=>?_,fun y hy e=>?_,h2',fun k x e=>?_⟩
  · have:=h1 y hy
    simp only [Bool.and_eq_true,bne_iff_ne] at this
    exact this.1.1
  · have:=h1 y hy
    simp only [Bool.and_eq_true,Bool.or_eq_true,bne_iff_ne,beq_iff_eq] at this
    exact this.1.2.resolve_left fun z=>z e
  · have:=h1 y hy
    simp only [Bool.and_eq_true,Bool.or_eq_true,bne_iff_ne,beq_iff_eq] at this
    exact this.2.resolve_left fun z=>z e
  · have hk:k < fr.length:=(List.getElem?_eq_some_iff.mp e).1
    have hj:k < js.length:=by omega
    have hm:(x,js[k]) ∈ fr.zip js:=by
      refine List.mem_of_getElem? (i:=k) ?_
      rw [List.getElem?_zip_eq_some]
      exact ⟨e,by simp [hj]⟩
    have:=h3 _ hm
    simp only [Bool.and_eq_true,beq_iff_eq] at this
    exact ⟨this.1,js[k],by simp [hj],this.2⟩
def upS (n:Nat) (js:List Nat) (σ:St):St:=List.replicate n none ++ js.map fun j=>(σ[j]?).join
def tLC (wi:TI) (n:Nat) (js:List Nat) (g:TG) (tf:TT) (te:TE):TE:=fun σ H Q=>wi σ H fun J H1=>
  ∃ W:Nat -> Nat -> List V -> Hp -> Prop,(∃ m,W 0 m [] H1) /\ ∀ i m ys H2,W i m ys H2 ->
    (J.stop i H2 /\ ys.length <= sizeLine /\ ∀ D,H2 D = none -> Q (.ref D) (upd H2 D (.lst ys))) \/
    (J.go i H2 /\ ∃ N:List V -> Hp -> Prop,(∀ zs H',N zs H' -> ∃ m',m' < m /\ W (i + 1) m' zs H') /\ ∀ x H3,J.yld i H2 x H3 -> g x (upS n js σ) H3 fun σ4 H4=>σ4.drop n = (upS n js σ).drop n /\ tf σ4 H4 fun b H5=>
      if b = true then te σ4 H5 fun y H6=>ys.length < sizeLine /\ N (ys ++ [y]) H6 else N ys H5)
theorem xA {env:Env} {x:Str} {k':NameKind}:∀ {names:List (Str × NameKind)},(names.map fun (n,k)=>if (k == NameKind.free && env.scope.kind == .function && env.kindOf n == some .cell) then (n,NameKind.cell) else (n,k)).lookup x = some k' ->
    ∃ k,names.lookup x = some k /\ (k' = k \/ (k = .free /\ k' = .cell))
  | [],h=>by simp at h
  | (n,k) :: r,h=>by
    by_cases hx:(x == n) = true
    · refine ⟨k,by simp [List.lookup_cons,hx],?_⟩
      have h:List.lookup x ((if (k == NameKind.free && env.scope.kind == .function && env.kindOf n == some .cell) = true then (n,NameKind.cell) else (n,k)) :: _) = some k':=h
      by_cases hc:(k == NameKind.free && env.scope.kind == .function && env.kindOf n == some .cell) = true
      · rw [if_pos hc,List.lookup_cons,hx] at h
        simp only [Bool.and_eq_true,beq_iff_eq] at hc
        exact .inr ⟨hc.1.1,(Option.some.inj h).symm⟩
      · rw [if_neg hc,List.lookup_cons,hx] at h
        exact .inl (Option.some.inj h).symm
    · have hx':(x == n) = false:=by simpa using hx
      have h:List.lookup x ((if (k == NameKind.free && env.scope.kind == .function && env.kindOf n == some .cell) = true then (n,NameKind.cell) else (n,k)) :: _) = some k':=h
      have h2:(r.map fun (n,k)=>if (k == NameKind.free && env.scope.kind == .function && env.kindOf n == some .cell) then (n,NameKind.cell) else (n,k)).lookup x = some k':=by
        by_cases hc:(k == NameKind.free && env.scope.kind == .function && env.kindOf n == some .cell) = true
        · rw [if_pos hc,List.lookup_cons,hx'] at h;exact h
        · rw [if_neg hc,List.lookup_cons,hx'] at h;exact h
      obtain ⟨k0,e,z⟩:=xA h2
      exact ⟨k0,by rw [List.lookup_cons,hx'];exact e,z⟩
theorem x9 {env:Env} {x:Str}:∀ {names:List (Str × NameKind)},names.lookup x = some .free -> ∃ k',(names.map fun (n,k)=>if (k == NameKind.free && env.scope.kind == .function && env.kindOf n == some .cell) then (n,NameKind.cell) else (n,k)).lookup x = some k' /\ (k' = .cell \/ k' = .free)
  | [],h=>by simp at h
  | (n,k) :: r,h=>by
    by_cases hx:(x == n) = true
    · rw [List.lookup_cons,hx] at h
      cases (Option.some.inj h)
      show ∃ k',List.lookup x ((if (NameKind.free == NameKind.free && env.scope.kind == .function && env.kindOf n == some .cell) = true then (n,NameKind.cell) else (n,NameKind.free)) :: _) = some k' /\ _
      by_cases hc:(NameKind.free == NameKind.free && env.scope.kind == .function && env.kindOf n == some .cell) = true
      · rw [if_pos hc];exact ⟨.cell,by simp [List.lookup_cons,hx],.inl rfl⟩
      · rw [if_neg hc];exact ⟨.free,by simp [List.lookup_cons,hx],.inr rfl⟩
    · have hx':(x == n) = false:=by simpa using hx
      rw [List.lookup_cons,hx'] at h
      obtain ⟨k',e,z⟩:=x9 (env:=env) (names:=r) h
      refine ⟨k',?_,z⟩
      show List.lookup x ((if (k == NameKind.free && env.scope.kind == .function && env.kindOf n == some .cell) = true then (n,NameKind.cell) else (n,k)) :: _) = some k'
      by_cases hc:(k == NameKind.free && env.scope.kind == .function && env.kindOf n == some .cell) = true
      · rw [if_pos hc,List.lookup_cons,hx'];exact e
      · rw [if_neg hc,List.lookup_cons,hx'];exact e
theorem zT {cs:List (Str × Addr)} {names:List (Str × NameKind)} {x:Str} {c:Addr} (h:(qw cs names []).lookup x = some c) (hf:∀ y ∈ names,y.2 = NameKind.free -> ∃ c,cs.lookup y.1 = some c):cs.lookup x = some c:=by
  rw [xr] at h
  by_cases hr:(names.any fun y=>y.2 == NameKind.free && x == y.1) = true
  · rw [if_pos hr] at h
    obtain ⟨y,hy,e⟩:=List.any_eq_true.mp hr
    simp only [Bool.and_eq_true,beq_iff_eq] at e
    obtain ⟨c',e'⟩:=hf y hy e.1
    rw [<- e.2] at e'
    rw [e'] at h ⊢
    exact h
  · rw [if_neg hr] at h
    cases h
theorem xU {cs:List (Str × Addr)} {names:List (Str × NameKind)} {x:Str} (h:names.lookup x = some .free):(qw cs names []).lookup x = some ((cs.lookup x).getD 0):=by
  rw [xr,if_pos]
  exact List.any_eq_true.mpr ⟨(x,.free),PySem.mem_of_lookup h,by simp⟩
theorem vg {n:Nat} {js:List Nat} {σ:St} {i:Nat} {v:V} (h:(upS n js σ)[i]? = some (some v)):n <= i /\ ((upS n js σ).drop n)[i - n]? = some (some v) /\ ∃ j:Nat,js[i - n]? = some j /\ σ[j]? = some (some v):=by
  unfold upS at h ⊢
  by_cases hi:i < n
  · rw [List.getElem?_append_left (by simpa using hi),List.getElem?_replicate] at h
    split at h <;> cases h
  · have e:(List.replicate n (none:Option V) ++ js.map fun j=>(σ[j]?).join).drop n = js.map fun j=>(σ[j]?).join:=by
      rw [List.drop_append_of_le_length (by simp)];simp
    rw [List.getElem?_append_right (by simpa using hi),List.length_replicate] at h
    refine ⟨by omega,by rw [e];exact h,?_⟩
    rw [List.getElem?_map] at h
    cases ej:js[i - n]? with
    | none=>rw [ej] at h;cases h
    | some j=>
      rw [ej] at h
      have h:(σ[j]?).join = some v:=Option.some.inj h
      refine ⟨j,rfl,?_⟩
      cases eo:σ[j]? with
      | none=>rw [eo] at h;cases h
      | some o=>rw [eo] at h;exact congrArg some h
theorem Jy {n:Nat} {js:List Nat} {σ:St}:(upS n js σ).length = n + js.length:=by unfold upS;simp
section
variable {X:Cx} {elt tg iter:Expr} {ifs:List Expr} {scope:Scope} {pos:Pos} {wi:TI} {g:TG} {tf:TT} {te:TE}
theorem VE {pins:List (Addr × Obj)} {σ:St} {H:Hp} {s:Shared} {fp:List Addr} (own fr:List Str) (js:List Nat) (I:Inv X pins σ H s) (B:zaI scope.names X.env.scope.names X.N fr js) (hk:scope.kind = .function)
    (f2:∀ b ∈ fp,jk X pins H b) (fl:∀ b ∈ fp,b < s.heap.objs.size) {D C:Addr} (hD:D = s.heap.objs.size) {h3 h1:Heap} (e3:h3 = s.heap.push { cls:=.type "list",dict:=none,data:=.seq ([]:List Value).toArray }) (hC:C = h3.objs.size)
    {m:Str -> Option Value} (hns:h1.Ns C m) (k4:∀ b o,h3.get? b = some o -> h1.get? b = some o) {t4:Nat} :
    Inv (zF X (own ++ fr) scope C { s with heap:=h3 } H (D :: fp)) [] (upS own.length js σ) H { s with heap:=h1,toks:=t4 }:=by
  have k3:∀ b o,s.heap.get? b = some o -> h3.get? b = some o:=fun b o e=>by rw [e3];exact Heap.get?_push_of_some _ e
  have I3:Inv X pins σ H { s with heap:=h3 }:=I.kept (t':=s.toks) k3
  have hz:h3.objs.size = s.heap.objs.size + 1:=by rw [e3,Heap.size_push]
  have hasF:∀ y ∈ scope.names,y.2 = NameKind.free -> ∃ c,X.env.cells.lookup y.1 = some c:=fun y hy e=>I.ok.has y.1 (B.free y hy e)
  have cellLt:∀ x c,X.env.cells.lookup x = some c -> c < s.heap.objs.size:=fun x c e=>by
    obtain ⟨v,q⟩:=I.cell x c e
    exact q.lt
  refine ⟨⟨I.ok.mod,hk,I.ok.glob,I.ok.blt,Nat.le_of_eq hC.symm,fun x y c e1 e2=>?_,fun x hx=>?_,fun x c hf=>(nomatch hf),fun hc=>I.ok.hd hc,I.ok.frames,.inl rfl,fun b hb=>?_,I3.bs,Nat.le_trans I.ok.bsz I3.sz,fun b o e hb=>?_,fun b hb hf=>?_,I3.stack,I3.stkFree⟩,
    rfl,I.bare,Un.kept k4,⟨m,hns,fun i x v e1 e2 e3'=>?_⟩,fun x c e=>?_,?_,fun x c e=>?_,fun p hp=>absurd (show p ∈ ([]:List (Addr × Obj)) from hp) (by simp),I3.hok.kept k4,?_⟩
  · exact I.ok.inj x y c (zT e1 hasF) (zT e2 hasF)
  · obtain ⟨k,e,z⟩:∃ k,scope.names.lookup x = some k /\ (k = .free):=by
      rcases hx with hx | hx
      · obtain ⟨k,e,z⟩:=xA hx
        rcases z with z | z
        · subst z;exact absurd rfl (B.cell _ (PySem.mem_of_lookup e))
        · exact ⟨k,e,z.1⟩
      · obtain ⟨k,e,z⟩:=xA hx
        rcases z with z | z
        · subst z;exact ⟨_,e,rfl⟩
        · exact ⟨k,e,z.1⟩
    subst z
    exact ⟨_,xU e⟩
  · rcases List.mem_cons.mp hb with z | hb
    · subst z
      refine ⟨by rw [hD,hC,hz];exact Nat.ne_of_lt (Nat.lt_succ_self _),fun x c e=>?_⟩
      have:=cellLt x c (zT e hasF)
      rw [hD];exact Nat.ne_of_lt this
    · refine ⟨by rw [hC,hz];exact Nat.ne_of_lt (Nat.lt_succ_of_lt (fl b hb)),fun x c e=>?_⟩
      exact (f2 b hb).2.2.2.2.1 x c (zT e hasF)
  · rcases List.mem_cons.mp hb with z | hb
    · have:=Heap.lt_size (I.bk b o e)
      rw [z,hD] at this
      exact Nat.lt_irrefl _ this
    · rcases (f2 b hb).2.2.2.1 with z | z
      · exact I.ok.noex b o e z
      · exact absurd (Nat.lt_of_lt_of_le (Heap.lt_size (I.ok.bs b o e).1) z) (Nat.lt_irrefl _)
  · have hf':=List.mem_cons.mp (I.stkSub b hf)
    rcases List.mem_cons.mp hb with z | hb
    · rcases hf' with y | y
      · have:=I.lt
        rw [<- y,z,hD] at this
        exact Nat.lt_irrefl _ this
      · exact I.nofs (a:=b) (by rw [z,hD];exact Nat.le_refl _) y
    · rcases hf' with y | y
      · exact (f2 b hb).2.1 y
      · exact (f2 b hb).2.2.1 y
  · obtain ⟨hn,_,j,ej,es⟩:=vg e2
    have ex:fr[i - own.length]? = some x:=by rw [List.getElem?_append_right hn] at e1;exact e1
    obtain ⟨hfx,j',ej',eN⟩:=B.fr _ x ex
    have:j' = j:=by rw [ej] at ej';exact (Option.some.inj ej').symm
    subst this
    have hkx:=B.free _ (PySem.mem_of_lookup hfx) rfl
    obtain ⟨m0,_,hl⟩:=I.loc
    obtain ⟨u,r,l⟩:=hl j' x v eN es (by rcases hkx with z | z;exact .inr (.inl z);exact .inr (.inr z))
    refine ⟨u,r,.inr ?_⟩
    rcases l with ⟨kl,_⟩ | ⟨_,c,ec,o,eo,ed⟩
    · have kl':X.env.scope.names.lookup x = some .local:=kl
      rcases hkx with z | z
      · exact absurd (z.symm.trans kl') (by decide)
      · exact absurd (z.symm.trans kl') (by decide)
    · obtain ⟨k',e',z⟩:=x9 (env:=X.env) hfx
      have eq:(qw X.env.cells scope.names []).lookup x = some c:=by rw [xU hfx,ec];rfl
      refine ⟨?_,c,eq,o,k4 c o (k3 c o eo),ed⟩
      rcases z with z | z
      · subst z;exact .inl e'
      · subst z;exact .inr e'
  · obtain ⟨v,o,eo,ed⟩:=I.cell x c (zT e hasF)
    exact ⟨v,o,k4 c o (k3 c o eo),ed⟩
  · exact I3.hok.fresh (Nat.le_of_eq hC.symm)
  · exact I.freeC x c (zT e hasF)
  · rw [Jy,<- B.len]
    show _ = (own ++ fr).length
    rw [List.length_append]
inductive LcJ (Y:Cx) (D:Addr) (tn:Nat -> Heap -> Prop) (fp:List Addr) (pins:List (Addr × Obj)) (σ:St) (W:Nat -> Nat -> List V -> Hp -> Prop) (n:Nat) (s:Shared):Prop
  | mk (i:Nat) (ys:List V) (its:List Value) (H':Hp) (z:Nat) (_:Inv Y pins σ H' s) (_:tn i s.heap) (_:∀ b ∈ fp,H' b = none) (_:H' D = none) (_:s.heap.get? D = some { cls:=.type "list",data:=.seq its.toArray z }) (_:Vals ys its) (_:W i n ys H'):LcJ Y D tn fp pins σ W n s
inductive LcE (Y:Cx) (D:Addr) (pins:List (Addr × Obj)) (σ:St) (N:List V -> Hp -> Prop) (s:Shared):Prop
  | mk (ys:List V) (its:List Value) (H':Hp) (z:Nat) (_:Inv Y pins σ H' s) (_:H' D = none) (_:s.heap.get? D = some { cls:=.type "list",data:=.seq its.toArray z }) (_:Vals ys its) (_:N ys H'):LcE Y D pins σ N s
theorem J9 {Y:Cx} {D it:Addr} {fp:List Addr} {tn:Nat -> Heap -> Prop} {J:It} {pins:List (Addr × Obj)} {σ4:St} {Kp:St -> Prop} {W:Nat -> Nat -> List V -> Hp -> Prop} {N:List V -> Hp -> Prop} {n:Nat} {s5:Shared}
    (hc:Y.calm = true) (hx:Y.xe = fun _ _=>False) (hg:PG Y tg g) (hf:PF Y ifs tf) (he:PE Y elt te) (T:vf Y.prog Y.w Y.K tg J fp it tn)
    (fD:∀ H':Hp,H' D = none -> jk Y pins H' D) (f2:∀ b ∈ fp,∀ H':Hp,H' b = none -> jk Y pins H' b) (nD:∀ b ∈ fp,D ≠ b) (bk:∀ σ9 H' s',Inv Y pins σ9 H' s' -> Kp σ9 -> Inv Y pins σ4 H' s')
    (turn:∀ i m zs H7,W i m zs H7 -> (J.stop i H7 /\ N zs H7) \/ (J.go i H7 /\ ∃ N2:List V -> Hp -> Prop,(∀ zs H',N2 zs H' -> ∃ m',m' < m /\ W (i + 1) m' zs H') /\ ∀ x H8,J.yld i H7 x H8 -> g x σ4 H8 fun σ9 H9=>Kp σ9 /\ tf σ9 H9 fun b H10=>
        if b = true then te σ9 H10 fun y H11=>zs.length < sizeLine /\ N2 (zs ++ [y]) H11 else N2 zs H10)) (j:LcJ Y D tn fp pins σ4 W n s5) :
    wpAny (model Y.prog Y.w) Y.A (pyNext (.ref it)) (fun r s1=>match r with
      | none=>LcE Y D pins σ4 N s1
      | some v=>wpAny (model Y.prog Y.w) Y.A (letOwnedTupleGo tg (.ref it) v) (fun _ s2=>wpAny (model Y.prog Y.w) Y.A (assign tg Y.env v) (fun _ s3=>
          wpAny (model Y.prog Y.w) Y.A (jT ifs Y.env) (fun ok s4=>
            if ok = true then wpAny (model Y.prog Y.w) Y.A (eval elt Y.env) (fun x s5=>
              wpAny (model Y.prog Y.w) Y.A (call (.builtin "list.append") [.ref D,x]) (fun _ s6=>∃ m,m < n /\ LcJ Y D tn fp pins σ4 W m s6) (fun _ _=>False) s5) (fun _ _=>False) s4
            else ∃ m,m < n /\ LcJ Y D tn fp pins σ4 W m s4) (fun _ _=>False) s3) (fun _ _=>False) s2) (fun _ _=>False) s1) (fun _ _=>False) s5:=by
  unfold PG at hg;unfold PF at hf;unfold PE at he
  rw [hx] at hg hf he
  obtain ⟨i,ys,its,H5,z5,I5,st5,fr5,hD5,ho5,rv5,w5⟩:=j
  have I5':=I5.pinned (fp:=[D]) (fun b hb=>by rw [List.mem_singleton.mp hb];exact fD _ hD5) (fun b hb=>by rw [List.mem_singleton.mp hb];exact ⟨_,ho5,fun v q=>nomatch q⟩)
  have mD:(D,({ cls:=.type "list",data:=.seq its.toArray z5 }:Obj)) ∈ pins ++ zR [D] s5.heap:=List.mem_append_right _ (qy (List.mem_singleton.mpr rfl) ho5)
  have fp5:∀ {H':Hp},(∀ b ∈ fp,H' b = none) -> ∀ b ∈ fp,jk Y (pins ++ zR [D] s5.heap) H' b:=fun hn b hb=>by
    obtain ⟨a1,a2,a3,a4,a5,a6⟩:=f2 b hb _ (hn b hb)
    refine ⟨a1,a2,a3,a4,a5,fun p hp=>?_⟩
    rcases List.mem_append.mp hp with q | q
    · exact a6 p (List.mem_append_left _ q)
    · rcases List.mem_append.mp q with q | q
      · exact a6 p (List.mem_append_right _ q)
      · rw [List.mem_singleton.mp (j9 q).1];exact nD b hb
  rcases turn i n ys H5 w5 with ⟨stop,q⟩ | ⟨go,N2,hN,step⟩
  · refine thn (T.done Y rfl rfl rfl hc i _ s5 _ H5 _ I5' (fp5 fr5) st5 stop) fun r s6 ⟨hr,I6⟩=>?_
    subst hr
    obtain ⟨o6,nD6,_⟩:=I6.pin (D,_) (List.mem_append_right _ mD)
    exact ⟨ys,its,H5,z5,I6.unpinned,nD6,o6,rv5,q⟩
  · refine thn (T.item Y rfl rfl rfl hc i _ s5 _ H5 _ I5' (fp5 fr5) st5 go) fun r s6 ⟨u,hr,h6⟩=>?_
    subst hr
    refine thn h6 fun _ s7 ⟨x,H7,I7,r7,y7,st7,fr7⟩=>?_
    refine thn (hg _ s7 _ H7 x u _ (I7.pinned (fp5 fr7) (T.obj _ _ st7)) r7 (step x H7 y7)) fun _ s8 ⟨σ8,H8,I8,hd8,q8⟩=>?_
    refine thn (hf _ s8 σ8 H8 _ I8 q8) fun ok s9 ⟨H9,I9,q9⟩=>?_
    have mD':=List.mem_append_right Y.pn (List.mem_append_left (zR fp s7.heap) mD)
    have mF:∀ b ∈ fp,∀ o,s7.heap.get? b = some o -> (b,o) ∈ Y.pn ++ ((pins ++ zR [D] s5.heap) ++ zR fp s7.heap):=fun b hb o e=>List.mem_append_right _ (List.mem_append_right _ (qy hb e))
    generalize hP:(pins ++ zR [D] s5.heap) ++ zR fp s7.heap = P at I9 mD' mF he
    have weak:∀ {H':Hp} {s':Shared},Inv Y P σ8 H' s' -> Inv Y pins σ4 H' s':=fun {H' s'} J=>by subst hP;exact bk _ _ _ (J.unpinned).unpinned hd8
    have frB:∀ {H':Hp} {s':Shared},Inv Y P σ8 H' s' -> ∀ b ∈ fp,H' b = none:=fun {H' s'} J b hb=>by
      obtain ⟨o,e,_⟩:=T.obj _ _ st7 b hb
      exact (J.pin (b,o) (mF b hb o e)).2.1
    cases ok with
    | false=>
      obtain ⟨m',hm,w'⟩:=hN _ _ (show N2 ys H9 by simpa using q9)
      obtain ⟨o9,nD9,_⟩:=I9.pin (D,_) mD'
      exact ⟨m',hm,i + 1,ys,its,H9,z5,weak I9,T.keep _ _ _ st7 fun b hb o e=>(I9.pin (b,o) (mF b hb o e)).1,frB I9,nD9,o9,rv5,w'⟩
    | true=>
      refine thn (he _ s9 σ8 H9 (fun y H6=>ys.length < sizeLine /\ N2 (ys ++ [y]) H6) I9 (by simpa using q9)) fun yv s10 ⟨y,H10,I10,r10,hlt,w10⟩=>?_
      obtain ⟨m',hm,w'⟩:=hN _ _ w10
      obtain ⟨o10,nD10,_⟩:=I10.pin (D,_) mD'
      refine wpAny_list_append_plain (l:=D) (items:=its.toArray) (hsz:=by rw [List.size_toArray,<- rv5.length];exact Nat.le_of_lt hlt) ⟨_,o10⟩ fun h11 hl11 hs11=>?_
      obtain ⟨z11,e11⟩:=hl11
      obtain ⟨d0,d1,d2,d3,d4,d5⟩:=fD _ nD10
      refine ⟨m',hm,i + 1,ys ++ [y],its ++ [yv],H10,z11,?_,T.keep _ _ _ st7 fun b hb o e=>hs11.extBut b o (Ne.symm (nD b hb)) (I10.pin (b,o) (mF b hb o e)).1,frB I10,nD10,?_,rv5.append (.cons r10 .nil),w'⟩
      · exact (weak I10).turned (t':=s10.toks) (it:=D) (fun b o hb e=>hs11.extBut b o hb e) nD10 d1 d3 d4 d5
      · rw [e11];simp
theorem Yb {use:Option (Value -> Sem Unit)} {Qx:Value -> Shared -> Prop} {cp:Pos} {rest:List Comprehension} {pins:List (Addr × Obj)} {s:Shared} {σ:St} {H:Hp} {Q:VK} {Tl:It -> (Nat -> Nat -> List V -> Hp -> Prop) -> Prop} (own fr:List Str) (js:List Nat) (hk:scope.kind = .function) (hb:wm scope.names X.env.scope.names X.N fr js = true) (hi:PI X tg iter wi)
    (hs:∀ x,foldedSetIterable iter X.env x = pure x) (I:Inv X pins σ H s) (h:wi σ H fun J H1=>∃ W:Nat -> Nat -> List V -> Hp -> Prop,(∃ m,W 0 m [] H1) /\ Tl J W)
    (loop:∀ (C D it:Addr) (fp:List Addr) (tn:Nat -> Heap -> Prop) (J:It) (W:Nat -> Nat -> List V -> Hp -> Prop) (H2:Hp) (s3 s4:Shared) (m0:Nat) (R:Result -> Shared -> Prop),(∀ b ∈ D :: fp,∀ H':Hp,H' b = none -> jk (zF X (own ++ fr) scope C s3 H2 (D :: fp)) [] H' b) -> (∀ b ∈ fp,D ≠ b) ->
      vf X.prog X.w X.K tg J fp it tn -> Tl J W -> LcJ (zF X (own ++ fr) scope C s3 H2 (D :: fp)) D tn fp [] (upS own.length js σ) W m0 s4 ->
      (∀ s6,LcE (zF X (own ++ fr) scope C s3 H2 (D :: fp)) D [] (upS own.length js σ) (fun ys H5=>ys.length <= sizeLine /\ ∀ D,H5 D = none -> Q (.ref D) (upd H5 D (.lst ys))) s6 -> R (.ok .next) s6) ->
      codeAny (model X.prog X.w) X.A (.compLoop (.ListComp elt (⟨tg,iter,ifs,0⟩ :: rest) scope pos) 0 (.ref it) (.ref D) (compEnvC scope (qw X.env.cells scope.names []) C X.env)) R s4)
    (fin:∀ (s6:Shared) (D C:Addr) (H6:Hp) (m:Str -> Option Value),s6.heap.Ns C m -> (∀ h7:Heap,(∀ b o,b ≠ C -> s6.heap.get? b = some o -> h7.get? b = some o) -> Inv X pins σ H6 { s6 with heap:=h7 }) -> jk X pins H6 C -> Q (.ref D) H6 -> compPost (model X.prog X.w) X.A X.xe use Qx (.ref D) C (.ok .next) s6) :
    wpAny (model X.prog X.w) X.A (comprehension (.ListComp elt (⟨tg,iter,ifs,0⟩ :: rest) scope pos) scope X.env cp (newList []) false (eval iter X.env) use) Qx X.xe s:=by
  have B:=Yf hb
  have hasF:∀ y ∈ scope.names,y.2 = NameKind.free -> ∃ c,X.env.cells.lookup y.1 = some c:=fun y hy e=>I.ok.has y.1 (B.free y hy e)
  refine wpAny_comprehension_free rfl hs (Xv hasF) hk (fun y hy e=>B.loc y hy e) (thn (hi pins s σ H _ I h) fun v s1 h1=>thn h1 fun itv s2 h2=>?_)
  obtain ⟨it,fp,tn,J,H2,e,I2,T,st2,f2,W,⟨m0,w0⟩,tl⟩:=h2
  subst e
  have fl:∀ b ∈ fp,b < s2.heap.objs.size:=fun b hb=>let ⟨o,e,_⟩:=T.obj _ _ st2 b hb;Heap.lt_size e
  refine wpAny_newObj_type (wpAny_newFunctionEnv B.cell (by intro y hy;simp at hy) (fun h1 hns hsb=>?_) hk)
  dsimp only at hns hsb ⊢
  generalize e3:s2.heap.push { cls:=.type "list",dict:=none,data:=.seq ([]:List Value).toArray } = h3 at hns hsb ⊢
  have k3:∀ b o,s2.heap.get? b = some o -> h3.get? b = some o:=fun b o e=>by rw [<- e3];exact Heap.get?_push_of_some _ e
  have k4:∀ b o,h3.get? b = some o -> h1.get? b = some o:=fun b o e=>hsb.extBut b o (Nat.ne_of_lt (Heap.lt_size e)) (Heap.get?_push_of_some _ e)
  have I4:Inv (zF X (own ++ fr) scope h3.objs.size { s2 with heap:=h3 } H2 (s2.heap.objs.size :: fp)) [] (upS own.length js σ) H2 { s2 with heap:=h1,toks:=s2.toks + ([]:List (Str × Value)).length }:=
    VE own fr js I2 B hk f2 fl rfl e3.symm rfl hns k4
  have I3:Inv X pins σ H2 { s2 with heap:=h3 }:=I2.kept (t':=s2.toks) k3
  have hz:h3.objs.size = s2.heap.objs.size + 1:=by rw [<- e3,Heap.size_push]
  have hDl:s2.heap.objs.size ≠ h3.objs.size:=by rw [hz];exact Nat.ne_of_lt (Nat.lt_succ_self _)
  have hacc:h1.get? s2.heap.objs.size = some { cls:=.type "list",data:=.seq ([]:List Value).toArray }:=k4 _ _ (by rw [<- e3];exact Heap.get?_push_size _ rfl)
  have fpC:=(I3.fpOk (b:=h3.objs.size) (Nat.le_refl _) (I3.hok.fresh (Nat.le_refl _))).2
  have dN:H2 s2.heap.objs.size = none:=I2.hok.fresh (Nat.le_refl _)
  have dO:=I2.fpOk (b:=s2.heap.objs.size) (Nat.le_refl _) dN
  have fD:∀ b ∈ fp,s2.heap.objs.size ≠ b:=fun b hb=>Nat.ne_of_gt (fl b hb)
  generalize s2.heap.objs.size = D at *
  generalize eC:h3.objs.size = C at *
  have hx:∀ b,jk X pins H2 b -> ∀ x c,(qw X.env.cells scope.names []).lookup x = some c -> c ≠ b:=fun b hb x c e=>hb.2.2.2.2.1 x c (zT e hasF)
  have nfs:∀ b ∈ D :: fp,b ∉ frs X.stack:=I4.ok.exfs
  have nC:∀ b ∈ D :: fp,b ≠ C:=fun b hb=>by
    rcases List.mem_cons.mp hb with z | hb
    · rw [z];exact hDl
    · exact (I4.ok.exf b (List.mem_cons_of_mem _ hb)).1
  have all:∀ b ∈ D :: fp,jk X pins H2 b:=fun b hb=>by
    rcases List.mem_cons.mp hb with z | hb
    · rw [z];exact dO
    · exact f2 b hb
  have fpB:∀ b ∈ D :: fp,∀ H':Hp,H' b = none -> jk (zF X (own ++ fr) scope C { s2 with heap:=h3 } H2 (D :: fp)) [] H' b:=fun b hb H' hn=>
    ⟨hn,nC b hb,nfs b hb,.inl hb,fun x c e=>hx b (all b hb) x c e,fun p h=>absurd h (by simp)⟩
  have go:∀ s4:Shared,s4 = { s2 with heap:=h1,toks:=s2.toks + ([]:List (Str × Value)).length } ->
      codeAny (model X.prog X.w) X.A (.compLoop (.ListComp elt (⟨tg,iter,ifs,0⟩ :: rest) scope pos) 0 (.ref it) (.ref D) (compEnvC scope (qw X.env.cells scope.names []) C X.env)) (compPost (model X.prog X.w) X.A X.xe use Qx (.ref D) C) s4:=by
    intro s4 e4
    subst e4
    refine loop C D it fp tn J W H2 _ _ m0 _ fpB fD T tl ⟨0,[],[],H2,0,I4,T.keep _ _ _ st2 fun b hb o e=>k4 b o (k3 b o e),fun b hb=>(f2 b hb).1,dN,hacc,.nil,w0⟩ fun s6 h6=>?_
    obtain ⟨ys,its,H5,z5,I6,nD6,o6,rv5,hlen,q⟩:=h6
    obtain ⟨m6,hn6,_⟩:=I6.loc
    have hC0:upd H5 D (.lst ys) C = none:=by rw [zi (Ne.symm hDl)];exact I6.free
    refine fin s6 D C (upd H5 D (.lst ys)) m6 hn6 (fun h7 k7=>?_) ⟨hC0,fpC⟩ (q D nD6)
    refine I3.call' (s':={ s6 with heap:=h7 }) (ch:=D :: fp) I6.os (Z2 (VN I6.base (Nat.le_of_eq eC) k7) List.mem_cons_self dN) (y8 (Xi I6.hok I6.free k7) nD6 ⟨hlen,its,z5,rv5,k7 D _ hDl o6⟩) I6.bare fun b hb=>?_
    obtain ⟨_,g1,_,g3,g4,g5⟩:=all b hb
    exact ⟨g3,g1,g4,g5⟩
  exact codeAny_compStart_list (go _ rfl) (T.self X.A 0 _ _ _ (T.keep _ _ _ st2 fun b hb o e=>k4 b o (k3 b o e)) (go _ rfl))
theorem Z1 {Y:Cx} {pins:List (Addr × Obj)} {n:Nat} {js:List Nat} {σ σ9:St} {H':Hp} {s':Shared} (hl:(upS n js σ).length = Y.N.length) (J:Inv Y pins σ9 H' s') (hd:σ9.drop n = (upS n js σ).drop n):Inv Y pins (upS n js σ) H' s':=by
  refine J.weak (hl.trans J.len.symm) fun k v e=>?_
  obtain ⟨hn,e1,_⟩:=vg e
  rw [<- hd,List.getElem?_drop] at e1
  rw [<- e1]
  congr 1
  omega
theorem Xa {C D it:Addr} {fp:List Addr} {tn:Nat -> Heap -> Prop} {J:It} {W:Nat -> Nat -> List V -> Hp -> Prop} {H2:Hp} {s3 s4:Shared} {m0 n:Nat} {R:Result -> Shared -> Prop} {js:List Nat} {σ:St} {N':List Str} {N:List V -> Hp -> Prop} (hc:X.calm = true)
    (hg:∀ C s H ex,PG (zF X N' scope C s H ex) tg g) (hf:∀ C s H ex,PF (zF X N' scope C s H ex) ifs tf) (he:∀ C s H ex,PE (zF X N' scope C s H ex) elt te) (fpB:∀ b ∈ D :: fp,∀ H':Hp,H' b = none -> jk (zF X N' scope C s3 H2 (D :: fp)) [] H' b) (fD:∀ b ∈ fp,D ≠ b) (T:vf X.prog X.w X.K tg J fp it tn)
    (turn:∀ i m zs H7,W i m zs H7 -> (J.stop i H7 /\ N zs H7) \/ (J.go i H7 /\ ∃ N2:List V -> Hp -> Prop,(∀ zs H',N2 zs H' -> ∃ m',m' < m /\ W (i + 1) m' zs H') /\ ∀ x H8,J.yld i H7 x H8 -> g x (upS n js σ) H8 fun σ9 H9=>σ9.drop n = (upS n js σ).drop n /\ tf σ9 H9 fun b H10=>
        if b = true then te σ9 H10 fun y H11=>zs.length < sizeLine /\ N2 (zs ++ [y]) H11 else N2 zs H10))
    (j:LcJ (zF X N' scope C s3 H2 (D :: fp)) D tn fp [] (upS n js σ) W m0 s4) (fin:∀ s6,LcE (zF X N' scope C s3 H2 (D :: fp)) D [] (upS n js σ) N s6 -> R (.ok .next) s6) :
    codeAny (model X.prog X.w) X.A (.compLoop (.ListComp elt [⟨tg,iter,ifs,0⟩] scope pos) 0 (.ref it) (.ref D) (compEnvC scope (qw X.env.cells scope.names []) C X.env)) R s4:=by
  have hl:=(let ⟨_,_,_,_,_,I,_,_,_,_,_,_⟩:=j;I.len:(upS n js σ).length = N'.length)
  refine QT (LcJ (zF X N' scope C s3 H2 (D :: fp)) D tn fp [] (upS n js σ) W) (fun k s5 j=>wpAny_mono (J9 (Y:=zF X N' scope C s3 H2 (D :: fp)) hc rfl (hg _ _ _ _) (hf _ _ _ _) (he _ _ _ _) T (fpB D List.mem_cons_self) (fun b hb=>fpB b (List.mem_cons_of_mem _ hb)) fD (fun σ9 H' s' J hd=>Z1 hl J hd) turn j) (fun r s6 h6=>?_) fun _ _ q=>q) m0 j
  cases r with
  | some v=>exact h6
  | none=>exact fin s6 h6
theorem zaB (own fr:List Str) (js:List Nat) (hc:X.calm = true) (hk:scope.kind = .function) (hb:wm scope.names X.env.scope.names X.N fr js = true) (hi:PI X tg iter wi)
    (hg:∀ C s H ex,PG (zF X (own ++ fr) scope C s H ex) tg g) (hf:∀ C s H ex,PF (zF X (own ++ fr) scope C s H ex) ifs tf) (he:∀ C s H ex,PE (zF X (own ++ fr) scope C s H ex) elt te)
    (hs:∀ x,foldedSetIterable iter X.env x = pure x:=by intro _;rfl):PE X (.ListComp elt [⟨tg,iter,ifs,0⟩] scope pos) (tLC wi own.length js g tf te):=by
  intro pins s σ H Q I h
  rw [eval_ListComp]
  exact Yb (rest:=[]) own fr js hk hb hi hs I h (fun C D it fp tn J W H2 s3 s4 m0 R a b T tl j fin=>Xa hc hg hf he a b T tl j fin) fun s6 D C H6 m hn all _ q=>⟨m,hn,fun h7 hs7=>⟨.ref D,H6,all h7 fun b o hb e=>hs7.extBut b o hb e,rfl,q⟩⟩
end
section
variable {X:Cx} {pins:List (Addr × Obj)} {σ:St} {H:Hp} {s:Shared}
theorem wA {ch:List Addr} {h':Heap} {t':Nat} {T:Addr} {ys:List V} {its:List Value} (I:Inv X pins σ H s) (hf:∀ b ∈ ch,jk X pins H b) (hT:s.heap.objs.size <= T)
    (k:∀ b o,b ∉ ch -> s.heap.get? b = some o -> h'.get? b = some o) (hl:ys.length <= sizeLine) (rv:Vals ys its) (ht:TupX h' T its.toArray) :
    Inv X pins σ (upd H T (.tup ys)) { s with heap:=h',toks:=t' }:=by
  have hn:H T = none:=I.hok.fresh hT
  have ne:∀ b o,s.heap.get? b = some o -> b ≠ T:=fun b o e=>Nat.ne_of_lt (Nat.lt_of_lt_of_le (Heap.lt_size e) hT)
  have tr:∀ b u,H b = some u -> b ∉ ch:=fun b u e hb=>by rw [(hf b hb).1] at e;cases e
  refine I.step (g':=s.gens) (d':=s.drawn) (ch:=ch) (fun b hb=>?_) (fun b o _ _ hc e _=>k b o hc e) (fun b o _ _ hc e _=>⟨o.slots,k b o hc e⟩) (fun b o _ e n=>by rw [zi (ne b o e)];exact n) (fun b o hc e=>⟨o,k b o hc e⟩)
    (fun b xs e=>by rw [zi (zf e hn)];exact e) (fun b o u e=>by rw [zi (zf e hn)];exact e) (fun b ps e=>⟨#[],by rw [zi (zf e hn),e];simp⟩) (fun m hm=>?_) (fun b u e=>?_) I.bare
  · obtain ⟨_,g1,_,g3,g4,g5⟩:=hf b hb
    exact ⟨g3,g1,g4,g5⟩
  · obtain ⟨o,es,ep,ho,r⟩:=hm
    exact ⟨o,es,ep,k _ o (fun z=>(hf _ z).2.1 rfl) ho,r⟩
  · by_cases hb:b = T
    · subst hb
      rw [zb] at e
      cases e
      exact ⟨hl,its,rv,ht⟩
    · rw [zi hb] at e
      refine (I.hok b u e).stay (fun c v hc q=>k c v ?_ q) (fun c q=>by rw [zi (zf q hn)];exact q) fun c xs q=>by rw [zi (zf q hn)];exact q
      rcases hc with z | z
      · rw [z];exact tr b u e
      · exact tr c _ z
end
def Ite (K:PySem.W.Frag) (a:Addr):It:=
  ⟨fun i H=>∃ xs x,SqL K H a xs /\ xs[i]? = some x,fun i H x H'=>∃ T y,x = .ref T /\ H T = none /\ H' = upd H T (.tup [.int i,y]) /\ ∀ xs,SqL K H a xs -> xs[i]? = some y,fun i H=>∃ xs,SqL K H a xs /\ xs.length <= i⟩
theorem Va {P:Program} {w:World} {K:PySem.W.Frag} {elts:List Expr} {kk:Nat} {pos:Pos} (a e it:Addr) (hne:e ≠ it) :
    vf P w K (.Tuple elts kk pos) (Ite K a) [e,it] e (fun i h=>(∃ old,IsEnum h e it i old) /\ h.IsListIter it a i) where
  mem:=by simp
  obj:=fun i h st b hb=>by
    obtain ⟨⟨old,he⟩,⟨o,ho,c,d⟩⟩:=st
    rcases List.mem_cons.mp hb with z | z
    · subst z;exact ⟨_,he,fun v q=>nomatch q⟩
    · rw [List.mem_singleton.mp z];exact ⟨o,ho,fun v q=>by rw [d] at q;cases q⟩
  keep:=fun i h h' st k=>by
    obtain ⟨⟨old,he⟩,hi⟩:=st
    exact ⟨⟨old,k e (by simp) _ he⟩,hi.at fun o q=>k it (by simp) o q⟩
  item:=by
    intro X hP hw hK hc i pins s σ H E I hf st hg
    subst hP hw hK
    obtain ⟨⟨old,he⟩,hit⟩:=st
    obtain ⟨xs,x,hq,hx⟩:=hg
    obtain ⟨its,rv,p,hz⟩:=I.list hq
    obtain ⟨u,hu,ru⟩:=rv.get hx
    have hl:=p.isList
    have hai:a ≠ it:=fun z=>by
      obtain ⟨o,e1,c1,_⟩:=hl
      obtain ⟨o',e2,c2,_⟩:=hit
      rw [z,e2] at e1;cases e1;rw [c2] at c1;exact absurd (Value.type.inj c1) (by decide)
    have hae:e ≠ a:=fun z=>by
      obtain ⟨o,e1,c1,_⟩:=hl
      rw [<- z,he] at e1;cases e1;exact absurd (Value.type.inj c1) (by decide)
    have D:=Draws.list (prog:=X.prog) (w:=X.w) (A:=X.A.in1) (I.ok.hd hc) it a hai its.toArray
    have hi:i < its.toArray.size:=by
      have h1:=(List.getElem?_eq_some_iff.mp hu).1
      simpa using h1
    refine wpAny_pyNext_enum_itemD D he ⟨hit,hl⟩ hi hne (by simp [hne,hae]) fun x' h' tk hP' hout hst' hT hsz hk=>?_
    have ex:x' = u:=by
      have h2:its[i]? = some x':=by simpa using hP'
      rw [hu] at h2;exact (Option.some.inj h2).symm
    subst ex
    refine ⟨_,rfl,wpAny_letOwnedTupleGo_enum hout fun h2 he2 hs2=>?_⟩
    have eT:s.heap.objs.size ≠ e:=Nat.ne_of_gt (Heap.lt_size he)
    have k2:∀ b o,b ∉ [e,it] -> s.heap.get? b = some o -> h2.get? b = some o:=fun b o hb q=>by
      have n1:b ≠ e:=fun z=>hb (by simp [z])
      have n2:b ≠ it:=fun z=>hb (by simp [z])
      exact (hs2.2 b n1).trans (hk b o n1 n2 q)
    have it2:h2.IsListIter it a (i + 1):=hst'.1.extBut hs2.extBut (Ne.symm hne)
    refine ⟨.ref s.heap.objs.size,upd H s.heap.objs.size (.tup [.int i,x]),?_,rfl,⟨_,x,rfl,I.hok.fresh (Nat.le_refl _),rfl,fun ys hy=>by rw [I.list_inj hy hq];exact hx⟩,⟨⟨_,by simpa using he2⟩,it2⟩,fun b hb=>?_⟩
    · refine wA (s:=s) (h':=h2) (t':=tk + 1) (its:=[.int i tk,x']) I hf (Nat.le_refl _) k2 (by rw [sizeLine_eq];exact (by decide:2 <= 16777216)) (.cons ⟨tk,rfl⟩ (.cons ru .nil)) (TupX.by ((hs2.2 _ eT).trans hT))
    · have hb':b < s.heap.objs.size:=by
        rcases List.mem_cons.mp hb with z | z
        · rw [z];exact Heap.lt_size he
        · rw [List.mem_singleton.mp z]
          obtain ⟨o',e',_⟩:=hit
          exact Heap.lt_size e'
      rw [zi (Nat.ne_of_lt hb')]
      exact (hf b hb).1
  done:=by
    intro X hP hw hK hc i pins s σ H E I hf st hg
    subst hP hw hK
    obtain ⟨⟨old,he⟩,hit⟩:=st
    obtain ⟨xs,hq,hx⟩:=hg
    obtain ⟨its,rv,p,hz⟩:=I.list hq
    have hl:=p.isList
    have hai:a ≠ it:=fun z=>by
      obtain ⟨o,e1,c1,_⟩:=hl
      obtain ⟨o',e2,c2,_⟩:=hit
      rw [z,e2] at e1;cases e1;rw [c2] at c1;exact absurd (Value.type.inj c1) (by decide)
    obtain ⟨f0,f1,f2,f3,f4,f5⟩:=hf it (by simp)
    have hle:its.toArray.size <= i:=by
      have:=rv.length
      simp only [List.size_toArray];omega
    have hT:s.TypeIs (.ref e) "enumerate" :=⟨_,he,rfl⟩
    unfold pyNext
    refine wpAny_bind (wpAny_attempt (wpAny_callSpecial?_slot (name:=Str.ofString "__next__") hT F.slot_enumerate_next (wpAny_call_entry F.slot_enumerate_next hT F.entry_enumerate_next ?_ (F.args_enumerate_next_1 _))))
    show wpAny _ _ (field (.ref e) 2 >>= _) _ _ _
    refine wpAny_bind (wpAny_field he rfl (x:=.ref it) rfl (wpAny_bind (wpAny_nextOf_list_end (I.ok.hd hc) hit hl (by simpa using hle) fun h' x he' hx'=>?_)))
    obtain ⟨o,ho,hc'⟩:=hx'
    refine wpAny_bind (wpAny_isInstance (T:= "StopIteration") (b:=true) ⟨o,ho,hc'⟩ isSubtype_stop ?_)
    exact wpAny_pure ⟨rfl,I.turned (t':=s.toks) (fun b o hb q=>he' b o hb q) f0 f1 f3 f4 f5⟩
  self:=fun _ _ _ _ _ st h=>let ⟨⟨_,he⟩,_⟩:=st;wpAny_pyIter_enum he h
section
variable {X:Cx}
def zcB (K:PySem.W.Frag) (ta:TA):TI:=fun σ H R=>ta σ H fun vs H1=>∃ a,vs = [.ref a] /\ (∃ xs,SqL K H1 a xs) /\ R (Ite K a) H1
theorem YA {l:Expr} {ta:TA} {p pos tp:Pos} {elts:List Expr} {kk:Nat} (hg:Gl X "enumerate") (hm:X.mg "enumerate" = none) (ha:PA X [l] ta) (hs:starEach [l] X.env = [(false,eval l X.env)]:=by rfl) :
    PI X (.Tuple elts kk tp) (.Call (.Name "enumerate" p) [l] [] pos) (zcB X.K ta):=by
  intro pins s σ H R I h
  refine Call_ (jY I hg hm boot_enumerate (PyProof.Rows.callWith_type1 (thn (ha pos pins s σ H _ I h) fun us s1 ⟨vs,H1,I1,r1,q1⟩=>?_) hs rfl))
  obtain ⟨a,e,⟨xs,hq⟩,q⟩:=q1
  subst e
  obtain ⟨u,rfl,ru⟩:=j5 r1
  cases ru
  obtain ⟨its,rv,pl,hz⟩:=I1.list hq
  refine call_enumerate_list pl.isList fun h' he hi hsz hk=>wpAny_pyIter_enum he ?_
  have I2:Inv X pins σ H1 { s1 with heap:=h' }:=I1.kept (t':=s1.toks) hk
  refine ⟨s1.heap.objs.size + 1,[s1.heap.objs.size + 1,s1.heap.objs.size],_,_,H1,rfl,I2,Va a _ _ (Nat.succ_ne_self _),⟨⟨_,he⟩,hi⟩,fun b hb=>?_,q⟩
  have hb':s1.heap.objs.size <= b:=by
    rcases List.mem_cons.mp hb with z | z
    · rw [z];exact Nat.le_succ _
    · rw [List.mem_singleton.mp z];exact Nat.le_refl _
  exact I1.fpOk hb' (I1.hok.fresh hb')
theorem W1 {K:PySem.W.Frag} {a:Addr} {xs:List V} {g:TG} {tb:TS} {D:yE} {σ:St} {H:Hp} (Pv:Nat -> St -> Hp -> Prop) (h0:Pv 0 σ H) (hl:∀ i σ H,i <= xs.length -> Pv i σ H -> SqL K H a xs)
    (hs:∀ i x σ H T,xs[i]? = some x -> Pv i σ H -> H T = none -> g (.ref T) σ (upd H T (.tup [.int i,x])) fun σ2 H2=>tb { D with nx:=Pv (i + 1),ct:=Pv (i + 1),bk:=D.nx } σ2 H2) (hd:∀ σ H,Pv xs.length σ H -> D.nx σ H) :
    ∃ W:Nat -> Nat -> St -> Hp -> Prop,(∃ m,W 0 m σ H) /\ ∀ i m σ H,W i m σ H ->
      ((Ite K a).stop i H /\ D.nx σ H) \/ ((Ite K a).go i H /\ ∃ N:St -> Hp -> Prop,(∀ σ' H',N σ' H' -> ∃ m',m' < m /\ W (i + 1) m' σ' H') /\ ∀ x H',(Ite K a).yld i H x H' -> g x σ H' fun σ2 H2=>tb { D with nx:=N,ct:=N,bk:=D.nx } σ2 H2):=by
  refine ⟨fun i m σ H=>m = xs.length - i /\ i <= xs.length /\ Pv i σ H,⟨xs.length,by simp,Nat.zero_le _,h0⟩,?_⟩
  rintro i m σ H ⟨rfl,hi,p⟩
  have q:=hl i σ H hi p
  by_cases hlt:i < xs.length
  · refine .inr ⟨⟨xs,xs[i],q,by simp [hlt]⟩,Pv (i + 1),fun σ' H' p'=>⟨xs.length - (i + 1),by omega,rfl,hlt,p'⟩,fun x H' y=>?_⟩
    obtain ⟨T,z,e1,hT,e2,y⟩:=y
    subst e1 e2
    exact hs i z σ H T (y xs q) p hT
  · have e:i = xs.length:=by omega
    subst e
    exact .inl ⟨⟨xs,q,Nat.le_refl _⟩,hd σ H p⟩
end
section
variable {X:Cx}
inductive wu (K:PySem.W.Frag) (xs:List V) (H:Hp) (Q:VK):Prop
  | mk (p:Addr) (bs:List Bool) (_:xs = [.ref p]) (_:SqL K H p (bs.map V.bl)) (_:Q (.bl (bs.all id)) H):wu K xs H Q
theorem Zi (hc:X.calm = true):ja X (.builtin "all") (wu X.K):=by
  intro pins s σ H xs us Q I r h
  obtain ⟨p,bs,rfl,hq,q⟩:=h
  obtain ⟨u,rfl,ru⟩:=j5 r
  cases ru
  obtain ⟨its,rv,pl,hz⟩:=I.list hq
  have hl:=pl.isList
  have hpl:p ≠ s.heap.objs.size:=by
    obtain ⟨o,e,_⟩:=hl
    exact Nat.ne_of_lt (Heap.lt_size e)
  refine call_all_walk (wpAny_pyIter_list hl ?_)
  refine ⟨s.heap.objs.size,_,_,_,_,_,fun i=>bs.getD i true,rfl,Walks.list (prog:=X.prog) (w:=X.w) (A:=X.A.in1) (I.ok.hd hc) _ p hpl its.toArray,⟨⟨_,Heap.get?_push_size _ rfl,rfl,rfl⟩,hl.push _⟩,?_,fun h' tk hk=>?_⟩
  · intro i v s' Q' E' hP hQ
    have hP:its.toArray[i]? = some v:=hP
    have e1:its[i]? = some v:=by simpa using hP
    have hi:i < bs.length:=by
      have h1:=(List.getElem?_eq_some_iff.mp e1).1
      have h2:=rv.length
      rw [List.length_map] at h2
      omega
    have e2:(bs.map V.bl)[i]? = some (.bl bs[i]):=by simp [hi]
    obtain ⟨u',eu,ru⟩:=rv.get e2
    rw [e1] at eu
    cases eu
    cases ru
    have e3:bs.getD i true = bs[i]:=by simp [hi]
    have hQ2:Q' (bs.getD i true) s':=hQ
    rw [e3] at hQ2
    exact wpAny_truthy_bool hQ2
  · have k:∀ b o,s.heap.get? b = some o -> h'.get? b = some o:=fun b o e=>hk b o (by simp;exact Nat.ne_of_lt (Heap.lt_size e)) (Heap.get?_push_of_some _ e)
    have ea:(List.range its.toArray.size).all (fun i=>bs.getD i true) = bs.all id:=by
      have hlen:its.toArray.size = bs.length:=by
        have:=rv.length
        rw [List.length_map] at this
        simp only [List.size_toArray];omega
      rw [hlen,Bool.eq_iff_iff,List.all_eq_true,List.all_eq_true]
      constructor
      · intro h b hb
        obtain ⟨i,hi,rfl⟩:=List.mem_iff_getElem.mp hb
        have:=h i (List.mem_range.mpr hi)
        simpa [hi] using this
      · intro h i hi
        have hi:=List.mem_range.mp hi
        have:=h bs[i] (List.getElem_mem hi)
        simpa [hi] using this
    exact ⟨.bl (bs.all id),H,I.kept k,by rw [ea];rfl,q⟩
end
def SqK (K:PySem.W.Frag) (kd:Bool) (H:Hp) (a:Addr) (xs:List V):Prop:=match kd with
  | true=>SqL K H a xs
  | false=>SqT K H a xs
def SeqK (kd:Bool) (h:Heap) (a:Addr) (its:Array Value):Prop:=match kd with
  | true=>h.IsList a its
  | false=>h.IsTuple a its
def ItrK (kd:Bool) (h:Heap) (it a:Addr) (i:Nat):Prop:=match kd with
  | true=>h.IsListIter it a i
  | false=>h.IsTupleIter it a i
theorem SeqK.at {kd:Bool} {h h':Heap} {a:Addr} {its:Array Value} (x:SeqK kd h a its) (k:∀ o,h.get? a = some o -> h'.get? a = some o):SeqK kd h' a its:=by
  cases kd with
  | true=>exact Heap.IsList.at x k
  | false=>obtain ⟨o,e,r⟩:=(show h.IsTuple a its from x);exact ⟨o,k o e,r⟩
theorem ItrK.at {kd:Bool} {h h':Heap} {it a:Addr} {i:Nat} (x:ItrK kd h it a i) (k:∀ o,h.get? it = some o -> h'.get? it = some o):ItrK kd h' it a i:=by
  cases kd with
  | true=>exact Heap.IsListIter.at x k
  | false=>obtain ⟨o,e,r⟩:=(show h.IsTupleIter it a i from x);exact ⟨o,k o e,r⟩
theorem ItrK.obj {kd:Bool} {h:Heap} {it a:Addr} {i:Nat} (x:ItrK kd h it a i):∃ o,h.get? it = some o /\ (o.cls = .type "list_iterator" \/ o.cls = .type "tuple_iterator") /\ ∀ v,o.data ≠ .cell v:=by
  cases kd with
  | true=>obtain ⟨o,e,c,d⟩:=(show h.IsListIter it a i from x);exact ⟨o,e,.inl c,fun v q=>by rw [d] at q;cases q⟩
  | false=>obtain ⟨o,e,c,d⟩:=(show h.IsTupleIter it a i from x);exact ⟨o,e,.inr c,fun v q=>by rw [d] at q;cases q⟩
section
variable {prog:Program} {w:World} {A:Around} {E:Value -> Shared -> Prop} {s:Shared}
theorem xn {kd:Bool} {it a:Addr} {i:Nat} {its:Array Value} {x:Value} {Q:Value -> Shared -> Prop} (hi:ItrK kd s.heap it a i) (hl:SeqK kd s.heap a its) (hx:its[i]? = some x)
    (hQ:∀ h',ItrK kd h' it a (i + 1) -> Heap.SameBut it s.heap h' -> Q x { s with heap:=h' }):wpAny (model prog w) A (Builtin.SmallTypes.nextOf (.ref it)) Q E s:=by
  cases kd with
  | true=>exact wpAny_nextOf_list_item hi hl hx hQ
  | false=>
    have hi':s.heap.IsTupleIter it a i:=hi
    obtain ⟨o,ho,hc,hd⟩:=id hi'
    obtain ⟨ol,hol,_,nl,hdl⟩:=(show s.heap.IsTuple a its from hl)
    unfold Builtin.SmallTypes.nextOf;refine wpAny_bind (wpAny_callSpecial?_slot (name:=Str.ofString "__next__") hi'.typeIs F.slot_tuple_iterator_next (wpAny_call_entry F.slot_tuple_iterator_next hi'.typeIs F.entry_tuple_iterator_next ?_ (F.args_tuple_iterator_next_1 _)))
    show wpAny _ _ (field (.ref it) 0 >>= _) _ _ _;refine wpAny_bind (wpAny_field ho hd (x:=.ref a) rfl ?_)
    show wpAny _ _ (if (Value.ref a == Value.none) = true then _ else _) _ _ _;rw [if_neg (show ¬ ((Value.ref a == Value.none) = true) from Bool.false_ne_true)]
    show wpAny _ _ (field (.ref it) 1 >>= _) _ _ _;refine wpAny_bind (wpAny_field ho hd (x:=.int i 0) rfl ?_)
    show wpAny _ _ (seqItems? (.ref a) >>= _) _ _ _;refine wpAny_bind (wpAny_seqItems hol hdl ?_);simp only [Int.toNat_natCast,hx]
    refine wpAny_bind (wpAny_setField ho hd (by simp) (wpAny_pure ⟨x,rfl,wpAny_pure (hQ _ (show Heap.IsTupleIter _ _ _ _ from ?_) (Heap.SameBut.update ..))⟩))
    refine ⟨_,Heap.get?_update_self _ ho (Obj.isFreed_of_fields (Obj.data_mapFields hd _)),(Obj.cls_mapFields ..).trans hc,?_⟩;rw [Obj.data_mapFields hd];simp [rawInt]
theorem xR {kd:Bool} {it a:Addr} {i:Nat} {its:Array Value} {Q:Value -> Shared -> Prop} (hh:A.handled = none) (hi:ItrK kd s.heap it a i) (hl:SeqK kd s.heap a its) (hx:its[i]? = none)
    (hE:∀ h' e,Heap.ExtBut it s.heap h' -> (∃ o,h'.get? e = some o /\ o.cls = .type "StopIteration") -> E (.ref e) { s with heap:=h' }):wpAny (model prog w) A (Builtin.SmallTypes.nextOf (.ref it)) Q E s:=by
  cases kd with
  | true=>exact wpAny_nextOf_list_end hh hi hl hx hE
  | false=>
    have hi':s.heap.IsTupleIter it a i:=hi
    obtain ⟨o,ho,hc,hd⟩:=id hi'
    obtain ⟨ol,hol,_,nl,hdl⟩:=(show s.heap.IsTuple a its from hl)
    unfold Builtin.SmallTypes.nextOf;refine wpAny_bind (wpAny_callSpecial?_slot (name:=Str.ofString "__next__") hi'.typeIs F.slot_tuple_iterator_next (wpAny_call_entry F.slot_tuple_iterator_next hi'.typeIs F.entry_tuple_iterator_next ?_ (F.args_tuple_iterator_next_1 _)))
    show wpAny _ _ (field (.ref it) 0 >>= _) _ _ _;refine wpAny_bind (wpAny_field ho hd (x:=.ref a) rfl ?_)
    show wpAny _ _ (if (Value.ref a == Value.none) = true then _ else _) _ _ _;rw [if_neg (show ¬ ((Value.ref a == Value.none) = true) from Bool.false_ne_true)]
    show wpAny _ _ (field (.ref it) 1 >>= _) _ _ _;refine wpAny_bind (wpAny_field ho hd (x:=.int i 0) rfl ?_)
    show wpAny _ _ (seqItems? (.ref a) >>= _) _ _ _;refine wpAny_bind (wpAny_seqItems hol hdl ?_);simp only [Int.toNat_natCast,hx]
    refine wpAny_bind (wpAny_rule (wpAny_bind (wpAny_setField ho hd (by simp) ?_)));show wpAny _ _ (newExc (.type "StopIteration") [] >>= _) _ _ _
    refine wpAny_bind ?_;simp only [newExc,newTuple];refine wpAny_bind (wpAny_newObj_type ?_ (by size_fits))
    refine wpAny_bind (m:=firstArgMember _ _) (wpAny_of_eq (a:=Value.none) (by first | rfl | (simp only [firstArgMember];rfl)) (wpAny_newObj_type ?_ (by size_fits)))
    simp only [raiseNew];refine wpAny_bind (wpAny_handled ?_);first | rw [show A.in1.handled = none from hh] | rw [hh]
    exact wpAny_bind (wpAny_pure (wpAny_throw (hE _ _ (((Heap.SameBut.update ..).extBut.push _).push _) ⟨_,Heap.get?_push_size _ rfl,rfl⟩)))
structure Zr (k1 k2:Bool) (h:Heap) (z TI TO i1 i2 a1 a2:Addr) (i:Nat):Prop where
  zz:IsZip h z TI TO .none
  ti:IsPair h TI (.ref i1) (.ref i2)
  to:∃ a b,IsPair h TO a b
  r1:ItrK k1 h i1 a1 i
  r2:ItrK k2 h i2 a2 i
structure XB (z TI TO i1 i2:Addr):Prop where
  a:TI ≠ z
  b:TO ≠ z
  c:i1 ≠ z
  d:i2 ≠ z
  e:TI ≠ TO
  f:TI ≠ i1
  g:TI ≠ i2
  h:TO ≠ i1
  i:TO ≠ i2
  j:i1 ≠ i2
end
section
variable {prog:Program} {w:World} {A:Around} {E:Value -> Shared -> Prop} {s:Shared}
theorem XD {k1 k2:Bool} {z TI TO i1 i2 a1 a2:Addr} {i:Nat} {xs ys:Array Value} {x y:Value} {Q:Option Value -> Shared -> Prop} (N:XB z TI TO i1 i2) (Z:Zr k1 k2 s.heap z TI TO i1 i2 a1 a2 i)
    (l1:SeqK k1 s.heap a1 xs) (l2:SeqK k2 s.heap a2 ys) (m1:∀ b ∈ [z,TO,i1,i2],a1 ≠ b) (m2:∀ b ∈ [z,TO,i1,i2],a2 ≠ b) (hx:xs[i]? = some x) (hy:ys[i]? = some y)
    (hQ:∀ h',IsZip h' z TI TO (rawInt s.heap.objs.size) -> IsPair h' TI (.ref i1) (.ref i2) -> (∃ a b,IsPair h' TO a b) -> ItrK k1 h' i1 a1 (i + 1) -> ItrK k2 h' i2 a2 (i + 1) -> IsPair h' s.heap.objs.size x y -> h'.objs.size = s.heap.objs.size + 1 ->
      (∀ c o,c ∉ [z,TO,i1,i2] -> s.heap.get? c = some o -> h'.get? c = some o) -> Q (some (.ref s.heap.objs.size)) { s with heap:=h' }):wpAny (model prog w) A (pyNext (.ref z)) Q E s:=by
  obtain ⟨hz,hTI,⟨a,b,hTO⟩,h1,h2⟩:=Z
  have hT:s.TypeIs (.ref z) "zip" :=⟨_,hz,rfl⟩
  unfold pyNext;refine wpAny_bind (wpAny_attempt (wpAny_callSpecial?_slot (name:=Str.ofString "__next__") hT F.slot_zip_next (wpAny_call_entry F.slot_zip_next hT F.entry_zip_next ?_ (F.args_zip_next_1 _))))
  show wpAny _ _ (field (.ref z) 2 >>= _) _ _ _;refine wpAny_bind (wpAny_field hz rfl (x:=.bool false) rfl ?_)
  show wpAny _ _ (field (.ref z) 3 >>= _) _ _ _;refine wpAny_bind (wpAny_field hz rfl (x:=.ref TI) rfl (wpAny_bind (wpAny_seqItems hTI rfl ?_)))
  show wpAny _ _ (Builtin.SmallTypes.ownedTupleIsFree (.ref z) >>= _) _ _ _;refine wpAny_bind ?_
  unfold Builtin.SmallTypes.ownedTupleIsFree;refine wpAny_bind (wpAny_field hz rfl (x:=.none) rfl (wpAny_pure ?_));simp only [if_true]
  refine wpAny_bind (wpAny_rule (wpAny_bind (wpAny_field hz rfl (x:=.ref TO) rfl (wpAny_bind (wpAny_setField_rec hz (by simp) fun g1 hz1 hs1=>?_)))))
  replace hz1:IsZip g1 z TI TO .ellipsis:=hz1
  refine wpAny_bind ?_;simp only [List.zipIdx_cons,List.zipIdx_nil,List.forIn_cons,List.forIn_nil]
  refine wpAny_bind (wpAny_bind (wpAny_onRaise ?_));show wpAny _ _ (Builtin.SmallTypes.nextOf (.ref i1) >>= _) _ _ _
  refine wpAny_bind (xn (h1.at fun o e=>hs1.extBut _ o N.c e) (l1.at fun o e=>hs1.extBut _ o (m1 z (by simp)) e) hx fun g2 h12 hs2=>wpAny_pure ?_)
  have hTO2:IsPair g2 TO a b:=hs2.extBut _ _ N.h (hs1.extBut _ _ N.b hTO)
  refine wpAny_bind (wpAny_seqItems hTO2 rfl (wpAny_bind (wpAny_updateSeq_pair hTO2 fun g3 hTO3 hs3=>?_)))
  replace hTO3:IsPair g3 TO x b:=hTO3
  refine wpAny_bind (wpAny_letGo (wpAny_pure ?_));refine wpAny_bind (wpAny_bind (wpAny_onRaise ?_));show wpAny _ _ (Builtin.SmallTypes.nextOf (.ref i2) >>= _) _ _ _
  have c23:∀ c o,c ∉ [z,TO,i1] -> s.heap.get? c = some o -> g3.get? c = some o:=fun c o hc e=>hs3.extBut _ o (fun q=>hc (by simp [q])) (hs2.extBut _ o (fun q=>hc (by simp [q])) (hs1.extBut _ o (fun q=>hc (by simp [q])) e))
  refine wpAny_bind (xn (h2.at fun o e=>c23 _ o (by simp [N.d,Ne.symm N.i,Ne.symm N.j]) e) (l2.at fun o e=>c23 _ o (by simp [m2 z (by simp),m2 TO (by simp),m2 i1 (by simp)]) e) hy fun g4 h24 hs4=>wpAny_pure ?_)
  have hTO4:IsPair g4 TO x b:=hs4.extBut _ _ N.i hTO3
  refine wpAny_bind (wpAny_seqItems hTO4 rfl (wpAny_bind (wpAny_updateSeq_pair hTO4 fun g5 hTO5 hs5=>?_)))
  replace hTO5:IsPair g5 TO x y:=hTO5
  refine wpAny_bind (wpAny_letGo (wpAny_pure (wpAny_pure (wpAny_bind (wpAny_seqItems hTO5 rfl (wpAny_bind (wpAny_newTuple ?_)))))))
  have zs:g5.objs.size = s.heap.objs.size:=by rw [hs5.1,hs4.1,hs3.1,hs2.1,hs1.1]
  have hz5:IsZip g5 z TI TO .ellipsis:=hs5.extBut _ _ (Ne.symm N.b) (hs4.extBut _ _ (Ne.symm N.d) (hs3.extBut _ _ (Ne.symm N.b) (hs2.extBut _ _ (Ne.symm N.c) hz1)))
  have k5:∀ c o,c ∉ [z,TO,i1,i2] -> s.heap.get? c = some o -> g5.get? c = some o:=fun c o hc e=>hs5.extBut _ o (fun q=>hc (by simp [q])) (hs4.extBut _ o (fun q=>hc (by simp [q])) (c23 c o (fun q=>hc (by simp at q ⊢;rcases q with q | q | q <;> simp [q])) e))
  have r1:ItrK k1 g5 i1 a1 (i + 1):=h12.at fun o e=>hs5.extBut _ o (Ne.symm N.h) (hs4.extBut _ o N.j (hs3.extBut _ o (Ne.symm N.h) e))
  have r2:ItrK k2 g5 i2 a2 (i + 1):=h24.at fun o e=>hs5.extBut _ o (Ne.symm N.i) e
  have zl:z < g5.objs.size:=Heap.lt_size hz5
  show wpAny _ _ (Builtin.SmallTypes.ownedTupleHandOut (.ref z) (.ref g5.objs.size) >>= _) _ _ _;refine wpAny_bind ?_;unfold Builtin.SmallTypes.ownedTupleHandOut
  have hz6:IsZip (g5.push { cls:=.type "tuple",data:=.seq #[x,y] }) z TI TO .ellipsis:=Heap.get?_push_of_some _ hz5
  refine wpAny_bind (wpAny_setField_rec hz6 (by simp) fun g7 hz7 hs7=>?_)
  replace hz7:IsZip g7 z TI TO (rawInt g5.objs.size):=hz7
  refine wpAny_setField_rec hz7 (by simp) fun g8 hz8 hs8=>?_
  replace hz8:IsZip g8 z TI TO (rawInt g5.objs.size):=hz8
  have up:∀ c o,c ≠ z -> g5.get? c = some o -> g8.get? c = some o:=fun c o c1 e=>hs8.extBut _ o c1 (hs7.extBut _ o c1 (Heap.get?_push_of_some _ e))
  have hT8:IsPair g8 g5.objs.size x y:=hs8.extBut _ _ (Nat.ne_of_gt zl) (hs7.extBut _ _ (Nat.ne_of_gt zl) (Heap.get?_push_size _ rfl))
  have z8:g8.objs.size = g5.objs.size + 1:=by rw [hs8.1,hs7.1,Heap.size_push]
  rw [zs] at hz8 hT8 z8
  refine wpAny_pure ⟨_,rfl,wpAny_pure ?_⟩;show Q (some (.ref g5.objs.size)) _;rw [zs]
  exact hQ g8 hz8 (up _ _ N.a (k5 _ _ (by simp [N.a,N.e,N.f,N.g]) hTI)) ⟨_,_,up _ _ N.b hTO5⟩ (r1.at fun o e=>up _ o N.c e) (r2.at fun o e=>up _ o N.d e) hT8 z8 fun c o hc e=>up c o (fun q=>hc (by simp [q])) (k5 c o hc e)
theorem VL {k1 k2:Bool} {z TI TO i1 i2 a1 a2:Addr} {i:Nat} {xs ys:Array Value} {Q:Option Value -> Shared -> Prop} (hh:A.handled = none) (N:XB z TI TO i1 i2) (Z:Zr k1 k2 s.heap z TI TO i1 i2 a1 a2 i)
    (l1:SeqK k1 s.heap a1 xs) (l2:SeqK k2 s.heap a2 ys) (m1:∀ b ∈ [z,TO,i1,i2],a1 ≠ b) (m2:∀ b ∈ [z,TO,i1,i2],a2 ≠ b) (hend:xs[i]? = none \/ ys[i]? = none)
    (hQ:∀ h',(∀ c o,c ∉ [z,TO,i1,i2] -> s.heap.get? c = some o -> h'.get? c = some o) -> Q none { s with heap:=h' }):wpAny (model prog w) A (pyNext (.ref z)) Q E s:=by
  obtain ⟨hz,hTI,⟨a,b,hTO⟩,h1,h2⟩:=Z
  have hT:s.TypeIs (.ref z) "zip" :=⟨_,hz,rfl⟩
  unfold pyNext;refine wpAny_bind (wpAny_attempt (wpAny_callSpecial?_slot (name:=Str.ofString "__next__") hT F.slot_zip_next (wpAny_call_entry F.slot_zip_next hT F.entry_zip_next ?_ (F.args_zip_next_1 _))))
  show wpAny _ _ (field (.ref z) 2 >>= _) _ _ _;refine wpAny_bind (wpAny_field hz rfl (x:=.bool false) rfl ?_)
  show wpAny _ _ (field (.ref z) 3 >>= _) _ _ _;refine wpAny_bind (wpAny_field hz rfl (x:=.ref TI) rfl (wpAny_bind (wpAny_seqItems hTI rfl ?_)))
  show wpAny _ _ (Builtin.SmallTypes.ownedTupleIsFree (.ref z) >>= _) _ _ _;refine wpAny_bind ?_
  unfold Builtin.SmallTypes.ownedTupleIsFree;refine wpAny_bind (wpAny_field hz rfl (x:=.none) rfl (wpAny_pure ?_));simp only [if_true]
  refine wpAny_bind (wpAny_rule (wpAny_bind (wpAny_field hz rfl (x:=.ref TO) rfl (wpAny_bind (wpAny_setField_rec hz (by simp) fun g1 hz1 hs1=>?_)))))
  replace hz1:IsZip g1 z TI TO .ellipsis:=hz1
  refine wpAny_bind ?_;simp only [List.zipIdx_cons,List.zipIdx_nil,List.forIn_cons,List.forIn_nil]
  refine wpAny_bind (wpAny_bind (wpAny_onRaise ?_));show wpAny _ _ (Builtin.SmallTypes.nextOf (.ref i1) >>= _) _ _ _
  cases hx:xs[i]? with
  | none=>
    refine wpAny_bind (xR hh (h1.at fun o e=>hs1.extBut _ o N.c e) (l1.at fun o e=>hs1.extBut _ o (m1 z (by simp)) e) hx fun g2 e hs2 he=>?_)
    obtain ⟨oe,hoe,hce⟩:=he
    have hz2:IsZip g2 z TI TO .ellipsis:=hs2 _ _ (Ne.symm N.c) hz1
    have hez:e ≠ z:=fun q=>by subst q;rw [hz2] at hoe;cases hoe;exact absurd (Value.type.inj hce) (by decide)
    refine wpAny_setField_rec hz2 (by simp) fun g3 hz3 hs3=>?_
    refine wpAny_bind (wpAny_isInstance (T:= "StopIteration") (b:=true) ⟨oe,hs3.extBut _ _ hez hoe,hce⟩ isSubtype_stop (wpAny_pure (hQ _ fun c o hc q=>?_)))
    exact hs3.extBut _ o (fun q=>hc (by simp [q])) (hs2 _ o (fun q=>hc (by simp [q])) (hs1.extBut _ o (fun q=>hc (by simp [q])) q))
  | some x=>
    have hy:ys[i]? = none:=by rcases hend with q | q;rw [hx] at q;cases q;exact q
    refine wpAny_bind (xn (h1.at fun o e=>hs1.extBut _ o N.c e) (l1.at fun o e=>hs1.extBut _ o (m1 z (by simp)) e) hx fun g2 h12 hs2=>wpAny_pure ?_)
    have hTO2:IsPair g2 TO a b:=hs2.extBut _ _ N.h (hs1.extBut _ _ N.b hTO)
    refine wpAny_bind (wpAny_seqItems hTO2 rfl (wpAny_bind (wpAny_updateSeq_pair hTO2 fun g3 hTO3 hs3=>?_)))
    have c23:∀ c o,c ∉ [z,TO,i1] -> s.heap.get? c = some o -> g3.get? c = some o:=fun c o hc e=>hs3.extBut _ o (fun q=>hc (by simp [q])) (hs2.extBut _ o (fun q=>hc (by simp [q])) (hs1.extBut _ o (fun q=>hc (by simp [q])) e))
    refine wpAny_bind (wpAny_letGo (wpAny_pure ?_));refine wpAny_bind (wpAny_bind (wpAny_onRaise ?_));show wpAny _ _ (Builtin.SmallTypes.nextOf (.ref i2) >>= _) _ _ _
    refine wpAny_bind (xR hh (h2.at fun o e=>c23 _ o (by simp [N.d,Ne.symm N.i,Ne.symm N.j]) e) (l2.at fun o e=>c23 _ o (by simp [m2 z (by simp),m2 TO (by simp),m2 i1 (by simp)]) e) hy fun g4 e hs4 he=>?_)
    obtain ⟨oe,hoe,hce⟩:=he
    have hz4:IsZip g4 z TI TO .ellipsis:=hs4 _ _ (Ne.symm N.d) (hs3.extBut _ _ (Ne.symm N.b) (hs2.extBut _ _ (Ne.symm N.c) hz1))
    have hez:e ≠ z:=fun q=>by subst q;rw [hz4] at hoe;cases hoe;exact absurd (Value.type.inj hce) (by decide)
    refine wpAny_setField_rec hz4 (by simp) fun g5 hz5 hs5=>?_
    refine wpAny_bind (wpAny_isInstance (T:= "StopIteration") (b:=true) ⟨oe,hs5.extBut _ _ hez hoe,hce⟩ isSubtype_stop (wpAny_pure (hQ _ fun c o hc q=>?_)))
    exact hs5.extBut _ o (fun q=>hc (by simp [q])) (hs4 _ o (fun q=>hc (by simp [q])) (c23 c o (fun q=>hc (by simp at q ⊢;rcases q with q | q | q <;> simp [q])) q))
abbrev zh (h:Heap) (o1 o2:Obj):Heap:=((((h.push o1).push o2).push { cls:=.type "tuple",data:=.seq #[.ref h.objs.size,.ref (h.push o1).objs.size] }).push { cls:=.type "tuple",data:=.seq #[.none,.none] }).push
  { cls:=.type "zip",data:=.fields #[.none,.bool false,.bool false,.ref ((h.push o1).push o2).objs.size,.ref (((h.push o1).push o2).push { cls:=.type "tuple",data:=.seq #[.ref h.objs.size,.ref (h.push o1).objs.size] }).objs.size] }
theorem zbL {k1 k2:Bool} {a1 a2:Addr} {h:Heap} {o1 o2:Obj} (p1:∀ g:Heap,g.get? h.objs.size = some o1 -> ItrK k1 g h.objs.size a1 0) (p2:∀ (g:Heap) (n:Addr),g.get? n = some o2 -> ItrK k2 g n a2 0) (f1:o1.isFreed = false) (f2:o2.isFreed = false) :
    Zr k1 k2 (zh h o1 o2) (h.objs.size + 4) (h.objs.size + 2) (h.objs.size + 3) h.objs.size (h.objs.size + 1) a1 a2 0 /\ (∀ c o,h.get? c = some o -> (zh h o1 o2).get? c = some o) /\ (zh h o1 o2).objs.size = h.objs.size + 5:=by
  have z1:(h.push o1).objs.size = h.objs.size + 1:=Heap.size_push ..
  have z2:((h.push o1).push o2).objs.size = h.objs.size + 2:=by rw [Heap.size_push,z1]
  have z3:(((h.push o1).push o2).push { cls:=.type "tuple",data:=.seq #[.ref h.objs.size,.ref (h.push o1).objs.size] }).objs.size = h.objs.size + 3:=by rw [Heap.size_push,z2]
  have z4:((((h.push o1).push o2).push { cls:=.type "tuple",data:=.seq #[.ref h.objs.size,.ref (h.push o1).objs.size] }).push { cls:=.type "tuple",data:=.seq #[.none,.none] }).objs.size = h.objs.size + 4:=by rw [Heap.size_push,z3]
  have q5:(zh h o1 o2).get? (h.objs.size + 4) = some _:=z4 ▸ Heap.get?_push_size _ rfl
  have q4:(zh h o1 o2).get? (h.objs.size + 3) = some _:=z3 ▸ Heap.get?_push_of_some _ (Heap.get?_push_size _ rfl)
  have q3:(zh h o1 o2).get? (h.objs.size + 2) = some _:=z2 ▸ Heap.get?_push_of_some _ (Heap.get?_push_of_some _ (Heap.get?_push_size _ rfl))
  have q2:(zh h o1 o2).get? (h.objs.size + 1) = some o2:=z1 ▸ Heap.get?_push_of_some _ (Heap.get?_push_of_some _ (Heap.get?_push_of_some _ (Heap.get?_push_size _ f2)))
  have q1:(zh h o1 o2).get? h.objs.size = some o1:=Heap.get?_push_of_some _ (Heap.get?_push_of_some _ (Heap.get?_push_of_some _ (Heap.get?_push_of_some _ (Heap.get?_push_size _ f1))))
  rw [z2,z3] at q5
  rw [z1] at q3
  exact ⟨⟨q5,q3,⟨_,_,q4⟩,p1 _ q1,p2 _ _ q2⟩,fun c o e=>Heap.get?_push_of_some _ (Heap.get?_push_of_some _ (Heap.get?_push_of_some _ (Heap.get?_push_of_some _ (Heap.get?_push_of_some _ e)))),by rw [Heap.size_push,z4]⟩
theorem VJ {k1 k2:Bool} {a1 a2:Addr} {xs ys:Array Value} :
    PySem.Meets (Builtin.«zip.__new__» ⟨[.type "zip",.ref a1,.ref a2],[]⟩) (fun _ R s=>SeqK k1 s.heap a1 xs /\ SeqK k2 s.heap a2 ys /\
      ∀ h',Zr k1 k2 h' (s.heap.objs.size + 4) (s.heap.objs.size + 2) (s.heap.objs.size + 3) s.heap.objs.size (s.heap.objs.size + 1) a1 a2 0 -> (∀ c o,s.heap.get? c = some o -> h'.get? c = some o) -> h'.objs.size = s.heap.objs.size + 5 -> R (.ok (.ret (.ref (s.heap.objs.size + 4)))) { s with heap:=h' }):=
  .of_wp fun prog w A R s hq=>by
    obtain ⟨hp,g,d,tk,os⟩:=s
    obtain ⟨hl1,hl2,hr⟩:=hq
    have hsub:=sub_zip
    have fin:∀ {o1 o2:Obj},(∀ g:Heap,g.get? hp.objs.size = some o1 -> ItrK k1 g hp.objs.size a1 0) -> (∀ (g:Heap) (n:Addr),g.get? n = some o2 -> ItrK k2 g n a2 0) -> o1.isFreed = false -> o2.isFreed = false ->
        R (.ok (.ret (.ref ((((hp.push o1).push o2).push { cls:=.type "tuple",data:=.seq #[.ref hp.objs.size,.ref (hp.push o1).objs.size] }).push { cls:=.type "tuple",data:=.seq #[.none,.none] }).objs.size))) ⟨zh hp o1 o2,g,d,tk,os⟩:=fun {o1 o2} p1 p2 f1 f2=>by
      obtain ⟨A,B,C⟩:=zbL p1 p2 f1 f2
      have e:((((hp.push o1).push o2).push { cls:=.type "tuple",data:=.seq #[.ref hp.objs.size,.ref (hp.push o1).objs.size] }).push { cls:=.type "tuple",data:=.seq #[.none,.none] }).objs.size = hp.objs.size + 4:=by
        rw [Heap.size_push,Heap.size_push,Heap.size_push,Heap.size_push]
      rw [e]
      exact hr _ A B C
    cases k1 with
    | true=>
      have L1:Heap.IsList (Shared.heap ⟨hp,g,d,tk,os⟩) a1 xs:=hl1
      cases k2 with
      | true=>
        have L2:Heap.IsList (Shared.heap ⟨hp.push { cls:=.type "list_iterator",data:=.fields #[.ref a1,.int 0 0] },g,d,tk,os⟩) a2 ys:=Heap.IsList.push hl2 _
        wp_walk using wpAny_pyIter_list L1,wpAny_pyIter_list L2
        exact ⟨_,rfl,fin (fun g e=>⟨_,e,rfl,rfl⟩) (fun g n e=>⟨_,e,rfl,rfl⟩) rfl rfl⟩
      | false=>
        have L2:Heap.IsTuple (Shared.heap ⟨hp.push { cls:=.type "list_iterator",data:=.fields #[.ref a1,.int 0 0] },g,d,tk,os⟩) a2 ys:=Heap.IsTuple.push hl2 _
        wp_walk using wpAny_pyIter_list L1,wpAny_pyIter_tuple L2
        exact ⟨_,rfl,fin (fun g e=>⟨_,e,rfl,rfl⟩) (fun g n e=>⟨_,e,rfl,rfl⟩) rfl rfl⟩
    | false=>
      have L1:Heap.IsTuple (Shared.heap ⟨hp,g,d,tk,os⟩) a1 xs:=hl1
      cases k2 with
      | true=>
        have L2:Heap.IsList (Shared.heap ⟨hp.push { cls:=.type "tuple_iterator",data:=.fields #[.ref a1,.int 0 0] },g,d,tk,os⟩) a2 ys:=Heap.IsList.push hl2 _
        wp_walk using wpAny_pyIter_tuple L1,wpAny_pyIter_list L2
        exact ⟨_,rfl,fin (fun g e=>⟨_,e,rfl,rfl⟩) (fun g n e=>⟨_,e,rfl,rfl⟩) rfl rfl⟩
      | false=>
        have L2:Heap.IsTuple (Shared.heap ⟨hp.push { cls:=.type "tuple_iterator",data:=.fields #[.ref a1,.int 0 0] },g,d,tk,os⟩) a2 ys:=Heap.IsTuple.push hl2 _
        wp_walk using wpAny_pyIter_tuple L1,wpAny_pyIter_tuple L2
        exact ⟨_,rfl,fin (fun g e=>⟨_,e,rfl,rfl⟩) (fun g n e=>⟨_,e,rfl,rfl⟩) rfl rfl⟩
theorem VC {k1 k2:Bool} {a1 a2:Addr} {xs ys:Array Value} {Q:Value -> Shared -> Prop} (h1:SeqK k1 s.heap a1 xs) (h2:SeqK k2 s.heap a2 ys)
    (h:∀ h',Zr k1 k2 h' (s.heap.objs.size + 4) (s.heap.objs.size + 2) (s.heap.objs.size + 3) s.heap.objs.size (s.heap.objs.size + 1) a1 a2 0 -> (∀ c o,s.heap.get? c = some o -> h'.get? c = some o) -> h'.objs.size = s.heap.objs.size + 5 ->
      Q (.ref (s.heap.objs.size + 4)) { s with heap:=h' }):wpAny (model prog w) A (call (.type "zip") [.ref a1,.ref a2]) Q E s:=by
  refine callType_new F.called_zip (by decide) (F.typeCall_zip_2 _ _) (F.newCall_zip_2 _ _) (fun obj=>F.args_object_init_3 obj _ _) F.entry_zip_new (VJ (k1:=k1) (k2:=k2) (xs:=xs) (ys:=ys)) ⟨h1,h2,fun h' Z k z=>?_⟩
  exact ⟨⟨_,Z.zz,rfl⟩,h h' Z k z⟩
end
theorem Inv.seqK {X:Cx} {pins:List (Addr × Obj)} {σ:St} {H:Hp} {s:Shared} {kd:Bool} {a:Addr} {xs:List V} (I:Inv X pins σ H s) (h:SqK X.K kd H a xs):∃ its:List Value,Vals xs its /\ SeqK kd s.heap a its.toArray /\ xs.length <= sizeLine:=by
  cases kd with
  | true=>obtain ⟨its,r,p,z⟩:=I.list h;exact ⟨its,r,p.isList,z⟩
  | false=>obtain ⟨its,r,p,z⟩:=I.tuple h;exact ⟨its,r,p,z⟩
theorem Inv.seqK_inj {X:Cx} {pins:List (Addr × Obj)} {σ:St} {H:Hp} {s:Shared} {kd:Bool} {a:Addr} {xs ys:List V} (I:Inv X pins σ H s) (h:SqK X.K kd H a xs) (h':SqK X.K kd H a ys):xs = ys:=by
  cases kd with
  | true=>exact I.list_inj h h'
  | false=>exact I.tuple_inj h h'
theorem SqK.ne_fp {X:Cx} {pins:List (Addr × Obj)} {σ:St} {H:Hp} {s:Shared} {kd:Bool} {a b:Addr} {xs:List V} (I:Inv X pins σ H s) (h:SqK X.K kd H a xs) (f:jk X pins H b):a ≠ b:=fun z=>by
  have kk:∀ o,X.K.lookup a = some o -> False:=fun o e=>by
    have e':=I.mod.kin a o e
    rcases f.2.2.2.1 with q | q
    · exact I.ok.noex a o e' (by rw [z];exact q)
    · have:=Heap.lt_size (I.ok.bs a o e').1
      rw [z] at this
      exact Nat.lt_irrefl _ (Nat.lt_of_lt_of_le this q)
  cases kd with
  | true=>
    rcases (show SqL X.K H a xs from h) with (q | ⟨o,q⟩) | ⟨o,_,_,q,_⟩
    · rw [z,f.1] at q;cases q
    · rw [z,f.1] at q;cases q
    · exact kk o q
  | false=>
    rcases (show SqT X.K H a xs from h) with (q | ⟨o,q⟩) | ⟨o,_,_,q,_⟩
    · rw [z,f.1] at q;cases q
    · rw [z,f.1] at q;cases q
    · exact kk o q
def Itz (K:PySem.W.Frag) (k1 k2:Bool) (a1 a2:Addr):It:=
  ⟨fun i H=>∃ xs ys x y,SqK K k1 H a1 xs /\ SqK K k2 H a2 ys /\ xs[i]? = some x /\ ys[i]? = some y,
   fun i H x H'=>∃ T u v,x = .ref T /\ H T = none /\ H' = upd H T (.tup [u,v]) /\ (∀ xs,SqK K k1 H a1 xs -> xs[i]? = some u) /\ ∀ ys,SqK K k2 H a2 ys -> ys[i]? = some v,
   fun i H=>∃ xs ys,SqK K k1 H a1 xs /\ SqK K k2 H a2 ys /\ (xs.length <= i \/ ys.length <= i)⟩
theorem VO {P:Program} {w:World} {K:PySem.W.Frag} {elts:List Expr} {kk:Nat} {pos:Pos} {k1 k2:Bool} {a1 a2 z TI TO i1 i2:Addr} (N:XB z TI TO i1 i2) :
    vf P w K (.Tuple elts kk pos) (Itz K k1 k2 a1 a2) [z,TI,TO,i1,i2] z (fun i h=>Zr k1 k2 h z TI TO i1 i2 a1 a2 i) where
  mem:=by simp
  obj:=fun i h Z b hb=>by
    obtain ⟨a,b',q⟩:=Z.to
    have e1:=Z.r1.obj
    have e2:=Z.r2.obj
    simp only [List.mem_cons,List.not_mem_nil,or_false] at hb
    rcases hb with r | r | r | r | r
    · subst r;exact ⟨_,Z.zz,fun v q=>nomatch q⟩
    · subst r;exact ⟨_,Z.ti,fun v q=>nomatch q⟩
    · subst r;exact ⟨_,q,fun v q=>nomatch q⟩
    · subst r;obtain ⟨o,e,_,d⟩:=e1;exact ⟨o,e,d⟩
    · subst r;obtain ⟨o,e,_,d⟩:=e2;exact ⟨o,e,d⟩
  keep:=fun i h h' Z k=>by
    obtain ⟨a,b',q⟩:=Z.to
    exact ⟨k _ (by simp) _ Z.zz,k _ (by simp) _ Z.ti,⟨a,b',k _ (by simp) _ q⟩,Z.r1.at fun o e=>k _ (by simp) o e,Z.r2.at fun o e=>k _ (by simp) o e⟩
  item:=by
    intro X hP hw hK hc i pins s σ H E I hf Z hg
    subst hP hw hK
    obtain ⟨xs,ys,x,y,hq1,hq2,hx,hy⟩:=hg
    obtain ⟨its1,rv1,p1,hz1⟩:=I.seqK hq1
    obtain ⟨its2,rv2,p2,hz2⟩:=I.seqK hq2
    obtain ⟨u1,hu1,ru1⟩:=rv1.get hx
    obtain ⟨u2,hu2,ru2⟩:=rv2.get hy
    have sub:∀ b ∈ [z,TO,i1,i2],b ∈ [z,TI,TO,i1,i2]:=fun b hb=>by
      simp only [List.mem_cons,List.not_mem_nil,or_false] at hb ⊢
      rcases hb with r | r | r | r <;> simp [r]
    refine XD N Z p1 p2 (fun b hb=>hq1.ne_fp I (hf b (sub b hb))) (fun b hb=>hq2.ne_fp I (hf b (sub b hb))) (by simpa using hu1) (by simpa using hu2) fun h1 zz ti to r1 r2 hT hsz hk=>?_
    refine ⟨_,rfl,wpAny_letOwnedTupleGo_zip zz fun h2 zz2 hs2=>?_⟩
    have zl:z < s.heap.objs.size:=Heap.lt_size Z.zz
    obtain ⟨ta,tb,to⟩:=to
    refine ⟨.ref s.heap.objs.size,upd H s.heap.objs.size (.tup [x,y]),?_,rfl,⟨_,x,y,rfl,I.hok.fresh (Nat.le_refl _),rfl,fun xs' h'=>by rw [I.seqK_inj h' hq1];exact hx,fun ys' h'=>by rw [I.seqK_inj h' hq2];exact hy⟩,
      ⟨zz2,hs2.extBut _ _ N.a ti,⟨ta,tb,hs2.extBut _ _ N.b to⟩,r1.at fun o e=>hs2.extBut _ o N.c e,r2.at fun o e=>hs2.extBut _ o N.d e⟩,fun b hb=>?_⟩
    · exact wA (s:=s) (h':=h2) (t':=s.toks) (ch:=[z,TO,i1,i2]) (its:=[u1,u2]) I (fun b hb=>hf b (sub b hb)) (Nat.le_refl _) (fun b o hb e=>hs2.extBut _ o (fun q=>hb (by simp [q])) (hk b o hb e)) (by rw [sizeLine_eq];exact (by decide:2 <= 16777216)) (.cons ru1 (.cons ru2 .nil))
        (TupX.by (hs2.extBut _ _ (Nat.ne_of_gt zl) hT))
    · have hb':b < s.heap.objs.size:=by
        have e1:=Z.r1.obj
        have e2:=Z.r2.obj
        obtain ⟨a,b',q⟩:=Z.to
        simp only [List.mem_cons,List.not_mem_nil,or_false] at hb
        rcases hb with r | r | r | r | r
        · subst r;exact zl
        · subst r;exact Heap.lt_size Z.ti
        · subst r;exact Heap.lt_size q
        · subst r;obtain ⟨o,e,_⟩:=e1;exact Heap.lt_size e
        · subst r;obtain ⟨o,e,_⟩:=e2;exact Heap.lt_size e
      rw [zi (Nat.ne_of_lt hb')]
      exact (hf b hb).1
  done:=by
    intro X hP hw hK hc i pins s σ H E I hf Z hg
    subst hP hw hK
    obtain ⟨xs,ys,hq1,hq2,hle⟩:=hg
    obtain ⟨its1,rv1,p1,hz1⟩:=I.seqK hq1
    obtain ⟨its2,rv2,p2,hz2⟩:=I.seqK hq2
    have sub:∀ b ∈ [z,TO,i1,i2],b ∈ [z,TI,TO,i1,i2]:=fun b hb=>by
      simp only [List.mem_cons,List.not_mem_nil,or_false] at hb ⊢
      rcases hb with r | r | r | r <;> simp [r]
    have tr:∀ b u,H b = some u -> b ∉ [z,TO,i1,i2]:=fun b u e hb=>by rw [(hf b (sub b hb)).1] at e;cases e
    refine VL (I.ok.hd hc) N Z p1 p2 (fun b hb=>hq1.ne_fp I (hf b (sub b hb))) (fun b hb=>hq2.ne_fp I (hf b (sub b hb))) ?_ fun h' hk=>⟨rfl,?_⟩
    · have l1:=rv1.length
      have l2:=rv2.length
      rcases hle with q | q
      · exact .inl (by simp;omega)
      · exact .inr (by simp;omega)
    · refine I.step (g':=s.gens) (d':=s.drawn) (t':=s.toks) (ch:=[z,TO,i1,i2]) (fun b hb=>?_) (fun b o _ _ hc e _=>hk b o hc e) (fun b o _ _ hc e _=>⟨o.slots,hk b o hc e⟩) (fun _ _ _ _ n=>n) (fun b o hc e=>⟨o,hk b o hc e⟩)
        (fun _ _ e=>e) (fun _ _ _ e=>e) (fun b ps e=>⟨#[],by rw [e];simp⟩) (fun m hm=>?_) (fun b u e=>?_) I.bare
      · obtain ⟨_,g1,_,g3,g4,g5⟩:=hf b (sub b hb)
        exact ⟨g3,g1,g4,g5⟩
      · obtain ⟨o,es,ep,ho,r⟩:=hm
        exact ⟨o,es,ep,hk _ o (fun z=>(hf _ (sub _ z)).2.1 rfl) ho,r⟩
      · refine (I.hok b u e).stay (fun c v hc q=>hk c v ?_ q) (fun _ q=>q) fun _ _ q=>q
        rcases hc with z | z
        · rw [z];exact tr b u e
        · exact tr c _ z
  self:=fun _ _ _ _ _ Z h=>wpAny_pyIter_zip Z.zz h
section
variable {X:Cx}
def zc6 (K:PySem.W.Frag) (ta:TA):TI:=fun σ H R=>ta σ H fun vs H1=>∃ k1 k2 a1 a2,vs = [.ref a1,.ref a2] /\ (∃ xs,SqK K k1 H1 a1 xs) /\ (∃ ys,SqK K k2 H1 a2 ys) /\ R (Itz K k1 k2 a1 a2) H1
theorem zbb {l m:Expr} {ta:TA} {p pos tp:Pos} {elts:List Expr} {kk:Nat} (hg:Gl X "zip") (hm:X.mg "zip" = none) (ha:PA X [l,m] ta) (hs:starEach [l,m] X.env = [(false,eval l X.env),(false,eval m X.env)]:=by rfl) (hs2:starEach [m] X.env = [(false,eval m X.env)]:=by rfl) :
    PI X (.Tuple elts kk tp) (.Call (.Name "zip" p) [l,m] [] pos) (zc6 X.K ta):=by
  intro pins s σ H R I h
  refine Call_ (jY I hg hm boot_zip (PyProof.Rows.callWith_type1 (thn (ha pos pins s σ H _ I h) fun us s1 ⟨vs,H1,I1,r1,q1⟩=>?_) (by rw [hs,hs2]) (by rw [hs2];rfl)))
  obtain ⟨k1,k2,a1,a2,e,⟨xs,hq1⟩,⟨ys,hq2⟩,q⟩:=q1
  subst e
  obtain ⟨u,u',rfl,ru,ru'⟩:=yG r1
  cases ru
  cases ru'
  obtain ⟨its1,rv1,p1,hz1⟩:=I1.seqK hq1
  obtain ⟨its2,rv2,p2,hz2⟩:=I1.seqK hq2
  refine VC p1 p2 fun h' Z hk hsz=>wpAny_pyIter_zip Z.zz ?_
  have I2:Inv X pins σ H1 { s1 with heap:=h' }:=I1.kept (t':=s1.toks) hk
  have N:XB (s1.heap.objs.size + 4) (s1.heap.objs.size + 2) (s1.heap.objs.size + 3) s1.heap.objs.size (s1.heap.objs.size + 1):=by
    constructor <;> (intro e;have e':(_:Nat) = _:=e;omega)
  refine ⟨s1.heap.objs.size + 4,_,_,_,H1,rfl,I2,VO N,Z,fun b hb=>?_,q⟩
  have hb':s1.heap.objs.size <= b:=by
    simp only [List.mem_cons,List.not_mem_nil,or_false] at hb
    rcases hb with r | r | r | r | r <;> (rw [r];first | exact Nat.le_add_right _ _ | exact Nat.le_refl _)
  exact I1.fpOk hb' (I1.hok.fresh hb')
end
def TyN (K:PySem.W.Frag) (H:Hp) (x:V) (T:String):Prop:=match x with
  | .non=>T = "NoneType"
  | .bl _=>T = "bool"
  | .int _=>T = "int"
  | .str _=>T = "str"
  | .ref a=>(T = "list" /\ ∃ xs,SqL K H a xs) \/ (T = "tuple" /\ ∃ xs,SqT K H a xs)
  | _=>False
def VP (T C:String):Bool:=T == C || (T == "bool" && C == "int")
def wy:List String:=["NoneType", "bool", "int", "str", "list", "tuple"]
def vD:List String:=["bool", "int", "str", "list", "tuple", "dict"]
theorem Xd {K:PySem.W.Frag}:∀ T ∈ wy,∀ C ∈ vD,PySem.W.kitOne K (.type T) (.type C) = some (VP T C):=by
  intro T hT C hC
  simp only [wy,vD,List.mem_cons,List.not_mem_nil,or_false] at hT hC
  rcases hT with rfl | rfl | rfl | rfl | rfl | rfl <;> rcases hC with rfl | rfl | rfl | rfl | rfl | rfl <;> kernel_rfl
theorem QB {K:PySem.W.Frag} {T:String} (hT:T ∈ wy):∀ {Cs:List String},(∀ C ∈ Cs,C ∈ vD) -> PySem.W.kitAny K (.type T) (Cs.map Value.type) = some (Cs.any fun C=>VP T C)
  | [],_=>rfl
  | C :: r,h=>by
    have ih:=QB (K:=K) hT (Cs:=r) fun C' hC=>h C' (List.mem_cons_of_mem _ hC)
    show (match PySem.W.kitOne K (.type T) (.type C) with | some true=>some true | some false=>PySem.W.kitAny K (.type T) (r.map Value.type) | none=>none) = _
    rw [Xd T hT C (h C List.mem_cons_self),List.any_cons]
    cases VP T C with
    | true=>rfl
    | false=>rw [ih];rfl
theorem TyN.mem {K:PySem.W.Frag} {H:Hp} {x:V} {T:String} (h:TyN K H x T):T ∈ wy:=by
  cases x with
  | non=>cases (show T = _ from h);decide
  | bl _=>cases (show T = _ from h);decide
  | int _=>cases (show T = _ from h);decide
  | str _=>cases (show T = _ from h);decide
  | ref a=>rcases (show _ \/ _ from h) with ⟨e,_⟩ | ⟨e,_⟩ <;> (subst e;decide)
  | _=>exact (show False from h).elim
section
variable {X:Cx} {pins:List (Addr × Obj)} {σ:St} {H:Hp} {s:Shared}
theorem Xb {x:V} {u:Value} {T:String} (I:Inv X pins σ H s) (rx:RelV x u) (ty:TyN X.K H x T):∃ P:Heap -> Prop,P s.heap /\ PySem.W.KitX X.K u (.type T) P /\ u ≠ .builtin "__main__.__loader__#opaque" :=by
  cases x with
  | non=>cases (show u = Value.none from rx);cases (show T = _ from ty);exact ⟨_,True.intro,PySem.W.kitx_none,fun z=>nomatch z⟩
  | bl y=>cases (show u = Value.bool y from rx);cases (show T = _ from ty);exact ⟨_,True.intro,PySem.W.kitx_bool,fun z=>nomatch z⟩
  | int i=>obtain ⟨t,q⟩:=(show ∃ t,u = Value.int i t from rx);cases q;cases (show T = _ from ty);exact ⟨_,True.intro,PySem.W.kitx_int,fun z=>nomatch z⟩
  | str y=>obtain ⟨t,q⟩:=(show ∃ t,u = Value.str y t from rx);cases q;cases (show T = _ from ty);exact ⟨_,True.intro,PySem.W.kitx_str,fun z=>nomatch z⟩
  | ref a=>
    cases (show u = Value.ref a from rx)
    rcases (show _ \/ _ from ty) with ⟨e,xs,hx⟩ | ⟨e,xs,hx⟩
    · subst e
      obtain ⟨its,r,⟨o,n,e1,e2,_⟩,_⟩:=I.list hx
      exact ⟨_,⟨o,e1,e2⟩,PySem.W.kitx_list,fun z=>nomatch z⟩
    · subst e
      obtain ⟨its,r,⟨o,e1,e2,_⟩,_⟩:=I.tuple hx
      exact ⟨_,⟨o,e1,e2⟩,PySem.W.kitx_tuple,fun z=>nomatch z⟩
  | _=>exact (show False from ty).elim
end
section
variable {X:Cx}
theorem Jx:∀ {Cs:List String} {us:List Value},Vals (Cs.map V.ty) us -> us = Cs.map Value.type
  | [],us,r=>by cases r;rfl
  | C :: r,us,h=>by
    cases h with
    | cons h1 h2=>rw [Jx h2,show _ = Value.type C from h1];rfl
inductive yw (K:PySem.W.Frag) (xs:List V) (H:Hp) (Q:VK):Prop
  | mk (x T C:_) (_:xs = [x,.ty C]) (_:TyN K H x T) (_:C ∈ vD) (_:Q (.bl (VP T C)) H):yw K xs H Q
theorem jC:ja X (.builtin "isinstance") (yw X.K):=by
  intro pins s σ H xs us Q I r h
  obtain ⟨x,T,C,rfl,ty,hC,q⟩:=h
  obtain ⟨u,w',rfl,ru,rw'⟩:=yG r
  cases (show w' = Value.type C from rw')
  obtain ⟨P,hP,Z,hn⟩:=Xb I ru ty
  exact PySem.W.kia_one Z I.kIn hP (Xd T ty.mem C hC) hn fun tk=>⟨.bl _,H,I.tok tk,rfl,q⟩
inductive wq (K:PySem.W.Frag) (xs:List V) (H:Hp) (Q:VK):Prop
  | mk (x:V) (T:String) (p:Addr) (Cs:List String) (_:xs = [x,.ref p]) (_:TyN K H x T) (_:H p = some (.tup (Cs.map V.ty))) (_:(∀ C ∈ Cs,C ∈ vD)) (_:Q (.bl (Cs.any fun C=>VP T C)) H):wq K xs H Q
theorem Zg:ja X (.builtin "isinstance") (wq X.K):=by
  intro pins s σ H xs us Q I r h
  obtain ⟨x,T,p,Cs,rfl,ty,hp,hC,q⟩:=h
  obtain ⟨u,w',rfl,ru,rw'⟩:=yG r
  cases (show w' = Value.ref p from rw')
  obtain ⟨P,hP,Z,hn⟩:=Xb I ru ty
  obtain ⟨its,r',⟨o,e1,e2,n,e3⟩,_⟩:=I.tuple (SqT.of hp)
  obtain ⟨c,dd,dt,sl⟩:=o
  have e2:c = .type "tuple" :=e2
  have e3:dt = .seq its.toArray n:=e3
  subst e2 e3
  rw [Jx r'] at e1
  exact PySem.W.kia_tup Z I.kIn hP e1 (QB ty.mem hC) hn fun tk=>⟨.bl _,H,I.tok tk,rfl,q⟩
end
inductive Dat where
  | non | bl (b:Bool) | int (i:Int) | str (x:Str) | lst (ds:List Dat) | tup (ds:List Dat)
mutual
def Rep (K:PySem.W.Frag) (H:Hp):Dat -> V -> Prop
  | .non,v=>v = .non
  | .bl b,v=>v = .bl b
  | .int i,v=>v = .int i
  | .str x,v=>v = .str x
  | .lst ds,v=>∃ a xs,v = .ref a /\ SqL K H a xs /\ Reps K H ds xs
  | .tup ds,v=>∃ a xs,v = .ref a /\ SqT K H a xs /\ Reps K H ds xs
def Reps (K:PySem.W.Frag) (H:Hp):List Dat -> List V -> Prop
  | [],xs=>xs = []
  | d :: ds,xs=>∃ x r,xs = x :: r /\ Rep K H d x /\ Reps K H ds r
end
theorem Same.sqT {K:PySem.W.Frag} {H H':Hp} {a:Addr} {xs:List V} (e:Same H H') (h:SqT K H a xs):SqT K H' a xs:=by
  rcases h with (h | ⟨o,h⟩) | h
  · exact .inl (.inl (e _ _ h))
  · exact .inl (.inr ⟨o,e _ _ h⟩)
  · exact .inr h
mutual
theorem Rep.same {K:PySem.W.Frag} {H H':Hp} (e:Same H H'):∀ {d:Dat} {v:V},Rep K H d v -> Rep K H' d v
  | .non,_,h=>h
  | .bl _,_,h=>h
  | .int _,_,h=>h
  | .str _,_,h=>h
  | .lst _,_,h=>by
    obtain ⟨a,xs,e1,e2,e3⟩:=h
    exact ⟨a,xs,e1,e.seq e2,Reps.same e e3⟩
  | .tup _,_,h=>by
    obtain ⟨a,xs,e1,e2,e3⟩:=h
    exact ⟨a,xs,e1,e.sqT e2,Reps.same e e3⟩
theorem Reps.same {K:PySem.W.Frag} {H H':Hp} (e:Same H H'):∀ {ds:List Dat} {xs:List V},Reps K H ds xs -> Reps K H' ds xs
  | [],_,h=>h
  | _ :: _,_,h=>by
    obtain ⟨x,r,e1,e2,e3⟩:=h
    exact ⟨x,r,e1,Rep.same e e2,Reps.same e e3⟩
end
theorem Reps.len {K:PySem.W.Frag} {H:Hp}:∀ {ds:List Dat} {xs:List V},Reps K H ds xs -> xs.length = ds.length
  | [],_,h=>by rw [show _ = _ from h];rfl
  | _ :: _,_,h=>by
    obtain ⟨x,r,e1,e2,e3⟩:=h
    rw [e1,List.length_cons,List.length_cons,Reps.len e3]
theorem Reps.get {K:PySem.W.Frag} {H:Hp}:∀ {ds:List Dat} {xs:List V} {i:Nat} {x:V},Reps K H ds xs -> xs[i]? = some x -> ∃ d,ds[i]? = some d /\ Rep K H d x
  | [],_,_,_,h,e=>by rw [show _ = _ from h] at e;simp at e
  | d :: ds,_,i,x,h,e=>by
    obtain ⟨y,r,e1,e2,e3⟩:=h
    subst e1
    cases i with
    | zero=>simp at e;subst e;exact ⟨d,rfl,e2⟩
    | succ i=>
      obtain ⟨d',q1,q2⟩:=Reps.get (i:=i) e3 (by simpa using e)
      exact ⟨d',by simpa using q1,q2⟩
theorem zc {H:Hp} {a:Addr} {o:HO} (h:H a = none):Same H (upd H a o):=fun b u e=>by rw [zi (zf e h)];exact e
section
variable {X:Cx}
end
section
variable {X:Cx}
end
structure Dfn (P:Program) (w:World) (K:PySem.W.Frag) (mg:Str -> Option Value) (base:Heap) (x:Str) (k:Nat) (ps:List Str) (sp:Sp):Prop where
  ex:∃ f fd,qA P w K mg base CX0 k f fd ps sp /\ mg x = some (.ref f) /\ PySem.W.keepIn K (.ref f) = true /\ Binds K fd ps []
section
variable {X:Cx} {x:Str} {k:Nat} {ps:List Str} {sp:Sp} {p pos:Pos} {e:Expr} {es:List Expr} {t:TA}
theorem zj (D:Dfn X.prog X.w X.K X.mg X.base x k ps sp) (hr:Room k X.A) (hg:Gl X x) (ha:PA X (e :: es) t) (hd:(x == ("__debug__" : Str)) = false:=by decide)
    (hs:starEach (e :: es) X.env = (false,eval e X.env) :: starEach es X.env:=by rfl) (hpl:(backTo pos (starEach es X.env)).any (·.1) = false:=by rfl):PE X (.Call (.Name x p) (e :: es) [] pos) (zao sp [] E0 t):=by
  obtain ⟨f,fd,F,hm,hk,hb⟩:=D.ex
  exact YF F hr hg hm hk hb .nil zci ha hd hs hpl
end
theorem ifT {b:Bool} {A B:Prop} (h:b = true) (q:A):if b = true then A else B:=by rw [if_pos h];exact q
theorem ifF {b:Bool} {A B:Prop} (h:b = false) (q:B):if b = true then A else B:=by rw [if_neg (by rw [h];exact Bool.false_ne_true)];exact q
theorem WQ {K:PySem.W.Frag} {k1 k2:Bool} {a1 a2:Addr} {xs ys:List V} {g:TG} {tf:TT} {te:TE} {σ0:St} {n:Nat} {R:List V -> Hp -> Prop} {H:Hp} (Pv:Nat -> List V -> Hp -> Prop) (h0:Pv 0 [] H)
    (h1:∀ i zs H,Pv i zs H -> SqK K k1 H a1 xs /\ SqK K k2 H a2 ys)
    (hs:∀ i x y zs H T,xs[i]? = some x -> ys[i]? = some y -> Pv i zs H -> H T = none -> g (.ref T) σ0 (upd H T (.tup [x,y])) fun σ4 H4=>σ4.drop n = σ0.drop n /\ tf σ4 H4 fun b H5=>
      if b = true then te σ4 H5 fun v H6=>zs.length < sizeLine /\ Pv (i + 1) (zs ++ [v]) H6 else Pv (i + 1) zs H5)
    (hd:∀ zs H,Pv (min xs.length ys.length) zs H -> zs.length <= sizeLine /\ R zs H) :
    ∃ W:Nat -> Nat -> List V -> Hp -> Prop,(∃ m,W 0 m [] H) /\ ∀ i m zs H2,W i m zs H2 ->
      ((Itz K k1 k2 a1 a2).stop i H2 /\ zs.length <= sizeLine /\ R zs H2) \/
      ((Itz K k1 k2 a1 a2).go i H2 /\ ∃ N:List V -> Hp -> Prop,(∀ zs H',N zs H' -> ∃ m',m' < m /\ W (i + 1) m' zs H') /\ ∀ x H3,(Itz K k1 k2 a1 a2).yld i H2 x H3 -> g x σ0 H3 fun σ4 H4=>σ4.drop n = σ0.drop n /\ tf σ4 H4 fun b H5=>
        if b = true then te σ4 H5 fun y H6=>zs.length < sizeLine /\ N (zs ++ [y]) H6 else N zs H5):=by
  refine ⟨fun i m zs H2=>m = min xs.length ys.length - i /\ i <= min xs.length ys.length /\ Pv i zs H2,⟨_,rfl,Nat.zero_le _,h0⟩,?_⟩
  rintro i m zs H2 ⟨rfl,hi,p⟩
  obtain ⟨q1,q2⟩:=h1 i zs H2 p
  by_cases hlt:i < min xs.length ys.length
  · have l1:i < xs.length:=by omega
    have l2:i < ys.length:=by omega
    refine .inr ⟨⟨xs,ys,xs[i],ys[i],q1,q2,by simp [l1],by simp [l2]⟩,Pv (i + 1),fun zs' H' p'=>⟨_,by omega,rfl,hlt,p'⟩,fun x H3 y=>?_⟩
    obtain ⟨T,u,v,e1,hT,e2,y1,y2⟩:=y
    subst e1 e2
    exact hs i u v zs H2 T (y1 xs q1) (y2 ys q2) p hT
  · have e:i = min xs.length ys.length:=by omega
    subst e
    obtain ⟨z1,z2⟩:=hd zs H2 p
    exact .inl ⟨⟨xs,ys,q1,q2,by omega⟩,z1,z2⟩
theorem w8 {lo:Int} {N n:Nat} {g:TG} {tf:TT} {te:TE} {σ0:St} {R:List V -> Hp -> Prop} {H:Hp} (Pv:Nat -> List V -> Hp -> Prop) (h0:Pv 0 [] H)
    (hs:∀ i zs H,i < N -> Pv i zs H -> g (.int (lo + i)) σ0 H fun σ4 H4=>σ4.drop n = σ0.drop n /\ tf σ4 H4 fun b H5=>if b = true then te σ4 H5 fun v H6=>zs.length < sizeLine /\ Pv (i + 1) (zs ++ [v]) H6 else Pv (i + 1) zs H5)
    (hd:∀ zs H,Pv N zs H -> zs.length <= sizeLine /\ R zs H) :
    ∃ W:Nat -> Nat -> List V -> Hp -> Prop,(∃ m,W 0 m [] H) /\ ∀ i m zs H2,W i m zs H2 ->
      ((Itr lo N).stop i H2 /\ zs.length <= sizeLine /\ R zs H2) \/
      ((Itr lo N).go i H2 /\ ∃ M:List V -> Hp -> Prop,(∀ zs H',M zs H' -> ∃ m',m' < m /\ W (i + 1) m' zs H') /\ ∀ x H3,(Itr lo N).yld i H2 x H3 -> g x σ0 H3 fun σ4 H4=>σ4.drop n = σ0.drop n /\ tf σ4 H4 fun b H5=>
        if b = true then te σ4 H5 fun y H6=>zs.length < sizeLine /\ M (zs ++ [y]) H6 else M zs H5):=by
  refine ⟨fun i m zs H2=>m = N - i /\ i <= N /\ Pv i zs H2,⟨_,rfl,Nat.zero_le _,h0⟩,?_⟩
  rintro i m zs H2 ⟨rfl,hi,p⟩
  by_cases hlt:i < N
  · refine .inr ⟨hlt,Pv (i + 1),fun zs' H' p'=>⟨_,by omega,rfl,hlt,p'⟩,fun x H3 y=>?_⟩
    obtain ⟨e1,e2⟩:=y
    subst e1 e2
    exact hs i zs _ hlt p
  · have e:i = N:=by omega
    subst e
    obtain ⟨z1,z2⟩:=hd zs H2 p
    exact .inl ⟨Nat.le_refl _,z1,z2⟩
def xK (sn on:List (Str × NameKind)) (N own fr:List Str) (js:List Nat):Bool:=
  wm sn on N fr js && own.all (fun x=>sn.lookup x == some .local) && decide (own ++ fr).Nodup
theorem xf {sn on:List (Str × NameKind)} {N own fr:List Str} {js:List Nat} (h:xK sn on N own fr js = true):wm sn on N fr js = true /\ (∀ x ∈ own,sn.lookup x = some .local) /\ (own ++ fr).Nodup:=by
  unfold xK at h
  rw [Bool.and_eq_true,Bool.and_eq_true,List.all_eq_true] at h
  exact ⟨h.1.1,fun x hx=>by simpa using h.1.2 x hx,of_decide_eq_true h.2⟩
section
variable {X:Cx} {elt iter:Expr} {ifs:List Expr} {scope:Scope} {pos px py tp:Pos} {wi:TI} {tf:TT} {te:TE} {x y:Str} {kk:Nat}
theorem xj {N':List Str} {C:Addr} {s:Shared} {H:Hp} {ex:List Addr} {i:Nat} (hl:scope.names.lookup x = some .local) (nd:N'.Nodup) (hi:N'[i]? = some x):PG (zF X N' scope C s H ex) (.Name x px) (jR i):=
  zn (X:=zF X N' scope C s H ex) nd hi (.inl (lookup_relabel_local hl)) (.inr (lookup_relabel_local hl))
theorem jd (fr:List Str) (js:List Nat) (hc:X.calm = true) (hk:scope.kind = .function) (hb:xK scope.names X.env.scope.names X.N [x] fr js = true) (hi:PI X (.Name x px) iter wi)
    (hf:∀ C s H ex,PF (zF X ([x] ++ fr) scope C s H ex) ifs tf) (he:∀ C s H ex,PE (zF X ([x] ++ fr) scope C s H ex) elt te)
    (hs:∀ x,foldedSetIterable iter X.env x = pure x:=by intro _;rfl):PE X (.ListComp elt [⟨.Name x px,iter,ifs,0⟩] scope pos) (tLC wi 1 js (jR 0) tf te):=by
  obtain ⟨h1,h2,h3⟩:=xf hb
  exact zaB [x] fr js hc hk h1 hi (fun C s H ex=>xj (h2 x (by simp)) h3 rfl) hf he hs
theorem jF (fr:List Str) (js:List Nat) (hc:X.calm = true) (hk:scope.kind = .function) (hb:xK scope.names X.env.scope.names X.N [x,y] fr js = true) (hi:PI X (.Tuple [.Name x px,.Name y py] kk tp) iter wi)
    (hf:∀ C s H ex,PF (zF X ([x,y] ++ fr) scope C s H ex) ifs tf) (he:∀ C s H ex,PE (zF X ([x,y] ++ fr) scope C s H ex) elt te)
    (hs:∀ x,foldedSetIterable iter X.env x = pure x:=by intro _;rfl):PE X (.ListComp elt [⟨.Tuple [.Name x px,.Name y py] kk tp,iter,ifs,0⟩] scope pos) (tLC wi 2 js (Vw X.K 2 (xX (jR 0) (xX (jR 1) WY))) tf te):=by
  obtain ⟨h1,h2,h3⟩:=xf hb
  refine zaB [x,y] fr js hc hk h1 hi (fun C s H ex=>?_) hf he hs
  exact qx (X:=zF X ([x,y] ++ fr) scope C s H ex) hc (zq (xj (h2 x (by simp)) h3 rfl) (zq (xj (h2 y (by simp)) h3 rfl) zS))
end
def tWk (t:TS):TS:=fun D σ H=>∃ J:St -> Hp -> Prop,t { D with nx:=J } σ H /\ ∀ σ' H',J σ' H' -> D.nx σ' H'
theorem xQ {X:Cx} {st:Stmt} {t:TS} (h:PS X st t):PS X st (tWk t):=by
  intro pins s σ H D I hw
  obtain ⟨J,q1,q2⟩:=hw
  refine thn (h pins s σ H _ I q1) fun f s1 q=>?_
  cases f with
  | next=>obtain ⟨σ',H',I',z⟩:=q;exact ⟨σ',H',I',q2 σ' H' z⟩
  | brk=>exact q
  | cont=>exact q
  | ret u=>exact q
def Dat.ok:Nat -> Dat -> Prop
  | n + 1,.lst ds=>ds.length <= 1000000 /\ ∀ d ∈ ds,Dat.ok n d
  | n + 1,.tup ds=>ds.length <= 1000000 /\ ∀ d ∈ ds,Dat.ok n d
  | 0,.lst _=>False
  | 0,.tup _=>False
  | _,_=>True
def Dat.tyN:Dat -> String
  | .non=> "NoneType" | .bl _=> "bool" | .int _=> "int" | .str _=> "str" | .lst _=> "list" | .tup _=> "tuple"
theorem Rep.ty {K:PySem.W.Frag} {H:Hp} {d:Dat} {v:V} (h:Rep K H d v):TyN K H v d.tyN:=by
  cases d with
  | non=>rw [show v = _ from h];exact rfl
  | bl b=>rw [show v = _ from h];exact rfl
  | int b=>rw [show v = _ from h];exact rfl
  | str b=>rw [show v = _ from h];exact rfl
  | lst ds=>obtain ⟨a,xs,rfl,e,_⟩:=h;exact .inl ⟨rfl,xs,e⟩
  | tup ds=>obtain ⟨a,xs,rfl,e,_⟩:=h;exact .inr ⟨rfl,xs,e⟩
mutual
def Dat.py:Dat -> PyData
  | .non=>.none
  | .bl b=>.bool b
  | .int i=>.int i
  | .str x=>.str x
  | .lst ds=>.list (Dat.pys ds)
  | .tup ds=>.tuple (Dat.pys ds)
def Dat.pys:List Dat -> List PyData
  | []=>[]
  | d :: ds=>d.py :: Dat.pys ds
end
mutual
def Dat.shw:Dat -> Bool
  | .int i=>decide (i.natAbs < 1000000000000)
  | .str x=>x.cps.toList.all fun c=>decide (c < 1000000)
  | .lst ds=>Dat.shws ds
  | .tup ds=>Dat.shws ds
  | _=>true
def Dat.shws:List Dat -> Bool
  | []=>true
  | d :: ds=>d.shw && Dat.shws ds
end
mutual
def Dat.blk:Dat -> Nat
  | .str x=>x.cps.size
  | .lst ds=>Dat.blks ds
  | .tup ds=>Dat.blks ds
  | _=>0
def Dat.blks:List Dat -> Nat
  | []=>0
  | d :: ds=>d.blk + 1 + Dat.blks ds
end
mutual
theorem Dat.py_blk:∀ d:Dat,d.py.bulk = d.blk
  | .non=>rfl
  | .bl _=>rfl
  | .int _=>rfl
  | .str _=>rfl
  | .lst ds=>Dat.pys_blk ds
  | .tup ds=>Dat.pys_blk ds
theorem Dat.pys_blk:∀ ds:List Dat,PyData.bulkAll (Dat.pys ds) = Dat.blks ds
  | []=>rfl
  | d :: ds=>by
    show PyData.bulk d.py + 1 + PyData.bulkAll (Dat.pys ds) = d.blk + 1 + Dat.blks ds
    rw [Dat.py_blk d,Dat.pys_blk ds]
end
theorem J6 {n:Nat} (h:n < 1000000000000):n.log2 < 1920:=by
  by_cases h0:n = 0
  · rw [h0];decide
  · exact Nat.lt_trans ((Nat.log2_lt h0).mpr (Nat.lt_trans h (by decide:1000000000000 < 2 ^ 40))) (by decide)
mutual
theorem Dat.py_short:∀ d:Dat,d.shw = true -> d.py.leavesShort 13 = true /\ d.py.showable = true /\ d.py.hasDict = false
  | .non,_=>⟨rfl,rfl,rfl⟩
  | .bl _,_=>⟨rfl,rfl,rfl⟩
  | .int i,h=>by
    have h':i.natAbs < 1000000000000:=of_decide_eq_true h
    refine ⟨decide_eq_true (PyData.shown_int_le h'),decide_eq_true (J6 h'),rfl⟩
  | .str x,h=>by
    refine ⟨?_,rfl,rfl⟩
    have h':(x.cps.toList.all fun c=>decide (c < 1000000)) = true:=h
    show (x.cps.toList.all fun c=>decide (c < 16 ^ 8)) = true
    rw [List.all_eq_true] at h' ⊢
    intro c hc
    have:=of_decide_eq_true (h' c hc)
    exact decide_eq_true (by omega)
  | .lst ds,h=>Dat.pys_short ds h
  | .tup ds,h=>Dat.pys_short ds h
theorem Dat.pys_short:∀ ds:List Dat,Dat.shws ds = true -> PyData.leavesShortAll 13 (Dat.pys ds) = true /\ PyData.showableAll (Dat.pys ds) = true /\ PyData.hasDictAll (Dat.pys ds) = false
  | [],_=>⟨rfl,rfl,rfl⟩
  | d :: ds,h=>by
    have h':(d.shw && Dat.shws ds) = true:=h
    rw [Bool.and_eq_true] at h'
    obtain ⟨a1,a2,a3⟩:=Dat.py_short d h'.1
    obtain ⟨b1,b2,b3⟩:=Dat.pys_short ds h'.2
    refine ⟨?_,?_,?_⟩
    · show (PyData.leavesShort 13 d.py && PyData.leavesShortAll 13 (Dat.pys ds)) = true
      rw [a1,b1];rfl
    · show (PyData.showable d.py && PyData.showableAll (Dat.pys ds)) = true
      rw [a2,b2];rfl
    · show (PyData.hasDict d.py || PyData.hasDictAll (Dat.pys ds)) = false
      rw [a3,b3];rfl
end
mutual
theorem Rep.reads {X:Cx} {pins:List (Addr × Obj)} {σ:St} {H:Hp} {s:Shared} (I:Inv X pins σ H s):∀ {d:Dat} {v:V} {u:Value},Rep X.K H d v -> RelV v u -> ∃ as,Reads s.heap u d.py as
  | .non,v,u,h,r=>by cases (show v = _ from h);cases (show u = _ from r);exact ⟨_,.none⟩
  | .bl b,v,u,h,r=>by cases (show v = _ from h);cases (show u = _ from r);exact ⟨_,.bool b⟩
  | .int i,v,u,h,r=>by cases (show v = _ from h);obtain ⟨t,rfl⟩:=r;exact ⟨_,.int i t⟩
  | .str x,v,u,h,r=>by cases (show v = _ from h);obtain ⟨t,rfl⟩:=r;exact ⟨_,.str x t⟩
  | .lst ds,v,u,h,r=>by
    obtain ⟨a,xs,rfl,hx,hr⟩:=h
    cases (show u = _ from r)
    obtain ⟨its,rv,pl,_⟩:=I.list hx
    obtain ⟨o,e,c,n,dd⟩:=pl.isList
    obtain ⟨as,q⟩:=Reps.reads I hr rv
    exact ⟨_,.list e c dd (by simpa using q)⟩
  | .tup ds,v,u,h,r=>by
    obtain ⟨a,xs,rfl,hx,hr⟩:=h
    cases (show u = _ from r)
    obtain ⟨its,rv,⟨o,e,c,n,dd⟩,_⟩:=I.tuple hx
    obtain ⟨as,q⟩:=Reps.reads I hr rv
    exact ⟨_,.tuple e c dd (by simpa using q)⟩
theorem Reps.reads {X:Cx} {pins:List (Addr × Obj)} {σ:St} {H:Hp} {s:Shared} (I:Inv X pins σ H s):∀ {ds:List Dat} {xs:List V} {us:List Value},Reps X.K H ds xs -> Vals xs us -> ∃ as,ReadsAll s.heap us (Dat.pys ds) as
  | [],xs,us,h,r=>by cases (show xs = _ from h);cases r;exact ⟨_,.nil⟩
  | d :: ds,xs,us,h,r=>by
    obtain ⟨x,r',rfl,h1,h2⟩:=h
    cases r with
    | cons r1 r2=>
      obtain ⟨as,q1⟩:=Rep.reads I h1 r1
      obtain ⟨bs,q2⟩:=Reps.reads I h2 r2
      exact ⟨_,.cons q1 q2⟩
end
section
variable {X:Cx}
inductive wn (K:PySem.W.Frag) (xs:List V) (H:Hp) (Q:VK):Prop
  | mk (p:Addr) (ns:List Int) (_:xs = [.ref p]) (_:SqL K H p (ns.map V.int)) (_:(∀ z ∈ ns,0 <= z /\ z <= 1000000)) (_:ns.length <= 100000) (_:Q (.int ns.sum) H):wn K xs H Q
theorem VD (hc:X.calm = true):ja X (.builtin "sum") (wn X.K):=by
  intro pins s σ H xs us Q I r h
  obtain ⟨p,ns,rfl,hq,hz,hn,q⟩:=h
  obtain ⟨u,rfl,ru⟩:=j5 r
  cases (show u = _ from ru)
  obtain ⟨its,rv,pl,_⟩:=I.list hq
  have hl:=pl.isList
  have hpl:p ≠ s.heap.objs.size:=by
    obtain ⟨o,e,_⟩:=hl
    exact Nat.ne_of_lt (Heap.lt_size e)
  have hlen:its.length = ns.length:=by have:=rv.length;rw [List.length_map] at this;omega
  have hps:∀ j,j <= ns.length -> 0 <= (ns.take j).sum /\ (ns.take j).sum <= 1000000 * (j:Int):=by
    intro j
    induction j with
    | zero=>intro _;simp
    | succ j ih=>
      intro hj
      have:=ih (by omega)
      have e:ns.take (j + 1) = ns.take j ++ [ns[j]'(by omega)]:=by rw [List.take_append_getElem]
      have b:=hz (ns[j]'(by omega)) (List.getElem_mem _)
      rw [e,List.sum_append]
      simp only [List.sum_cons,List.sum_nil]
      constructor
      · omega
      · have:(1000000:Int) * ((j + 1:Nat):Int) = 1000000 * (j:Int) + 1000000:=by omega
        omega
  refine call_sum_walk (wpAny_pyIter_list hl ?_)
  refine ⟨s.heap.objs.size,_,_,_,_,_,fun i=>ns.getD i 0,rfl,Walks.list (prog:=X.prog) (w:=X.w) (A:=X.A.in1) (I.ok.hd hc) _ p hpl its.toArray,⟨⟨_,Heap.get?_push_size _ rfl,rfl,rfl⟩,hl.push _⟩,fun b hb=>?_,fun i v hP=>?_,fun j hj=>?_,fun h' tk t' hk=>?_⟩
  · have hz':(s.heap.push { cls:=.type "list_iterator",data:=.fields #[.ref p,.int 0 0] }).objs.size = s.heap.objs.size + 1:=Heap.size_push ..
    show b < (s.heap.push _).objs.size
    rw [hz']
    rcases List.mem_cons.mp hb with z | z
    · rw [z];exact Nat.lt_succ_self _
    · rw [List.mem_singleton.mp z]
      obtain ⟨o,e,_⟩:=hl
      exact Nat.lt_succ_of_lt (Heap.lt_size e)
  · have e1:its[i]? = some v:=by simpa using hP
    have hi:i < ns.length:=by have h1:=(List.getElem?_eq_some_iff.mp e1).1;omega
    obtain ⟨u',eu,ru'⟩:=rv.get (i:=i) (x:=.int ns[i]) (by simp [hi])
    rw [e1] at eu;cases eu
    obtain ⟨t,e⟩:=ru'
    exact ⟨t,by rw [e];simp [hi]⟩
  · have hj':j < ns.length:=by simp only [List.size_toArray] at hj;omega
    have a1:=hz ns[j] (List.getElem_mem hj')
    have a2:=hps (j + 1) (by omega)
    have e63:(2:Int) ^ 63 = 9223372036854775808:=by decide
    refine ⟨?_,?_⟩
    · show InLong (ns.getD j 0)
      rw [show ns.getD j 0 = ns[j] by simp [hj']]
      unfold InLong
      rw [e63];omega
    · rw [preSum_getD]
      unfold InLong
      rw [e63]
      have:((j + 1:Nat):Int) <= 100000:=by omega
      omega
  · have k:∀ b o,s.heap.get? b = some o -> h'.get? b = some o:=fun b o e=>hk b o (by simp;exact Nat.ne_of_lt (Heap.lt_size e)) (Heap.get?_push_of_some _ e)
    refine ⟨.int ns.sum,H,I.kept k,⟨t',?_⟩,q⟩
    rw [preSum_getD]
    have:ns.take its.toArray.size = ns:=by rw [List.size_toArray,hlen,List.take_length]
    rw [this]
end
section
variable {X:Cx}
end
section
variable {X:Cx} {tg:Expr}
end
section
variable {X:Cx}
inductive JR (x:V) (vs:List V) (H:Hp) (Q:VK):Prop
  | mk (l:Addr) (xs:List V) (i:Int) (y:V) (_:x = .ref l) (_:vs = [.int i,y]) (_:H l = some (.lst xs)) (_:0 <= i) (_:i < 2 ^ 62) (_:xs.length < sizeLine) (_:Q .non (upd H l (.lst (xs.take i.toNat ++ y :: xs.drop i.toNat)))):JR  x vs H Q
theorem Vo:MtM X "list.insert" JR:=by
  intro pins s σ H x vs v us Q I rx rv h
  obtain ⟨l,xs,i,y,rfl,rfl,hH,i0,i1,hz,q⟩:=h
  cases rx
  obtain ⟨u1,u2,rfl,r1,r2⟩:=yG rv
  obtain ⟨t,rfl⟩:=r1
  obtain ⟨z,its,n,r,hl,e⟩:=I.lstM hH
  have hlen:=r.length
  refine call_meets F.slot_list_insert ⟨_,e,rfl⟩ F.entry_list_insert (F.args_list_insert_3 _ _ _) (AutoListH.list_insert_list_int_val_1 l its.toArray n i t u2 ?_ (by rw [List.size_toArray];omega)) ⟨e,?_⟩
  · unfold Builtin.List.listFitsIndex
    simp
    omega
  refine ⟨.non,_,I.lset (its':=its.take i.toNat ++ u2 :: its.drop i.toNat) hH e ?_ ((r.take _).append (.cons r2 (r.drop _))) ?_,rfl,q⟩
  · show (have k:=if i < 0 then (i + ((its.toArray.size:Nat):Int)).toNat else min i.toNat its.toArray.size;(its.toArray.extract 0 k).push u2 ++ its.toArray.extract k) = _
    have hk:(if i < 0 then (i + ((its.toArray.size:Nat):Int)).toNat else min i.toNat its.toArray.size) = min i.toNat its.length:=by
      rw [if_neg (by omega),List.size_toArray]
    simp only [hk]
    apply Array.toList_inj.mp
    simp
    by_cases hle:i.toNat <= its.length
    · have h1:(its.drop i.toNat).take (its.length - i.toNat) = its.drop i.toNat:=List.take_of_length_le (by rw [List.length_drop];omega)
      rw [Nat.min_eq_left hle,h1]
    · have h1:its.length <= i.toNat:=by omega
      rw [Nat.min_eq_right h1,List.take_of_length_le h1,List.drop_of_length_le h1]
      simp
  · simp only [List.length_append,List.length_take,List.length_cons,List.length_drop]
    omega
variable {e st:Expr} {te:TE} {tk:TO} {pos p2:Pos}
end
theorem qH {K:PySem.W.Frag} {a:Addr} {xs:List V} {g:TG} {tf:TT} {te:TE} {σ0:St} {n:Nat} {R:List V -> Hp -> Prop} {H:Hp} (Pv:Nat -> List V -> Hp -> Prop) (h0:Pv 0 [] H)
    (h1:∀ i zs H,Pv i zs H -> SqL K H a xs)
    (hs:∀ i x zs H,xs[i]? = some x -> Pv i zs H -> g x σ0 H fun σ4 H4=>σ4.drop n = σ0.drop n /\ tf σ4 H4 fun b H5=>
      if b = true then te σ4 H5 fun v H6=>zs.length < sizeLine /\ Pv (i + 1) (zs ++ [v]) H6 else Pv (i + 1) zs H5)
    (hd:∀ zs H,Pv xs.length zs H -> zs.length <= sizeLine /\ R zs H) :
    ∃ W:Nat -> Nat -> List V -> Hp -> Prop,(∃ m,W 0 m [] H) /\ ∀ i m zs H2,W i m zs H2 ->
      ((Itl K a).stop i H2 /\ zs.length <= sizeLine /\ R zs H2) \/
      ((Itl K a).go i H2 /\ ∃ N:List V -> Hp -> Prop,(∀ zs H',N zs H' -> ∃ m',m' < m /\ W (i + 1) m' zs H') /\ ∀ x H3,(Itl K a).yld i H2 x H3 -> g x σ0 H3 fun σ4 H4=>σ4.drop n = σ0.drop n /\ tf σ4 H4 fun b H5=>
        if b = true then te σ4 H5 fun y H6=>zs.length < sizeLine /\ N (zs ++ [y]) H6 else N zs H5):=by
  refine ⟨fun i m zs H2=>m = xs.length - i /\ i <= xs.length /\ Pv i zs H2,⟨_,rfl,Nat.zero_le _,h0⟩,?_⟩
  rintro i m zs H2 ⟨rfl,hi,p⟩
  have q:=h1 i zs H2 p
  by_cases hlt:i < xs.length
  · refine .inr ⟨⟨xs,xs[i],q,by simp [hlt]⟩,Pv (i + 1),fun zs' H' p'=>⟨_,by omega,rfl,hlt,p'⟩,fun x H3 y=>?_⟩
    obtain ⟨e,y⟩:=y
    subst e
    exact hs i x zs _ (y xs q) p
  · have e:i = xs.length:=by omega
    subst e
    obtain ⟨z1,z2⟩:=hd zs H2 p
    exact .inl ⟨⟨xs,q,Nat.le_refl _⟩,z1,z2⟩
theorem jP {K:PySem.W.Frag} {a:Addr} {xs:List V} {g:TG} {tf:TT} {te:TE} {σ0:St} {n:Nat} {R:List V -> Hp -> Prop} {H:Hp} (Pv:Nat -> List V -> Hp -> Prop) (h0:Pv 0 [] H)
    (h1:∀ i zs H,Pv i zs H -> SqT K H a xs)
    (hs:∀ i x zs H,xs[i]? = some x -> Pv i zs H -> g x σ0 H fun σ4 H4=>σ4.drop n = σ0.drop n /\ tf σ4 H4 fun b H5=>
      if b = true then te σ4 H5 fun v H6=>zs.length < sizeLine /\ Pv (i + 1) (zs ++ [v]) H6 else Pv (i + 1) zs H5)
    (hd:∀ zs H,Pv xs.length zs H -> zs.length <= sizeLine /\ R zs H) :
    ∃ W:Nat -> Nat -> List V -> Hp -> Prop,(∃ m,W 0 m [] H) /\ ∀ i m zs H2,W i m zs H2 ->
      ((Itt K a).stop i H2 /\ zs.length <= sizeLine /\ R zs H2) \/
      ((Itt K a).go i H2 /\ ∃ N:List V -> Hp -> Prop,(∀ zs H',N zs H' -> ∃ m',m' < m /\ W (i + 1) m' zs H') /\ ∀ x H3,(Itt K a).yld i H2 x H3 -> g x σ0 H3 fun σ4 H4=>σ4.drop n = σ0.drop n /\ tf σ4 H4 fun b H5=>
        if b = true then te σ4 H5 fun y H6=>zs.length < sizeLine /\ N (zs ++ [y]) H6 else N zs H5):=by
  refine ⟨fun i m zs H2=>m = xs.length - i /\ i <= xs.length /\ Pv i zs H2,⟨_,rfl,Nat.zero_le _,h0⟩,?_⟩
  rintro i m zs H2 ⟨rfl,hi,p⟩
  have q:=h1 i zs H2 p
  by_cases hlt:i < xs.length
  · refine .inr ⟨⟨xs,xs[i],q,by simp [hlt]⟩,Pv (i + 1),fun zs' H' p'=>⟨_,by omega,rfl,hlt,p'⟩,fun x H3 y=>?_⟩
    obtain ⟨e,y⟩:=y
    subst e
    exact hs i x zs _ (y xs q) p
  · have e:i = xs.length:=by omega
    subst e
    obtain ⟨z1,z2⟩:=hd zs H2 p
    exact .inl ⟨⟨xs,q,Nat.le_refl _⟩,z1,z2⟩
inductive DV (K:PySem.W.Frag) (F:Hp) (n:Nat):V -> Prop
  | non:DV K F n .non
  | bl (b:Bool):DV K F n (.bl b)
  | int (i:Int) (h:i.natAbs <= 10000000000 + n):DV K F n (.int i)
  | str (x:Str) (h:x.length <= n):DV K F n (.str x)
  | lst (a:Addr) (xs:List V) (h:SqL K F a xs) (hl:xs.length <= n) (all:∀ x ∈ xs,DV K F n x):DV K F n (.ref a)
  | tup (a:Addr) (xs:List V) (h:SqT K F a xs) (hl:xs.length <= n) (all:∀ x ∈ xs,DV K F n x):DV K F n (.ref a)
def WX (ex:List Addr) (H:Hp):Hp:=fun c=>if c ∈ ex then none else H c
theorem WX.at {ex:List Addr} {H:Hp} {c:Addr} {o:HO} (h:c ∉ ex) (e:H c = some o):WX ex H c = some o:=by
  unfold WX;rw [if_neg h];exact e
def WK:Expr -> Bool
  | .Starred _ _=>false
  | _=>true
theorem qC {e:Expr} {es:List Expr} {env:Env} (h:WK e = true):starEach (e :: es) env = (false,eval e env) :: starEach es env:=by
  cases e <;> first | rfl | cases h
theorem pa5 {X:Cx} {e0 e1 e2 e3 e4:Expr} {t0 t1 t2 t3 t4:TE} (h0:PE X e0 t0) (h1:PE X e1 t1) (h2:PE X e2 t2) (h3:PE X e3 t3) (h4:PE X e4 t4) (h:([e0,e1,e2,e3,e4]).all WK = true:=by rfl):PA X [e0,e1,e2,e3,e4] (j7 t0 (j7 t1 (j7 t2 (j7 t3 (j7 t4 zaN))))):=by
  have hz:=List.all_eq_true.mp h
  exact (za h0 (za h1 (za h2 (za h3 (za h4 zd (qC (hz _ (by simp)))) (qC (hz _ (by simp)))) (qC (hz _ (by simp)))) (qC (hz _ (by simp)))) (qC (hz _ (by simp))))
theorem pa7 {X:Cx} {e0 e1 e2 e3 e4 e5 e6:Expr} {t0 t1 t2 t3 t4 t5 t6:TE} (h0:PE X e0 t0) (h1:PE X e1 t1) (h2:PE X e2 t2) (h3:PE X e3 t3) (h4:PE X e4 t4) (h5:PE X e5 t5) (h6:PE X e6 t6) (h:([e0,e1,e2,e3,e4,e5,e6]).all WK = true:=by rfl):PA X [e0,e1,e2,e3,e4,e5,e6] (j7 t0 (j7 t1 (j7 t2 (j7 t3 (j7 t4 (j7 t5 (j7 t6 zaN))))))):=by
  have hz:=List.all_eq_true.mp h
  exact (za h0 (za h1 (za h2 (za h3 (za h4 (za h5 (za h6 zd (qC (hz _ (by simp)))) (qC (hz _ (by simp)))) (qC (hz _ (by simp)))) (qC (hz _ (by simp)))) (qC (hz _ (by simp)))) (qC (hz _ (by simp)))) (qC (hz _ (by simp))))
section
variable {X:Cx} {elt tg iter:Expr} {ifs:List Expr} {scope:Scope} {pos:Pos} {wi:TI} {g:TG} {tf:TT} {te:TE}
theorem VM {y:Str} {py:Pos} {g2:TG} {pins:List (Addr × Obj)} {σ:St} {H6:Hp} {Dn:St -> Hp -> Prop} {s6:Shared} {D C:Addr} {m:Str -> Option Value} (hg2:PG X (.Name y py) g2) (hn:s6.heap.Ns C m)
    (all:∀ h7:Heap,(∀ b o,b ≠ C -> s6.heap.get? b = some o -> h7.get? b = some o) -> Inv X pins σ H6 { s6 with heap:=h7 }) (fc:jk X pins H6 C) (q:g2 (.ref D) σ H6 Dn) :
    wpAny (model X.prog X.w) X.A (assign (.Name y py) X.env (.ref D)) (fun _ s''=>∃ m,s''.heap.Ns C m /\ ∀ h',Heap.SameBut C s''.heap h' -> ∃ σ' H',Inv X pins σ' H' { s'' with heap:=h' } /\ Dn σ' H') X.xe s6:=by
  have J0:=all s6.heap fun b o _ e=>e
  obtain ⟨oC,es,ep,eoC,hd,r⟩:=hn
  have J1:=J0.pinned (fp:=[C]) (fun b hb=>by rw [List.mem_singleton.mp hb];exact fc) (fun b hb=>by rw [List.mem_singleton.mp hb];exact ⟨oC,eoC,fun v z=>by rw [hd] at z;cases z⟩)
  have mC:(C,oC) ∈ pins ++ zR [C] s6.heap:=List.mem_append_right _ (qy (List.mem_singleton.mpr rfl) eoC)
  refine thn (hg2 _ s6 σ _ (.ref D) (.ref D) _ J1 rfl q) fun _ s8 ⟨σ8,H8,I8,q8⟩=>?_
  obtain ⟨e8,n8,_⟩:=I8.pin (C,oC) (List.mem_append_right _ mC)
  obtain ⟨_,g1,_,g3,g4,g5⟩:=fc
  exact ⟨m,⟨oC,es,ep,e8,hd,r⟩,fun h9 hs9=>⟨σ8,H8,(I8.unpinned).turned (t':=s8.toks) (it:=C) (fun b o hb e=>hs9.extBut b o hb e) n8 g1 g3 g4 g5,q8⟩⟩
theorem zaA {y:Str} {py spos:Pos} {g2:TG} (own fr:List Str) (js:List Nat) (hc:X.calm = true) (hk:scope.kind = .function) (hb:wm scope.names X.env.scope.names X.N fr js = true) (hi:PI X tg iter wi)
    (hg:∀ C s H ex,PG (zF X (own ++ fr) scope C s H ex) tg g) (hf:∀ C s H ex,PF (zF X (own ++ fr) scope C s H ex) ifs tf) (he:∀ C s H ex,PE (zF X (own ++ fr) scope C s H ex) elt te)
    (hg2:PG X (.Name y py) g2) (hsw:swapsWith (.ListComp elt [⟨tg,iter,ifs,0⟩] scope pos) (some (.Name y py)) spos.line X.env = pure true:=by rfl)
    (hs:∀ x,foldedSetIterable iter X.env x = pure x:=by intro _;rfl):PS X (.Assign [.Name y py] (.ListComp elt [⟨tg,iter,ifs,0⟩] scope pos) spos) (Q0 (tLC wi own.length js g tf te) g2):=by
  intro pins s σ H Dn I h
  rw [exec_Assign_Name_used _ _ _ _ hsw]
  refine wpAny_bind (wpAny_standAt (wpAny_bind ?_))
  show wpAny _ X.A (do let _ <- comprehension (.ListComp elt [⟨tg,iter,ifs,0⟩] scope pos) scope X.env _ (newList []) false (eval iter X.env) (some (assign (.Name y py) X.env))) _ _ s
  refine wpAny_bind (wpAny_mono (Yb (rest:=[]) (use:=some (assign (.Name y py) X.env)) (Qx:=fun _ s'=>∃ σ' H',Inv X pins σ' H' s' /\ Dn.nx σ' H') (Q:=fun v H1=>g2 v σ H1 Dn.nx) own fr js hk hb hi hs I h (fun C D it fp tn J W H2 s3 s4 m0 R a b T tl j fin=>Xa hc hg hf he a b T tl j fin) fun s6 D C H6 m hn all fc q=>VM hg2 hn all fc q) (fun _ s' hq=>wpAny_pure (wpAny_pure hq)) fun _ _ e=>e)
theorem ZH {x y:Str} {px py spos:Pos} {g2:TG} (fr:List Str) (js:List Nat) (hc:X.calm = true) (hk:scope.kind = .function) (hb:xK scope.names X.env.scope.names X.N [x] fr js = true) (hi:PI X (.Name x px) iter wi)
    (hf:∀ C s H ex,PF (zF X ([x] ++ fr) scope C s H ex) ifs tf) (he:∀ C s H ex,PE (zF X ([x] ++ fr) scope C s H ex) elt te)
    (hg2:PG X (.Name y py) g2) (hsw:swapsWith (.ListComp elt [⟨.Name x px,iter,ifs,0⟩] scope pos) (some (.Name y py)) spos.line X.env = pure true:=by rfl)
    (hs:∀ x,foldedSetIterable iter X.env x = pure x:=by intro _;rfl):PS X (.Assign [.Name y py] (.ListComp elt [⟨.Name x px,iter,ifs,0⟩] scope pos) spos) (Q0 (tLC wi 1 js (jR 0) tf te) g2):=by
  obtain ⟨h1,h2,h3⟩:=xf hb
  exact zaA [x] fr js hc hk h1 hi (fun C s H ex=>xj (h2 x (by simp)) h3 rfl) hf he hg2 hsw hs
theorem ZG {x z y:Str} {px pz py spos tp:Pos} {kk:Nat} {g2:TG} (fr:List Str) (js:List Nat) (hc:X.calm = true) (hk:scope.kind = .function) (hb:xK scope.names X.env.scope.names X.N [x,z] fr js = true) (hi:PI X (.Tuple [.Name x px,.Name z pz] kk tp) iter wi)
    (hf:∀ C s H ex,PF (zF X ([x,z] ++ fr) scope C s H ex) ifs tf) (he:∀ C s H ex,PE (zF X ([x,z] ++ fr) scope C s H ex) elt te)
    (hg2:PG X (.Name y py) g2) (hsw:swapsWith (.ListComp elt [⟨.Tuple [.Name x px,.Name z pz] kk tp,iter,ifs,0⟩] scope pos) (some (.Name y py)) spos.line X.env = pure true:=by rfl)
    (hs:∀ x,foldedSetIterable iter X.env x = pure x:=by intro _;rfl):PS X (.Assign [.Name y py] (.ListComp elt [⟨.Tuple [.Name x px,.Name z pz] kk tp,iter,ifs,0⟩] scope pos) spos) (Q0 (tLC wi 2 js (Vw X.K 2 (xX (jR 0) (xX (jR 1) WY))) tf te) g2):=by
  obtain ⟨h1,h2,h3⟩:=xf hb
  refine zaA [x,z] fr js hc hk h1 hi (fun C s H ex=>?_) hf he hg2 hsw hs
  exact qx (X:=zF X ([x,z] ++ fr) scope C s H ex) hc (zq (xj (h2 x (by simp)) h3 rfl) (zq (xj (h2 z (by simp)) h3 rfl) zS))
end
theorem Vals.mem {u:Value}:∀ {xs:List V} {us:List Value},Vals xs us -> u ∈ us -> ∃ x ∈ xs,RelV x u
  | _,_,.nil,h=>by cases h
  | x :: xs,v :: vs,.cons r t,h=>by
    rcases List.mem_cons.mp h with e | h
    · rw [e];exact ⟨x,List.mem_cons_self,r⟩
    · obtain ⟨y,hy,ry⟩:=Vals.mem t h
      exact ⟨y,List.mem_cons_of_mem _ hy,ry⟩
section
variable {X:Cx}
theorem zbC {pins:List (Addr × Obj)} {σ:St} {H:Hp} {s:Shared} (I:Inv X pins σ H s) {A:Around} (hu:A.units < cLine) {a c:Addr} {xs ys:List V} (hx:SqT X.K H a xs) (hy:SqT X.K H c ys) (fx:xs.all jr = true) (fy:ys.all jr = true):∃ b,SeqAt.EqAt A s (.ref a) (.ref c) b:=by
  by_cases hac:a = c
  · subst hac
    exact ⟨true,SeqAt.EqAt.same _⟩
  · obtain ⟨its1,r1,p1,z1⟩:=I.tuple hx
    obtain ⟨its2,r2,p2,z2⟩:=I.tuple hy
    have l1:=r1.length
    have l2:=r2.length
    refine ⟨_,SeqAt.EqAt.of_refs hac (SeqAt.RcAt.tuples (e:=fun j=>eqV (xs.getD j .non) (ys.getD j .non)) p1 p2 hu (fun j h1 h2=>?_))⟩
    have h1':j < xs.length:=by rw [List.size_toArray] at h1;omega
    have h2':j < ys.length:=by rw [List.size_toArray] at h2;omega
    obtain ⟨w1,e1,q1⟩:=r1.get (i:=j) (x:=xs[j]) (by simp [h1'])
    obtain ⟨w2,e2,q2⟩:=r2.get (i:=j) (x:=ys[j]) (by simp [h2'])
    have g1:its1.toArray[j] = w1:=by simpa using (List.getElem?_eq_some_iff.mp e1).2
    have g2:its2.toArray[j] = w2:=by simpa using (List.getElem?_eq_some_iff.mp e2).2
    rw [g1,g2,show xs.getD j .non = xs[j] by simp [h1'],show ys.getD j .non = ys[j] by simp [h2']]
    exact W5 q1 q2 (List.all_eq_true.mp fx _ (List.getElem_mem h1')) (List.all_eq_true.mp fy _ (List.getElem_mem h2'))
inductive Zt (K:PySem.W.Frag) (x:V) (y:V) (H:Hp) (Q:VK):Prop
  | mk (a p:Addr) (zs xs:List V) (_:x = .ref a) (_:y = .ref p) (_:SqT K H a zs) (_:zs.all jr = true) (_:SqL K H p xs) (_:(∀ v ∈ xs,∃ (c:Addr) (ws:List V),v = .ref c /\ SqT K H c ws /\ ws.all jr = true)) (_:∀ r:Bool,Q (.bl r) H):Zt K x y H Q
open Classical in
theorem YH (hu:X.A.units + 64 < cLine):OpR X (compareOp .In) (Zt X.K):=by
  intro pins s σ H x y v u Q I rx ry h
  obtain ⟨a,p,zs,xs,rfl,rfl,ha,fa,hp,all,q⟩:=h
  cases rx
  cases ry
  obtain ⟨its,r,pl,hz⟩:=I.list hp
  have ex:∀ w ∈ its,∃ b,SeqAt.EqAt X.A.in1 s w (.ref a) b:=fun w hw=>by
    obtain ⟨x,hx,rxw⟩:=Vals.mem r hw
    obtain ⟨c,ws,rfl,hc,fc⟩:=all x hx
    cases rxw
    exact zbC I (by show X.A.units + 1 < cLine;omega) hc ha fc fa
  refine SeqAt.in_listAt (fun w=>if h:∃ b,SeqAt.EqAt X.A.in1 s w (.ref a) b then h.choose else false) pl.isList (fun w hw=>?_) ⟨.bl _,H,I,rfl,q _⟩
  have hw':=ex w (by simpa using hw)
  simp only [hw',dif_pos]
  exact hw'.choose_spec
inductive yr (K:PySem.W.Frag) (x:V) (y:V) (H:Hp) (Q:VK):Prop
  | mk (a b:Addr) (xs:List V) (_:x = .ref a) (_:y = .ref b) (_:SqL K H a xs) (_:SqL K H b []) (_:Q (.bl (!xs.isEmpty)) H):yr K x y H Q
theorem wV (hu:X.A.units < cLine):OpR X (compareOp .NotEq) (yr X.K):=by
  intro pins s σ H x y v u Q I rx ry h
  obtain ⟨a,b,xs,rfl,rfl,hx,hy,q⟩:=h
  cases rx
  cases ry
  obtain ⟨its1,r1,p1,z1⟩:=I.list hx
  obtain ⟨its2,r2,p2,z2⟩:=I.list hy
  cases r2
  cases r1 with
  | nil=>exact SeqAt.RcNeAt.lists (e:=fun _=>true) p1.isList p2.isList rfl hu (fun j h1 _=>by simp at h1) _ _ _ _ ⟨.bl _,H,I,rfl,q⟩
  | cons r t=>exact SeqAt.RcNeAt.lists_lengths p1.isList p2.isList (by simp) hu _ _ _ _ ⟨.bl _,H,I,rfl,q⟩
inductive yu (K:PySem.W.Frag) (x:V) (y:V) (H:Hp) (Q:VK):Prop
  | mk (a b:Addr) (xs:List V) (_:x = .ref a) (_:y = .ref b) (_:SqL K H a xs) (_:SqL K H b []) (_:Q (.bl xs.isEmpty) H):yu K x y H Q
theorem Qn (hu:X.A.units < cLine):OpR X (compareOp .Eq) (yu X.K):=by
  intro pins s σ H x y v u Q I rx ry h
  obtain ⟨a,b,xs,rfl,rfl,hx,hy,q⟩:=h
  cases rx
  cases ry
  obtain ⟨its1,r1,p1,z1⟩:=I.list hx
  obtain ⟨its2,r2,p2,z2⟩:=I.list hy
  cases r2
  cases r1 with
  | nil=>exact SeqAt.RcAt.lists (e:=fun _=>true) p1.isList p2.isList rfl hu (fun j h1 _=>by simp at h1) _ _ _ _ ⟨.bl _,H,I,rfl,q⟩
  | cons r t=>exact SeqAt.RcAt.lists_lengths p1.isList p2.isList (by simp) hu _ _ _ _ ⟨.bl _,H,I,rfl,q⟩
theorem ZZ:∀ {its:List Value} {n k:Nat},its.length = n -> (∀ j v,its[j]? = some v -> ∃ t,v = Value.int ((k + j:Nat):Int) t) -> Vals ((List.range' k n).map fun i:Nat=>V.int (i:Int)) its
  | [],0,k,_,_=>.nil
  | v :: its,n + 1,k,hl,h=>by
    rw [List.range'_succ,List.map_cons]
    obtain ⟨t,e⟩:=h 0 v rfl
    refine .cons ⟨t,by rw [e];rfl⟩ (ZZ (by simpa using hl) fun j w hw=>?_)
    obtain ⟨t',e'⟩:=h (j + 1) w (by simpa using hw)
    exact ⟨t',by rw [e',show k + (j + 1) = k + 1 + j by omega]⟩
theorem vv {a:Expr} {ta:TA} {p p2 pos pos2:Pos} (hc:X.calm = true) (hg:Gl X "list") (hm:X.mg "list" = none) (hg2:Gl X "range") (hm2:X.mg "range" = none) (hv:bootBuiltins "list" = some (.type "list")) (ha:PA X [a] ta) (hs:starEach [a] X.env = [(false,eval a X.env)]:=by rfl)
    (he:starEach [.Call (.Name "range" p2) [a] [] pos2] X.env = [(false,eval (.Call (.Name "range" p2) [a] [] pos2) X.env)]:=by rfl) :
    PE X (.Call (.Name "list" p) [.Call (.Name "range" p2) [a] [] pos2] [] pos) (fun σ H Q=>ta σ H fun vs H1=>∃ j:Int,vs = [.int j] /\ 0 <= j /\ j <= 1000000 /\ ∀ l,H1 l = none -> Q (.ref l) (upd H1 l (.lst ((List.range j.toNat).map fun i:Nat=>V.int (i:Int))))):=by
  intro pins s σ H Q I h
  refine wpAny_Call_Name_kw (jY I hg hm hv ?_ (by decide) (by decide))
  refine PyProof.Rows.callWith_type1 ?_ he rfl
  rw [he]
  refine Calls.spliced_cons ?_
  refine Call_ (jY I hg2 hm2 boot_range (PyProof.Rows.callWith_type1 (thn (ha pos2 pins s σ H _ I h) fun us s1 ⟨vs,H1,I1,r1,q1⟩=>?_) hs rfl))
  obtain ⟨j,e,j0,j1,q⟩:=q1
  subst e
  cases r1 with
  | cons r rr=>
    cases rr
    obtain ⟨t,rfl⟩:=r
    refine call_range_1 (Calls.spliced_nil ?_)
    have I2:Inv X pins σ H1 { s1 with heap:=s1.heap.push { cls:=.type "range",data:=.fields #[.int 0 s1.toks,.int j t,.int 1 (s1.toks + 1)] },toks:=s1.toks + 1 + 1 }:=I1.kept fun b o e=>Heap.get?_push_of_some _ e
    have e62:(2:Int) ^ 62 = 4611686018427387904:=by decide
    refine call_list_range (n:=j.toNat) (I.ok.hd hc) (IsRange.new ..) (small_one (by rw [e62];omega) (by rw [e62];omega) (by rw [e62];omega) (by rw [e62];omega)) (by rw [rangeSize_one];split <;> omega) (by omega) fun h' tk acc' c' keep get items=>?_
    refine ⟨.ref _,_,I2.laid (t':=tk) (o:=.lst ((List.range j.toNat).map fun i:Nat=>V.int (i:Int))) keep (Nat.le_refl _) ?_,rfl,q _ (I2.hok.fresh (Nat.le_refl _))⟩
    refine ⟨by rw [List.length_map,List.length_range,sizeLine_eq];omega,acc'.toList,c',?_,by rw [Array.toArray_toList];exact get⟩
    rw [List.range_eq_range']
    refine ZZ (by rw [Array.length_toList];exact items.1) fun i v hv=>?_
    obtain ⟨t',e'⟩:=items.2 i v (by simpa using hv)
    exact ⟨t',by rw [e'];congr 1;omega⟩
end
end L2
namespace L2
open PySem PySem.Spec PyProof.Rows
section
variable {prog:Program} {w:World} {A:Around} {E:Value -> Shared -> Prop} {s:Shared}
end
section
variable {X:Cx} {A:Around} {R:Result -> Shared -> Prop}
end
section
variable {X:Cx}
end
section
variable {X:Cx}
theorem xb {K:PySem.W.Frag} (h:X.K = K):IxR X (za5 K):=by rw [<- h];exact zD
theorem qZ {K:PySem.W.Frag} (h:X.K = K):IxR X (za4 K):=by rw [<- h];exact qW
theorem j4 {K:PySem.W.Frag} (h:X.K = K):ja X (.builtin "len") (jS K):=by rw [<- h];exact zI
theorem jt {K:PySem.W.Frag} (h:X.K = K):OpR X (compareOp .In) (rIn K false):=by rw [<- h];exact yX
theorem qP {K:PySem.W.Frag} (h:X.K = K):OpR X (compareOp .NotIn) (rIn K true):=by rw [<- h];exact ZI
end
section
variable {X:Cx}
end
section
open AutoSeq1 (wpAny_loadPart')
theorem xF (l:Addr) (items:Array Value) (n:Nat) (dct:Option Addr) (sl:Array (Option Value)) :
    Meets (Builtin.«enumerate.__new__» ⟨[.type "enumerate",.ref l],[]⟩) (fun _ R s=>s.heap.get? l = some { cls:=.type "tuple",dict:=dct,data:=.seq items n,slots:=sl } /\
      R (.ok (.ret (.ref (s.heap.push { cls:=.type "tuple_iterator",data:=.fields #[.ref l,.int 0 0] }).objs.size)))
        { s with heap:=(s.heap.push { cls:=.type "tuple_iterator",data:=.fields #[.ref l,.int 0 0] }).push { cls:=.type "enumerate",data:=.fields #[.none,.bool false,.ref s.heap.objs.size,rawInt 0,.none,.none] } }):=
  .of_wp fun prog w A R s h=>by
    obtain ⟨hp,g,d,tk,os⟩:=s;obtain ⟨hl,h⟩:=h
    have hsub:=sub_enumerate
    have hL:Heap.IsTuple (Shared.heap ⟨hp,g,d,tk,os⟩) l items:=⟨_,hl,rfl,n,rfl⟩
    wp_walk using wpAny_loadPart' hl
    refine wpAny_stack_any fun st=>wpAny_pure ?_
    split
    · rename_i c _ _ _ _ _
      cases (c == Value.type "enumerate")
      · wp_walk using wpAny_loadPart' hl,wpAny_pyIter_tuple hL
        exact ⟨_,rfl,h⟩
      · wp_walk using wpAny_loadPart' hl,wpAny_pyIter_tuple hL
        exact ⟨_,rfl,h⟩
    · wp_walk using wpAny_loadPart' hl,wpAny_pyIter_tuple hL
      exact ⟨_,rfl,h⟩
end
section
variable {prog:Program} {w:World} {A:Around} {E:Value -> Shared -> Prop} {s:Shared}
theorem xJ {l:Addr} {items:Array Value} {Q:Value -> Shared -> Prop} (hL:s.heap.IsTuple l items)
    (h:∀ h',IsEnum h' (s.heap.objs.size + 1) s.heap.objs.size 0 .none -> h'.IsTupleIter s.heap.objs.size l 0 -> h'.objs.size = s.heap.objs.size + 2 ->
      (∀ b o,s.heap.get? b = some o -> h'.get? b = some o) -> Q (.ref (s.heap.objs.size + 1)) { s with heap:=h' }) :
    wpAny (model prog w) A (call (.type "enumerate") [.ref l]) Q E s:=by
  obtain ⟨⟨c,dct,dt,sl⟩,hl,hc,n,hd⟩:=hL
  replace hc:c = .type "tuple" :=hc
  replace hd:dt = .seq items n:=hd
  subst hc hd
  refine callType_new F.called_enumerate (by decide) (F.typeCall_enumerate_1 _) (F.newCall_enumerate_1 _) (fun obj=>F.args_object_init_2 obj _) F.entry_enumerate_new
    (xF l items n dct sl) ⟨hl,?_⟩
  have hz:(s.heap.push { cls:=.type "tuple_iterator",data:=.fields #[.ref l,.int 0 0] }).objs.size = s.heap.objs.size + 1:=Heap.size_push ..
  show _ /\ _
  rw [hz]
  have he:IsEnum ((s.heap.push { cls:=.type "tuple_iterator",data:=.fields #[.ref l,.int 0 0] }).push
      { cls:=.type "enumerate",data:=.fields #[.none,.bool false,.ref s.heap.objs.size,rawInt 0,.none,.none] }) (s.heap.objs.size + 1) s.heap.objs.size 0 .none:=by
    have:=Heap.get?_push_size (s.heap.push { cls:=.type "tuple_iterator",data:=.fields #[.ref l,.int 0 0] })
      (o:={ cls:=.type "enumerate",data:=.fields #[.none,.bool false,.ref s.heap.objs.size,rawInt 0,.none,.none] }) rfl
    rw [hz] at this;exact this
  refine ⟨⟨_,he,rfl⟩,h _ he ⟨_,Heap.get?_push_of_some _ (Heap.get?_push_size _ rfl),rfl,rfl⟩ (by rw [Heap.size_push,hz]) fun b o x=>Heap.get?_push_of_some _ (Heap.get?_push_of_some _ x)⟩
theorem Draws.tuple {prog:Program} {w:World} {A:Around} (hh:A.handled = none) (it l:Addr) (hne:l ≠ it) (items:Array Value) :
    Draws prog w A it [it,l] items.size (fun i v=>items[i]? = some v) (fun i h=>h.IsTupleIter it l i /\ h.IsTuple l items) where
  live:=fun _ _ st=>let ⟨o,ho,_⟩:=st.1;⟨o,ho⟩
  frame:=fun _ _ _ st hk=>⟨ItrK.at (kd:=false) st.1 fun o e=>hk it (by simp) o e,SeqK.at (kd:=false) st.2 fun o e=>hk l (by simp) o e⟩
  item:=fun i s Q E hi st hQ=>by
    refine xn (kd:=false) st.1 st.2 (x:=items[i]) (by simp [hi]) fun h' hit' hs'=>?_
    exact hQ _ h' s.toks (by simp [hi]) ⟨hit',SeqK.at (kd:=false) st.2 fun o e=>hs'.extBut l o hne e⟩ hs'
  done:=fun s Q E st hE=>xR (kd:=false) hh st.1 st.2 (by simp) hE
end
def QU (K:PySem.W.Frag) (a:Addr):It:=
  ⟨fun i H=>∃ xs x,SqT K H a xs /\ xs[i]? = some x,fun i H x H'=>∃ T y,x = .ref T /\ H T = none /\ H' = upd H T (.tup [.int i,y]) /\ ∀ xs,SqT K H a xs -> xs[i]? = some y,fun i H=>∃ xs,SqT K H a xs /\ xs.length <= i⟩
theorem QY {P:Program} {w:World} {K:PySem.W.Frag} {elts:List Expr} {kk:Nat} {pos:Pos} (a e it:Addr) (hne:e ≠ it) :
    vf P w K (.Tuple elts kk pos) (QU K a) [e,it] e (fun i h=>(∃ old,IsEnum h e it i old) /\ h.IsTupleIter it a i) where
  mem:=by simp
  obj:=fun i h st b hb=>by
    obtain ⟨⟨old,he⟩,⟨o,ho,c,d⟩⟩:=st
    rcases List.mem_cons.mp hb with z | z
    · subst z;exact ⟨_,he,fun v q=>nomatch q⟩
    · rw [List.mem_singleton.mp z];exact ⟨o,ho,fun v q=>by rw [d] at q;cases q⟩
  keep:=fun i h h' st k=>by
    obtain ⟨⟨old,he⟩,hi⟩:=st
    exact ⟨⟨old,k e (by simp) _ he⟩,ItrK.at (kd:=false) hi fun o q=>k it (by simp) o q⟩
  item:=by
    intro X hP hw hK hc i pins s σ H E I hf st hg
    subst hP hw hK
    obtain ⟨⟨old,he⟩,hit⟩:=st
    obtain ⟨xs,x,hq,hx⟩:=hg
    obtain ⟨its,rv,p,hz⟩:=I.tuple hq
    obtain ⟨u,hu,ru⟩:=rv.get hx
    have hl:s.heap.IsTuple a its.toArray:=p
    have hai:a ≠ it:=fun z=>by
      obtain ⟨o,e1,c1,_⟩:=hl
      obtain ⟨o',e2,c2,_⟩:=hit
      rw [z,e2] at e1;cases e1;rw [c2] at c1;exact absurd (Value.type.inj c1) (by decide)
    have hae:e ≠ a:=fun z=>by
      obtain ⟨o,e1,c1,_⟩:=hl
      rw [<- z,he] at e1;cases e1;exact absurd (Value.type.inj c1) (by decide)
    have D:=Draws.tuple (prog:=X.prog) (w:=X.w) (A:=X.A.in1) (I.ok.hd hc) it a hai its.toArray
    have hi:i < its.toArray.size:=by
      have h1:=(List.getElem?_eq_some_iff.mp hu).1
      simpa using h1
    refine wpAny_pyNext_enum_itemD D he ⟨hit,hl⟩ hi hne (by simp [hne,hae]) fun x' h' tk hP' hout hst' hT hsz hk=>?_
    have ex:x' = u:=by
      have h2:its[i]? = some x':=by simpa using hP'
      rw [hu] at h2;exact (Option.some.inj h2).symm
    subst ex
    refine ⟨_,rfl,wpAny_letOwnedTupleGo_enum hout fun h2 he2 hs2=>?_⟩
    have eT:s.heap.objs.size ≠ e:=Nat.ne_of_gt (Heap.lt_size he)
    have k2:∀ b o,b ∉ [e,it] -> s.heap.get? b = some o -> h2.get? b = some o:=fun b o hb q=>by
      have n1:b ≠ e:=fun z=>hb (by simp [z])
      have n2:b ≠ it:=fun z=>hb (by simp [z])
      exact (hs2.2 b n1).trans (hk b o n1 n2 q)
    have it2:h2.IsTupleIter it a (i + 1):=ItrK.at (kd:=false) hst'.1 fun o q=>hs2.extBut it o (Ne.symm hne) q
    refine ⟨.ref s.heap.objs.size,upd H s.heap.objs.size (.tup [.int i,x]),?_,rfl,⟨_,x,rfl,I.hok.fresh (Nat.le_refl _),rfl,fun ys hy=>by rw [I.tuple_inj hy hq];exact hx⟩,⟨⟨_,by simpa using he2⟩,it2⟩,fun b hb=>?_⟩
    · refine wA (s:=s) (h':=h2) (t':=tk + 1) (its:=[.int i tk,x']) I hf (Nat.le_refl _) k2 (by rw [sizeLine_eq];exact (by decide:2 <= 16777216)) (.cons ⟨tk,rfl⟩ (.cons ru .nil)) (TupX.by ((hs2.2 _ eT).trans hT))
    · have hb':b < s.heap.objs.size:=by
        rcases List.mem_cons.mp hb with z | z
        · rw [z];exact Heap.lt_size he
        · rw [List.mem_singleton.mp z]
          obtain ⟨o',e',_⟩:=hit
          exact Heap.lt_size e'
      rw [zi (Nat.ne_of_lt hb')]
      exact (hf b hb).1
  done:=by
    intro X hP hw hK hc i pins s σ H E I hf st hg
    subst hP hw hK
    obtain ⟨⟨old,he⟩,hit⟩:=st
    obtain ⟨xs,hq,hx⟩:=hg
    obtain ⟨its,rv,p,hz⟩:=I.tuple hq
    have hl:s.heap.IsTuple a its.toArray:=p
    have hai:a ≠ it:=fun z=>by
      obtain ⟨o,e1,c1,_⟩:=hl
      obtain ⟨o',e2,c2,_⟩:=hit
      rw [z,e2] at e1;cases e1;rw [c2] at c1;exact absurd (Value.type.inj c1) (by decide)
    obtain ⟨f0,f1,f2,f3,f4,f5⟩:=hf it (by simp)
    have hle:its.toArray.size <= i:=by
      have:=rv.length
      simp only [List.size_toArray];omega
    have hT:s.TypeIs (.ref e) "enumerate" :=⟨_,he,rfl⟩
    unfold pyNext
    refine wpAny_bind (wpAny_attempt (wpAny_callSpecial?_slot (name:=Str.ofString "__next__") hT F.slot_enumerate_next (wpAny_call_entry F.slot_enumerate_next hT F.entry_enumerate_next ?_ (F.args_enumerate_next_1 _))))
    show wpAny _ _ (field (.ref e) 2 >>= _) _ _ _
    refine wpAny_bind (wpAny_field he rfl (x:=.ref it) rfl (wpAny_bind (xR (kd:=false) (I.ok.hd hc) hit hl (by simpa using hle) fun h' x he' hx'=>?_)))
    obtain ⟨o,ho,hc'⟩:=hx'
    refine wpAny_bind (wpAny_isInstance (T:= "StopIteration") (b:=true) ⟨o,ho,hc'⟩ isSubtype_stop ?_)
    exact wpAny_pure ⟨rfl,I.turned (t':=s.toks) (fun b o hb q=>he' b o hb q) f0 f1 f3 f4 f5⟩
  self:=fun _ _ _ _ _ st h=>let ⟨⟨_,he⟩,_⟩:=st;wpAny_pyIter_enum he h
section
variable {X:Cx}
def zbz (K:PySem.W.Frag) (ta:TA):TI:=fun σ H R=>ta σ H fun vs H1=>∃ a,vs = [.ref a] /\ (∃ xs,SqT K H1 a xs) /\ R (QU K a) H1
theorem vq {l:Expr} {ta:TA} {p pos tp:Pos} {elts:List Expr} {kk:Nat} (hg:Gl X "enumerate") (hm:X.mg "enumerate" = none) (ha:PA X [l] ta) (hs:starEach [l] X.env = [(false,eval l X.env)]:=by rfl) :
    PI X (.Tuple elts kk tp) (.Call (.Name "enumerate" p) [l] [] pos) (zbz X.K ta):=by
  intro pins s σ H R I h
  refine Call_ (jY I hg hm boot_enumerate (PyProof.Rows.callWith_type1 (thn (ha pos pins s σ H _ I h) fun us s1 ⟨vs,H1,I1,r1,q1⟩=>?_) hs rfl))
  obtain ⟨a,e,⟨xs,hq⟩,q⟩:=q1
  subst e
  obtain ⟨u,rfl,ru⟩:=j5 r1
  cases ru
  obtain ⟨its,rv,pl,hz⟩:=I1.tuple hq
  refine xJ pl fun h' he hi hsz hk=>wpAny_pyIter_enum he ?_
  have I2:Inv X pins σ H1 { s1 with heap:=h' }:=I1.kept (t':=s1.toks) hk
  refine ⟨s1.heap.objs.size + 1,[s1.heap.objs.size + 1,s1.heap.objs.size],_,_,H1,rfl,I2,QY a _ _ (Nat.succ_ne_self _),⟨⟨_,he⟩,hi⟩,fun b hb=>?_,q⟩
  have hb':s1.heap.objs.size <= b:=by
    rcases List.mem_cons.mp hb with z | z
    · rw [z];exact Nat.le_succ _
    · rw [List.mem_singleton.mp z];exact Nat.le_refl _
  exact I1.fpOk hb' (I1.hok.fresh hb')
theorem Vz {K:PySem.W.Frag} {a:Addr} {xs:List V} {g:TG} {tb:TS} {D:yE} {σ:St} {H:Hp} (Pv:Nat -> St -> Hp -> Prop) (h0:Pv 0 σ H) (hl:∀ i σ H,i <= xs.length -> Pv i σ H -> SqT K H a xs)
    (hs:∀ i x σ H T,xs[i]? = some x -> Pv i σ H -> H T = none -> g (.ref T) σ (upd H T (.tup [.int i,x])) fun σ2 H2=>tb { D with nx:=Pv (i + 1),ct:=Pv (i + 1),bk:=D.nx } σ2 H2) (hd:∀ σ H,Pv xs.length σ H -> D.nx σ H) :
    ∃ W:Nat -> Nat -> St -> Hp -> Prop,(∃ m,W 0 m σ H) /\ ∀ i m σ H,W i m σ H ->
      ((QU K a).stop i H /\ D.nx σ H) \/ ((QU K a).go i H /\ ∃ N:St -> Hp -> Prop,(∀ σ' H',N σ' H' -> ∃ m',m' < m /\ W (i + 1) m' σ' H') /\ ∀ x H',(QU K a).yld i H x H' -> g x σ H' fun σ2 H2=>tb { D with nx:=N,ct:=N,bk:=D.nx } σ2 H2):=by
  refine ⟨fun i m σ H=>m = xs.length - i /\ i <= xs.length /\ Pv i σ H,⟨xs.length,by simp,Nat.zero_le _,h0⟩,?_⟩
  rintro i m σ H ⟨rfl,hi,p⟩
  have q:=hl i σ H hi p
  by_cases hlt:i < xs.length
  · refine .inr ⟨⟨xs,xs[i],q,by simp [hlt]⟩,Pv (i + 1),fun σ' H' p'=>⟨xs.length - (i + 1),by omega,rfl,hlt,p'⟩,fun x H' y=>?_⟩
    obtain ⟨T,z,e1,hT,e2,y⟩:=y
    subst e1 e2
    exact hs i z σ H T (y xs q) p hT
  · have e:i = xs.length:=by omega
    subst e
    exact .inl ⟨⟨xs,q,Nat.le_refl _⟩,hd σ H p⟩
end
end L2
namespace L2
open PySem PySem.Spec PyProof.Rows
section
variable {prog:Program} {w:World} {A:Around} {R:Result -> Shared -> Prop} {s:Shared}
abbrev lc2 (elt tg1 iter1:Expr) (ifs1:List Expr) (tg iter:Expr) (ifs:List Expr) (scope:Scope) (pos:Pos):Expr:=.ListComp elt [⟨tg1,iter1,ifs1,0⟩,⟨tg,iter,ifs,0⟩] scope pos
theorem QL (elt tg1 iter1:Expr) (ifs1:List Expr) (tg iter:Expr) (ifs:List Expr) (scope:Scope) (pos:Pos) (it acc:Value) (env:Env) :
    compTurn (lc2 elt tg1 iter1 ifs1 tg iter ifs scope pos) 1 it acc env = (do
      standAt iter.pos
      match <- pyNext it with
      | none=>pure (.done .next)
      | some v=>
        letOwnedTupleGo tg it v
        assign tg env v
        let mut ok:=true
        for c in ifs do
          if ok then ok <- isTrue c env (eval c env)
        if ok then
          (do let _ <- call (.builtin "list.append") [acc,<- eval elt env])
        again (.compLoop (lc2 elt tg1 iter1 ifs1 tg iter ifs scope pos) 1 it acc env)):=by rfl
theorem ZQ (elt tg1 iter1:Expr) (ifs1:List Expr) (tg iter:Expr) (ifs:List Expr) (scope:Scope) (pos:Pos) (it acc:Value) (env:Env) :
    compTurn (lc2 elt tg1 iter1 ifs1 tg iter ifs scope pos) 0 it acc env = (do
      standAt iter1.pos
      match <- pyNext it with
      | none=>pure (.done .next)
      | some v=>
        letOwnedTupleGo tg1 it v
        assign tg1 env v
        let ok <- jT ifs1 env
        if ok = true then do
          let x <- eval iter env
          standAt iter.pos
          let x <- foldedSetIterable iter env x
          let i2 <- holding [x] (pyIter x)
          let _ <- runOwn (.compStart (lc2 elt tg1 iter1 ifs1 tg iter ifs scope pos) 1 i2 acc env) env
          again (.compLoop (lc2 elt tg1 iter1 ifs1 tg iter ifs scope pos) 0 it acc env)
        else again (.compLoop (lc2 elt tg1 iter1 ifs1 tg iter ifs scope pos) 0 it acc env)):=by rfl
theorem xI {elt tg1 iter1 ifs1 tg iter ifs scope pos it acc env}
    (h0:codeAny (model prog w) A (.compLoop (lc2 elt tg1 iter1 ifs1 tg iter ifs scope pos) 1 it acc env) R s)
    (h:wpAny (model prog w) A (pyIter it) (fun it' s'=>codeAny (model prog w) A (.compLoop (lc2 elt tg1 iter1 ifs1 tg iter ifs scope pos) 1 it' acc env) R s')
      (notedBy (model prog w) A env fun x s'=>R (.error x) s') s) :
    codeAny (model prog w) A (.compStart (lc2 elt tg1 iter1 ifs1 tg iter ifs scope pos) 1 it acc env) R s:=by
  refine codeAny_of_tree ?_
  show wpAny _ _ ((compStart (lc2 elt tg1 iter1 ifs1 tg iter ifs scope pos) 1 it acc env).onRaise (fun x=>do noteFrame x env;standAt theWindowsPlace)) _ _ s
  refine wpAny_notedAt ?_
  unfold compStart
  show wpAny _ _ (ask >>= _) _ _ s
  refine wpAny_bind (wpAny_askSetting (wpAny_ite ?_))
  split
  · first
      | exact wpAny_bind (wpAny_pure (wpAny_pure (And.intro rfl h0)))
      | exact wpAny_pure (And.intro rfl h0)
  · first
      | exact wpAny_bind (wpAny_rule (wpAny_bind (wpAny_standAt (wpAny_bind (wpAny_mono h (fun it' s' h'=>wpAny_pure (And.intro rfl h')) fun _ _ x=>x)))))
      | (refine wpAny_bind (wpAny_rule ?_);show wpAny _ _ (standAt iter.pos >>= _) _ _ s;exact wpAny_bind (wpAny_standAt (wpAny_bind (wpAny_mono h (fun it' s' h'=>wpAny_pure (And.intro rfl h')) fun _ _ x=>x))))
theorem zbF {elt tg1 iter1:Expr} {ifs1:List Expr} {tg iter:Expr} {ifs:List Expr} {scope:Scope} {pos:Pos} {it acc:Value} {env:Env} (J:Nat -> Shared -> Prop)
    (turn:∀ n s,J n s -> wpAny (model prog w) A (pyNext it) (fun r s1=>match r with
      | none=>R (.ok .next) s1
      | some v=>wpAny (model prog w) A (letOwnedTupleGo tg it v) (fun _ s2=>wpAny (model prog w) A (assign tg env v) (fun _ s3=>
          wpAny (model prog w) A (jT ifs env) (fun ok s4=>
            if ok = true then wpAny (model prog w) A (eval elt env) (fun x s5=>
              wpAny (model prog w) A (call (.builtin "list.append") [acc,x]) (fun _ s6=>∃ m,m < n /\ J m s6) (fun _ _=>False) s5) (fun _ _=>False) s4
            else ∃ m,m < n /\ J m s4) (fun _ _=>False) s3) (fun _ _=>False) s2) (fun _ _=>False) s1) (fun _ _=>False) s)
    (n:Nat) (h:J n s):codeAny (model prog w) A (.compLoop (lc2 elt tg1 iter1 ifs1 tg iter ifs scope pos) 1 it acc env) R s:=by
  have no:∀ {α:Type} {t:Sem α} {Q:α -> Shared -> Prop} {E:Value -> Shared -> Prop} {s:Shared},wpAny (model prog w) A t Q (fun _ _=>False) s -> wpAny (model prog w) A t Q E s:=fun x=>wpAny_mono x (fun _ _ q=>q) fun _ _ q=>q.elim
  refine codeAny_loop rfl J (fun k u hJ=>?_) n h
  show wpAny _ A ((compTurn (lc2 elt tg1 iter1 ifs1 tg iter ifs scope pos) 1 it acc env).onRaise (fun x=>do noteFrame x env;theTreesLotGoes x)) _ _ u
  refine wpAny_noted ?_
  rw [QL]
  refine wpAny_bind (wpAny_standAt (wpAny_bind (no (wpAny_mono (turn k u hJ) (fun r s1 h1=>?_) fun _ _ q=>q))))
  cases r with
  | none=>exact wpAny_pure h1
  | some v=>
    refine wpAny_bind (no (wpAny_mono h1 (fun _ s2 h2=>wpAny_bind (no (wpAny_mono h2 (fun _ s3 h3=>wpAny_bind (no (wpAny_mono h3 (fun ok s4 h4=>?_) fun _ _ q=>q))) fun _ _ q=>q))) fun _ _ q=>q))
    cases ok with
    | false=>exact wpAny_pure ⟨rfl,h4⟩
    | true=>
      have h4':wpAny (model prog w) A (eval elt env) (fun x s5=>wpAny (model prog w) A (call (.builtin "list.append") [acc,x]) (fun _ s6=>∃ m,m < k /\ J m s6) (fun _ _=>False) s5) (fun _ _=>False) s4:=h4
      refine wpAny_bind (wpAny_bind (no (wpAny_mono h4' (fun x s5 h5=>wpAny_bind (no (wpAny_mono h5 (fun _ s6 h6=>wpAny_pure (wpAny_pure ⟨rfl,h6⟩)) fun _ _ q=>q))) fun _ _ q=>q)))
theorem zaf {elt tg1 iter1:Expr} {ifs1:List Expr} {tg iter:Expr} {ifs:List Expr} {scope:Scope} {pos:Pos} {it acc:Value} {env:Env} (hs:∀ x,foldedSetIterable iter env x = pure x) (J:Nat -> Shared -> Prop)
    (turn:∀ n s,J n s -> wpAny (model prog w) A (pyNext it) (fun r s1=>match r with
      | none=>R (.ok .next) s1
      | some v=>wpAny (model prog w) A (letOwnedTupleGo tg1 it v) (fun _ s2=>wpAny (model prog w) A (assign tg1 env v) (fun _ s3=>
          wpAny (model prog w) A (jT ifs1 env) (fun ok s4=>
            if ok = true then wpAny (model prog w) A (eval iter env) (fun x s5=>
              wpAny (model prog w) A (pyIter x) (fun i2 s6=>codeAny (model prog w) A (.compStart (lc2 elt tg1 iter1 ifs1 tg iter ifs scope pos) 1 i2 acc env) (fun r s7=>match r with | .ok _=>∃ m,m < n /\ J m s7 | .error _=>False) s6) (fun _ _=>False) s5) (fun _ _=>False) s4
            else ∃ m,m < n /\ J m s4) (fun _ _=>False) s3) (fun _ _=>False) s2) (fun _ _=>False) s1) (fun _ _=>False) s)
    (n:Nat) (h:J n s):codeAny (model prog w) A (.compLoop (lc2 elt tg1 iter1 ifs1 tg iter ifs scope pos) 0 it acc env) R s:=by
  have no:∀ {α:Type} {t:Sem α} {Q:α -> Shared -> Prop} {E:Value -> Shared -> Prop} {s:Shared},wpAny (model prog w) A t Q (fun _ _=>False) s -> wpAny (model prog w) A t Q E s:=fun x=>wpAny_mono x (fun _ _ q=>q) fun _ _ q=>q.elim
  refine codeAny_loop rfl J (fun k u hJ=>?_) n h
  show wpAny _ A ((compTurn (lc2 elt tg1 iter1 ifs1 tg iter ifs scope pos) 0 it acc env).onRaise (fun x=>do noteFrame x env;theTreesLotGoes x)) _ _ u
  refine wpAny_noted ?_
  rw [ZQ]
  refine wpAny_bind (wpAny_standAt (wpAny_bind (no (wpAny_mono (turn k u hJ) (fun r s1 h1=>?_) fun _ _ q=>q))))
  cases r with
  | none=>exact wpAny_pure h1
  | some v=>
    refine wpAny_bind (no (wpAny_mono h1 (fun _ s2 h2=>wpAny_bind (no (wpAny_mono h2 (fun _ s3 h3=>wpAny_bind (no (wpAny_mono h3 (fun ok s4 h4=>?_) fun _ _ q=>q))) fun _ _ q=>q))) fun _ _ q=>q))
    cases ok with
    | false=>exact wpAny_pure ⟨rfl,h4⟩
    | true=>
      have h4':wpAny (model prog w) A (eval iter env) (fun x s5=>
              wpAny (model prog w) A (pyIter x) (fun i2 s6=>codeAny (model prog w) A (.compStart (lc2 elt tg1 iter1 ifs1 tg iter ifs scope pos) 1 i2 acc env) (fun r s7=>match r with | .ok _=>∃ m,m < k /\ J m s7 | .error _=>False) s6) (fun _ _=>False) s5) (fun _ _=>False) s4:=h4
      refine wpAny_bind (no (wpAny_mono h4' (fun x s5 h5=>wpAny_bind (wpAny_standAt (wpAny_bind (wpAny_of_eq (hs x) (wpAny_bind (wpAny_holding (no (wpAny_mono h5 (fun i2 s6 h6=>?_) fun _ _ q=>q)))))))) fun _ _ q=>q))
      refine wpAny_bind (wpAny_runOwn (h:=none) ?_)
      rw [Around.mark_none]
      refine codeAny_mono h6 fun r s7 h7=>?_
      cases r with
      | ok f=>exact wpAny_pure ⟨rfl,h7⟩
      | error e=>exact h7.elim
end
def Sub:St -> St -> Prop
  | [],[]=>True
  | none :: r,_ :: r'=>Sub r r'
  | some v :: r,x :: r'=>x = some v /\ Sub r r'
  | _,_=>False
theorem Sub.len:∀ {a b:St},Sub a b -> a.length = b.length
  | [],[],_=>rfl
  | [],_ :: _,h=>h.elim
  | none :: _,[],h=>h.elim
  | some _ :: _,[],h=>h.elim
  | none :: r,_ :: r',h=>by rw [List.length_cons,List.length_cons,Sub.len (a:=r) (b:=r') h]
  | some _ :: r,_ :: r',h=>by rw [List.length_cons,List.length_cons,Sub.len (a:=r) (b:=r') h.2]
theorem Sub.get:∀ {a b:St} {i:Nat} {v:V},Sub a b -> a[i]? = some (some v) -> b[i]? = some (some v)
  | [],[],_,_,_,e=>e
  | [],_ :: _,_,_,h,_=>h.elim
  | none :: _,[],_,_,h,_=>h.elim
  | some _ :: _,[],_,_,h,_=>h.elim
  | none :: r,_ :: r',0,v,h,e=>by simp at e
  | none :: r,_ :: r',i + 1,v,h,e=>by
    rw [List.getElem?_cons_succ] at e ⊢
    exact Sub.get (a:=r) (b:=r') h e
  | some _ :: r,_ :: r',0,v,h,e=>by
    rw [List.getElem?_cons_zero] at e ⊢
    rw [h.1];exact e
  | some _ :: r,_ :: r',i + 1,v,h,e=>by
    rw [List.getElem?_cons_succ] at e ⊢
    exact Sub.get (a:=r) (b:=r') h.2 e
def tIn (wi:TI) (g:TG) (tf:TT) (te:TE) (ys:List V) (N:List V -> Hp -> Prop):St -> Hp -> Prop:=fun σ4 H5=>wi σ4 H5 fun J H6=>
  ∃ W:Nat -> Nat -> List V -> Hp -> Prop,(∃ m,W 0 m ys H6) /\ ∀ i m zs H7,W i m zs H7 ->
    (J.stop i H7 /\ N zs H7) \/
    (J.go i H7 /\ ∃ N2:List V -> Hp -> Prop,(∀ zs H',N2 zs H' -> ∃ m',m' < m /\ W (i + 1) m' zs H') /\ ∀ x H8,J.yld i H7 x H8 -> g x σ4 H8 fun σ9 H9=>Sub σ4 σ9 /\ tf σ9 H9 fun b H10=>
      if b = true then te σ9 H10 fun y H11=>zs.length < sizeLine /\ N2 (zs ++ [y]) H11 else N2 zs H10)
section
variable {X:Cx} {elt tg1 iter1:Expr} {ifs1:List Expr} {tg iter:Expr} {ifs:List Expr} {scope:Scope} {pos:Pos} {wi wi1:TI} {g g1:TG} {tf tf1:TT} {te:TE}
theorem Y6 {Y:Cx} {D:Addr} {pins:List (Addr × Obj)} {σ4:St} {H0:Hp} {s0:Shared} {it:Addr} {fp:List Addr} {tn:Nat -> Heap -> Prop} {J:It} {R:Result -> Shared -> Prop} {N:List V -> Hp -> Prop} {ys:List V} {its:List Value} {z:Nat} {m0:Nat} {W:Nat -> Nat -> List V -> Hp -> Prop}
    (hc:Y.calm = true) (hx:Y.xe = fun _ _=>False) (hg:PG Y tg g) (hf:PF Y ifs tf) (he:PE Y elt te)
    (T:vf Y.prog Y.w Y.K tg J fp it tn) (fD:∀ H':Hp,H' D = none -> jk Y pins H' D) (f2:∀ b ∈ fp,∀ H':Hp,H' b = none -> jk Y pins H' b) (nD:∀ b ∈ fp,D ≠ b)
    (I:Inv Y pins σ4 H0 s0) (st:tn 0 s0.heap) (fr:∀ b ∈ fp,H0 b = none) (hDn:H0 D = none) (ho:s0.heap.get? D = some { cls:=.type "list",data:=.seq its.toArray z }) (rv:Vals ys its) (w0:W 0 m0 ys H0)
    (turn:∀ i m zs H7,W i m zs H7 ->
      (J.stop i H7 /\ N zs H7) \/
      (J.go i H7 /\ ∃ N2:List V -> Hp -> Prop,(∀ zs H',N2 zs H' -> ∃ m',m' < m /\ W (i + 1) m' zs H') /\ ∀ x H8,J.yld i H7 x H8 -> g x σ4 H8 fun σ9 H9=>Sub σ4 σ9 /\ tf σ9 H9 fun b H10=>
        if b = true then te σ9 H10 fun y H11=>zs.length < sizeLine /\ N2 (zs ++ [y]) H11 else N2 zs H10))
    (fin:∀ s',LcE Y D pins σ4 N s' -> R (.ok .next) s') :
    codeAny (model Y.prog Y.w) Y.A (.compLoop (lc2 elt tg1 iter1 ifs1 tg iter ifs scope pos) 1 (.ref it) (.ref D) Y.env) R s0:=by
  refine zbF (LcJ Y D tn fp pins σ4 W) (fun n s5 j=>wpAny_mono (J9 hc hx hg hf he T fD f2 nD (fun σ9 H' s' J hd=>J.weak hd.len fun k v e=>hd.get e) turn j) (fun r s6 h6=>?_) fun _ _ q=>q) m0 ⟨0,ys,its,H0,z,I,st,fr,hDn,ho,rv,w0⟩
  cases r with
  | some v=>exact h6
  | none=>exact fin s6 h6
end
def zbQ (wi1:TI) (n:Nat) (js:List Nat) (g1:TG) (tf1:TT) (wi:TI) (g:TG) (tf:TT) (te:TE):TE:=fun σ H Q=>wi1 σ H fun J H1=>
  ∃ W:Nat -> Nat -> List V -> Hp -> Prop,(∃ m,W 0 m [] H1) /\ ∀ i m ys H2,W i m ys H2 ->
    (J.stop i H2 /\ ys.length <= sizeLine /\ ∀ D,H2 D = none -> Q (.ref D) (upd H2 D (.lst ys))) \/
    (J.go i H2 /\ ∃ N:List V -> Hp -> Prop,(∀ zs H',N zs H' -> ∃ m',m' < m /\ W (i + 1) m' zs H') /\ ∀ x H3,J.yld i H2 x H3 -> g1 x (upS n js σ) H3 fun σ4 H4=>σ4.drop n = (upS n js σ).drop n /\ tf1 σ4 H4 fun b H5=>
      if b = true then tIn wi g tf te ys N σ4 H5 else N ys H5)
section
variable {X:Cx} {elt tg1 iter1:Expr} {ifs1:List Expr} {tg iter:Expr} {ifs:List Expr} {scope:Scope} {pos:Pos} {wi wi1:TI} {g g1:TG} {tf tf1:TT} {te:TE}
theorem WR {Y:Cx} {D it:Addr} {fp:List Addr} {tn:Nat -> Heap -> Prop} {J:It} {σ4:St} {Kp:St -> Prop} {W:Nat -> Nat -> List V -> Hp -> Prop} {N:List V -> Hp -> Prop} {n:Nat} {s5:Shared}
    (hc:Y.calm = true) (hx:Y.xe = fun _ _=>False) (hg:PG Y tg1 g1) (hf:PF Y ifs1 tf1) (hi2:PI Y tg iter wi) (hg2:PG Y tg g) (hf2:PF Y ifs tf) (he:PE Y elt te) (T:vf Y.prog Y.w Y.K tg1 J fp it tn)
    (fB:∀ b ∈ D :: fp,∀ H':Hp,H' b = none -> jk Y [] H' b) (nD:∀ b ∈ fp,D ≠ b) (bk:∀ σ9 H' s',Inv Y [] σ9 H' s' -> Kp σ9 -> Inv Y [] σ4 H' s')
    (turn:∀ i m zs H7,W i m zs H7 -> (J.stop i H7 /\ N zs H7) \/ (J.go i H7 /\ ∃ N2:List V -> Hp -> Prop,(∀ zs H',N2 zs H' -> ∃ m',m' < m /\ W (i + 1) m' zs H') /\ ∀ x H8,J.yld i H7 x H8 -> g1 x σ4 H8 fun σ9 H9=>Kp σ9 /\ tf1 σ9 H9 fun b H10=>
        if b = true then tIn wi g tf te zs N2 σ9 H10 else N2 zs H10)) (j:LcJ Y D tn fp [] σ4 W n s5) :
    wpAny (model Y.prog Y.w) Y.A (pyNext (.ref it)) (fun r s1=>match r with
      | none=>LcE Y D [] σ4 N s1
      | some v=>wpAny (model Y.prog Y.w) Y.A (letOwnedTupleGo tg1 (.ref it) v) (fun _ s2=>wpAny (model Y.prog Y.w) Y.A (assign tg1 Y.env v) (fun _ s3=>
          wpAny (model Y.prog Y.w) Y.A (jT ifs1 Y.env) (fun ok s4=>
            if ok = true then wpAny (model Y.prog Y.w) Y.A (eval iter Y.env) (fun x s5=>
              wpAny (model Y.prog Y.w) Y.A (pyIter x) (fun i2 s6=>codeAny (model Y.prog Y.w) Y.A (.compStart (lc2 elt tg1 iter1 ifs1 tg iter ifs scope pos) 1 i2 (.ref D) Y.env) (fun r s7=>match r with | .ok _=>∃ m,m < n /\ LcJ Y D tn fp [] σ4 W m s7 | .error _=>False) s6) (fun _ _=>False) s5) (fun _ _=>False) s4
            else ∃ m,m < n /\ LcJ Y D tn fp [] σ4 W m s4) (fun _ _=>False) s3) (fun _ _=>False) s2) (fun _ _=>False) s1) (fun _ _=>False) s5:=by
  have hg':=hg;have hf':=hf;have hi':=hi2
  unfold PG at hg';unfold PF at hf';unfold PI at hi'
  rw [hx] at hg' hf' hi'
  obtain ⟨i,ys,its,H5,z5,I5,st5,fr5,hD5,ho5,rv5,w5⟩:=j
  have I5':=I5.pinned (fp:=[D]) (fun b hb=>by rw [List.mem_singleton.mp hb];exact fB D List.mem_cons_self _ hD5) (fun b hb=>by rw [List.mem_singleton.mp hb];exact ⟨_,ho5,fun v q=>nomatch q⟩)
  have mD:(D,({ cls:=.type "list",data:=.seq its.toArray z5 }:Obj)) ∈ [] ++ zR [D] s5.heap:=List.mem_append_right _ (qy (List.mem_singleton.mpr rfl) ho5)
  have fp5:∀ {H':Hp},(∀ b ∈ fp,H' b = none) -> ∀ b ∈ fp,jk Y ([] ++ zR [D] s5.heap) H' b:=fun hn b hb=>by
    obtain ⟨a1,a2,a3,a4,a5,a6⟩:=fB b (List.mem_cons_of_mem _ hb) _ (hn b hb)
    refine ⟨a1,a2,a3,a4,a5,fun p hp=>?_⟩
    rcases List.mem_append.mp hp with q | q
    · exact a6 p (List.mem_append_left _ q)
    · rw [List.mem_singleton.mp (j9 ((List.mem_append.mp q).resolve_left (by simp))).1];exact nD b hb
  rcases turn i n ys H5 w5 with ⟨stop,q⟩ | ⟨go,N2,hN,step⟩
  · refine thn (T.done Y rfl rfl rfl hc i _ s5 _ H5 _ I5' (fp5 fr5) st5 stop) fun r s6 ⟨hr,I6⟩=>?_
    subst hr
    obtain ⟨o6,nD6,_⟩:=I6.pin (D,_) (List.mem_append_right _ mD)
    exact ⟨ys,its,H5,z5,I6.unpinned,nD6,o6,rv5,q⟩
  · refine thn (T.item Y rfl rfl rfl hc i _ s5 _ H5 _ I5' (fp5 fr5) st5 go) fun r s6 ⟨u,hr,h6⟩=>?_
    subst hr
    refine thn h6 fun _ s7 ⟨x,H7,I7,r7,y7,st7,fr7⟩=>?_
    refine thn (hg' _ s7 _ H7 x u _ (I7.pinned (fp5 fr7) (T.obj _ _ st7)) r7 (step x H7 y7)) fun _ s8 ⟨σ8,H8,I8,hd8,q8⟩=>?_
    refine thn (hf' _ s8 σ8 H8 _ I8 q8) fun ok s9 ⟨H9,I9,q9⟩=>?_
    have mD':=List.mem_append_left (zR fp s7.heap) mD
    have kp:∀ {P:List (Addr × Obj)} {H':Hp} {s':Shared},Inv Y P σ8 H' s' -> (∀ p ∈ zR fp s7.heap,p ∈ P) -> Inv Y [] σ4 H' s' /\ tn (i + 1) s'.heap /\ ∀ b ∈ fp,H' b = none:=fun {P H' s'} J hP=>
      ⟨bk _ _ _ (J.pins_of fun p hp=>absurd hp (by simp)) hd8,T.keep _ _ _ st7 fun b hb o e=>(J.pin (b,o) (List.mem_append_right _ (hP _ (qy hb e)))).1,fun b hb=>by
        obtain ⟨o,e,_⟩:=T.obj _ _ st7 b hb
        exact (J.pin (b,o) (List.mem_append_right _ (hP _ (qy hb e)))).2.1⟩
    cases ok with
    | false=>
      obtain ⟨m',hm,w'⟩:=hN _ _ (show N2 ys H9 by simpa using q9)
      obtain ⟨o9,nD9,_⟩:=I9.pin (D,_) (List.mem_append_right _ mD')
      obtain ⟨k1,k2,k3⟩:=kp I9 fun p hp=>List.mem_append_right _ hp
      exact ⟨m',hm,i + 1,ys,its,H9,z5,k1,k2,k3,nD9,o9,rv5,w'⟩
    | true=>
      refine thn (hi' _ s9 σ8 H9 _ I9 (show tIn wi g tf te ys N2 σ8 H9 by simpa using q9)) fun xv s10 h10=>thn h10 fun itv s11 ⟨it2,fp2,tn2,J2,H11,ei,I11,T2,st11,f11,W2,⟨m2,w2⟩,turn2⟩=>?_
      subst ei
      obtain ⟨o11,nD11,_⟩:=I11.pin (D,_) (List.mem_append_right _ mD')
      have f12:∀ b ∈ fp2,∀ H':Hp,H' b = none -> jk Y (zR fp s7.heap) H' b:=fun b hb H' hn=>by
        obtain ⟨_,a2,a3,a4,a5,a6⟩:=f11 b hb
        exact ⟨hn,a2,a3,a4,a5,fun p hp=>a6 p ((List.mem_append.mp hp).elim (fun q=>List.mem_append_left _ q) fun q=>List.mem_append_right _ (List.mem_append_right _ q))⟩
      have fD:∀ H':Hp,H' D = none -> jk Y (zR fp s7.heap) H' D:=fun H' hn=>by
        obtain ⟨a1,a2,a3,a4,a5,a6⟩:=fB D List.mem_cons_self _ hn
        refine ⟨a1,a2,a3,a4,a5,fun p hp=>?_⟩
        rcases List.mem_append.mp hp with q | q
        · exact a6 p (List.mem_append_left _ q)
        · exact Ne.symm (nD _ (j9 q).1)
      have loop2:codeAny (model Y.prog Y.w) Y.A (.compLoop (lc2 elt tg1 iter1 ifs1 tg iter ifs scope pos) 1 (.ref it2) (.ref D) Y.env) (fun r s7=>match r with
          | .ok _=>∃ m,m < n /\ LcJ Y D tn fp [] σ4 W m s7
          | .error _=>False) s11:=by
        refine Y6 (N:=N2) hc hx hg2 hf2 he T2 fD f12 (fun b hb=>(f11 b hb).2.2.2.2.2 (D,_) (List.mem_append_right _ mD')) (I11.pins_of fun p hp=>I11.pin p (List.mem_append_right _ (List.mem_append_right _ hp))) st11 (fun b hb=>(f11 b hb).1) nD11 o11 rv5 w2 turn2 fun s' h'=>?_
        obtain ⟨zs,its',H',z',I',nD',o',rv',q'⟩:=h'
        obtain ⟨m',hm,w'⟩:=hN _ _ q'
        obtain ⟨k1,k2,k3⟩:=kp I' fun p hp=>hp
        exact ⟨m',hm,i + 1,zs,its',H',z',k1,k2,k3,nD',o',rv',w'⟩
      exact xI loop2 (T2.self Y.A 0 _ _ _ st11 loop2)
theorem WS {C D it:Addr} {fp:List Addr} {tn:Nat -> Heap -> Prop} {J:It} {W:Nat -> Nat -> List V -> Hp -> Prop} {H2:Hp} {s3 s4:Shared} {m0 n:Nat} {R:Result -> Shared -> Prop} {js:List Nat} {σ:St} {N':List Str} {N:List V -> Hp -> Prop} (hc:X.calm = true)
    (hg:∀ C s H ex,PG (zF X N' scope C s H ex) tg1 g1) (hf:∀ C s H ex,PF (zF X N' scope C s H ex) ifs1 tf1) (hi2:∀ C s H ex,PI (zF X N' scope C s H ex) tg iter wi) (hg2:∀ C s H ex,PG (zF X N' scope C s H ex) tg g) (hf2:∀ C s H ex,PF (zF X N' scope C s H ex) ifs tf) (he:∀ C s H ex,PE (zF X N' scope C s H ex) elt te)
    (hs2:∀ C x,foldedSetIterable iter (compEnvC scope (qw X.env.cells scope.names []) C X.env) x = pure x) (fpB:∀ b ∈ D :: fp,∀ H':Hp,H' b = none -> jk (zF X N' scope C s3 H2 (D :: fp)) [] H' b) (fD:∀ b ∈ fp,D ≠ b) (T:vf X.prog X.w X.K tg1 J fp it tn)
    (turn:∀ i m zs H7,W i m zs H7 -> (J.stop i H7 /\ N zs H7) \/ (J.go i H7 /\ ∃ N2:List V -> Hp -> Prop,(∀ zs H',N2 zs H' -> ∃ m',m' < m /\ W (i + 1) m' zs H') /\ ∀ x H8,J.yld i H7 x H8 -> g1 x (upS n js σ) H8 fun σ9 H9=>σ9.drop n = (upS n js σ).drop n /\ tf1 σ9 H9 fun b H10=>
        if b = true then tIn wi g tf te zs N2 σ9 H10 else N2 zs H10))
    (j:LcJ (zF X N' scope C s3 H2 (D :: fp)) D tn fp [] (upS n js σ) W m0 s4) (fin:∀ s6,LcE (zF X N' scope C s3 H2 (D :: fp)) D [] (upS n js σ) N s6 -> R (.ok .next) s6) :
    codeAny (model X.prog X.w) X.A (.compLoop (lc2 elt tg1 iter1 ifs1 tg iter ifs scope pos) 0 (.ref it) (.ref D) (compEnvC scope (qw X.env.cells scope.names []) C X.env)) R s4:=by
  have hl:=(let ⟨_,_,_,_,_,I,_,_,_,_,_,_⟩:=j;I.len:(upS n js σ).length = N'.length)
  refine zaf (hs2 C) (LcJ (zF X N' scope C s3 H2 (D :: fp)) D tn fp [] (upS n js σ) W) (fun k s5 j=>wpAny_mono (WR (iter1:=iter1) (scope:=scope) (pos:=pos) (Y:=zF X N' scope C s3 H2 (D :: fp)) hc rfl (hg _ _ _ _) (hf _ _ _ _) (hi2 _ _ _ _) (hg2 _ _ _ _) (hf2 _ _ _ _) (he _ _ _ _) T fpB fD (fun σ9 H' s' J hd=>Z1 hl J hd) turn j) (fun r s6 h6=>?_) fun _ _ q=>q) m0 j
  cases r with
  | some v=>exact h6
  | none=>exact fin s6 h6
theorem zbd (own fr:List Str) (js:List Nat) (hc:X.calm = true) (hk:scope.kind = .function) (hb:wm scope.names X.env.scope.names X.N fr js = true) (hi:PI X tg1 iter1 wi1)
    (hg:∀ C s H ex,PG (zF X (own ++ fr) scope C s H ex) tg1 g1) (hf:∀ C s H ex,PF (zF X (own ++ fr) scope C s H ex) ifs1 tf1)
    (hi2:∀ C s H ex,PI (zF X (own ++ fr) scope C s H ex) tg iter wi) (hg2:∀ C s H ex,PG (zF X (own ++ fr) scope C s H ex) tg g) (hf2:∀ C s H ex,PF (zF X (own ++ fr) scope C s H ex) ifs tf) (he:∀ C s H ex,PE (zF X (own ++ fr) scope C s H ex) elt te)
    (hs:∀ x,foldedSetIterable iter1 X.env x = pure x:=by intro _;rfl) (hs2:∀ C x,foldedSetIterable iter (compEnvC scope (qw X.env.cells scope.names []) C X.env) x = pure x:=by intro _ _;rfl):PE X (lc2 elt tg1 iter1 ifs1 tg iter ifs scope pos) (zbQ wi1 own.length js g1 tf1 wi g tf te):=by
  intro pins s σ H Q I h
  rw [eval_ListComp]
  exact Yb own fr js hk hb hi hs I h (fun C D it fp tn J W H2 s3 s4 m0 R a b T tl j fin=>WS hc hg hf hi2 hg2 hf2 he hs2 a b T tl j fin) fun s6 D C H6 m hn all _ q=>⟨m,hn,fun h7 hs7=>⟨.ref D,H6,all h7 fun b o hb e=>hs7.extBut b o hb e,rfl,q⟩⟩
end
section
variable {X:Cx}
inductive xN (K:PySem.W.Frag) (xs:List V) (H:Hp) (Q:VK):Prop
  | mk (p:Addr) (bs:List Bool) (_:xs = [.ref p]) (_:SqL K H p (bs.map V.bl)) (_:Q (.bl (bs.any id)) H):xN K xs H Q
theorem Zh (hc:X.calm = true):ja X (.builtin "any") (xN X.K):=by
  intro pins s σ H xs us Q I r h
  obtain ⟨p,bs,rfl,hq,q⟩:=h
  obtain ⟨u,rfl,ru⟩:=j5 r
  cases ru
  obtain ⟨its,rv,pl,hz⟩:=I.list hq
  have hl:=pl.isList
  have hpl:p ≠ s.heap.objs.size:=by
    obtain ⟨o,e,_⟩:=hl
    exact Nat.ne_of_lt (Heap.lt_size e)
  refine call_any_walk (wpAny_pyIter_list hl ?_)
  refine ⟨s.heap.objs.size,_,_,_,_,_,fun i=>bs.getD i false,rfl,Walks.list (prog:=X.prog) (w:=X.w) (A:=X.A.in1) (I.ok.hd hc) _ p hpl its.toArray,⟨⟨_,Heap.get?_push_size _ rfl,rfl,rfl⟩,hl.push _⟩,?_,fun h' tk hk=>?_⟩
  · intro i v s' Q' E' hP hQ
    have hP:its.toArray[i]? = some v:=hP
    have e1:its[i]? = some v:=by simpa using hP
    have hi:i < bs.length:=by
      have h1:=(List.getElem?_eq_some_iff.mp e1).1
      have h2:=rv.length
      rw [List.length_map] at h2
      omega
    have e2:(bs.map V.bl)[i]? = some (.bl bs[i]):=by simp [hi]
    obtain ⟨u',eu,ru⟩:=rv.get e2
    rw [e1] at eu
    cases eu
    cases ru
    have e3:bs.getD i false = bs[i]:=by simp [hi]
    have hQ2:Q' (bs.getD i false) s':=hQ
    rw [e3] at hQ2
    exact wpAny_truthy_bool hQ2
  · have k:∀ b o,s.heap.get? b = some o -> h'.get? b = some o:=fun b o e=>hk b o (by simp;exact Nat.ne_of_lt (Heap.lt_size e)) (Heap.get?_push_of_some _ e)
    have ea:(List.range its.toArray.size).any (fun i=>bs.getD i false) = bs.any id:=by
      have hlen:its.toArray.size = bs.length:=by
        have:=rv.length
        rw [List.length_map] at this
        simp only [List.size_toArray];omega
      rw [hlen,Bool.eq_iff_iff,List.any_eq_true,List.any_eq_true]
      constructor
      · rintro ⟨i,hi,e⟩
        have hi:=List.mem_range.mp hi
        exact ⟨bs[i],List.getElem_mem hi,by simpa [hi] using e⟩
      · rintro ⟨b,hb,e⟩
        obtain ⟨i,hi,rfl⟩:=List.mem_iff_getElem.mp hb
        exact ⟨i,List.mem_range.mpr hi,by simpa [hi] using e⟩
    exact ⟨.bl (bs.any id),H,I.kept k,by rw [ea];rfl,q⟩
theorem yn:bootBuiltins "any" = some (.builtin "any"):=by decide +kernel
theorem QD:∀ {ns:List Int} {its:List Value},Vals (ns.map V.int) its -> IntsAre its ns
  | [],its,h=>by cases h;exact .nil
  | n :: ns,its,h=>by
    cases h with
    | cons r q=>
      obtain ⟨t,rfl⟩:=r
      exact .cons n t (QD q)
theorem Za {α β:Type} (f:α -> β):∀ (l:List α) (i:Nat),(l.eraseIdx i).map f = (l.map f).eraseIdx i
  | [],_=>rfl
  | _ :: _,0=>rfl
  | a :: r,i + 1=>by
    show f a :: (r.eraseIdx i).map f = f a :: (r.map f).eraseIdx i
    rw [Za f r i]
inductive Qh (x:V) (vs:List V) (H:Hp) (Q:VK):Prop
  | mk (l:Addr) (ns:List Int) (k:Int) (_:x = .ref l) (_:vs = [.int k]) (_:H l = some (.lst (ns.map V.int))) (_:k ∈ ns) (_:Q .non (upd H l (.lst ((ns.erase k).map V.int)))):Qh  x vs H Q
theorem Jh:MtM X "list.remove" Qh:=by
  intro pins s σ H x vs v us Q I rx rv h
  obtain ⟨l,ns,k,rfl,rfl,hH,hk,q⟩:=h
  cases rx
  obtain ⟨u,rfl,ru⟩:=rv.one
  obtain ⟨t,rfl⟩:=ru
  obtain ⟨z,its,n,r,hl,e⟩:=I.lstM hH
  rw [List.length_map] at hl z
  have hj:ns.idxOf k < ns.length:=List.idxOf_lt_length_of_mem hk
  have val:∀ i (hi:i < its.length),isInt k its[i] = (ns[i]'(by omega) == k):=fun i hi=>by
    have e2:(ns.map V.int)[i]? = some (.int (ns[i]'(by omega))):=by simp [show i < ns.length by omega]
    obtain ⟨u',eu,ru⟩:=r.get e2
    rw [List.getElem?_eq_getElem hi] at eu
    cases eu
    obtain ⟨t',e'⟩:=ru
    rw [e']
    rfl
  refine call_meets F.slot_list_remove ⟨_,e,rfl⟩ F.entry_list_remove (F.args_list_remove_2 _ _) (MeetsSeq.list_remove l its.toArray n (.int k t) (isInt k) (fun y hy=>eq_isInt k t (QD r) y (by simpa using hy)) (ns.idxOf k) (by simp;omega) ?_ ?_ (by simp;omega)) ⟨e,?_⟩
  · rw [List.getElem_toArray,val _ (by omega)]
    simp
  · intro m hm hlt
    rw [List.getElem_toArray,val _ (by simpa using hm)]
    have:=List.not_of_lt_findIdx (p:=(· == k)) (xs:=ns) (i:=m) (by exact hlt)
    simpa using this
  refine ⟨.non,_,I.lset (its':=its.eraseIdx (ns.idxOf k)) hH e ?_ ?_ ?_,rfl,q⟩
  · apply Array.toList_inj.mp
    simp [Array.toList_eraseIdxIfInBounds]
  · have em:(ns.erase k).map V.int = (ns.map V.int).eraseIdx (ns.idxOf k):=by rw [List.erase_eq_eraseIdx_of_idxOf rfl,Za]
    rw [em]
    exact r.eraseIdx _
  · rw [List.length_map]
    exact Nat.le_trans (List.length_erase_le) z
end
theorem w9 {K:PySem.W.Frag} {a:Addr} {xs:List V} {g:TG} {tf:TT} {te:TE} {σ0:St} {n:Nat} {R:List V -> Hp -> Prop} {H:Hp} (Pv:Nat -> List V -> Hp -> Prop) (h0:Pv 0 [] H)
    (h1:∀ i zs H,Pv i zs H -> SqT K H a xs)
    (hs:∀ i x zs H T,xs[i]? = some x -> Pv i zs H -> H T = none -> g (.ref T) σ0 (upd H T (.tup [.int i,x])) fun σ4 H4=>σ4.drop n = σ0.drop n /\ tf σ4 H4 fun b H5=>
      if b = true then te σ4 H5 fun v H6=>zs.length < sizeLine /\ Pv (i + 1) (zs ++ [v]) H6 else Pv (i + 1) zs H5)
    (hd:∀ zs H,Pv xs.length zs H -> zs.length <= sizeLine /\ R zs H) :
    ∃ W:Nat -> Nat -> List V -> Hp -> Prop,(∃ m,W 0 m [] H) /\ ∀ i m zs H2,W i m zs H2 ->
      ((QU K a).stop i H2 /\ zs.length <= sizeLine /\ R zs H2) \/
      ((QU K a).go i H2 /\ ∃ N:List V -> Hp -> Prop,(∀ zs H',N zs H' -> ∃ m',m' < m /\ W (i + 1) m' zs H') /\ ∀ x H3,(QU K a).yld i H2 x H3 -> g x σ0 H3 fun σ4 H4=>σ4.drop n = σ0.drop n /\ tf σ4 H4 fun b H5=>
        if b = true then te σ4 H5 fun y H6=>zs.length < sizeLine /\ N (zs ++ [y]) H6 else N zs H5):=by
  refine ⟨fun i m zs H2=>m = xs.length - i /\ i <= xs.length /\ Pv i zs H2,⟨_,rfl,Nat.zero_le _,h0⟩,?_⟩
  rintro i m zs H2 ⟨rfl,hi,p⟩
  have q:=h1 i zs H2 p
  by_cases hlt:i < xs.length
  · refine .inr ⟨⟨xs,xs[i],q,by simp [hlt]⟩,Pv (i + 1),fun zs' H' p'=>⟨_,by omega,rfl,hlt,p'⟩,fun x H3 y=>?_⟩
    obtain ⟨T,z,e1,hT,e2,y⟩:=y
    subst e1 e2
    exact hs i z zs H2 T (y xs q) p hT
  · have e:i = xs.length:=by omega
    subst e
    obtain ⟨z1,z2⟩:=hd zs H2 p
    exact .inl ⟨⟨xs,q,Nat.le_refl _⟩,z1,z2⟩
theorem WT {K:PySem.W.Frag} {a:Addr} {xs:List V} {g:TG} {tf:TT} {wi:TI} {g2:TG} {tf2:TT} {te:TE} {σ0:St} {n:Nat} {R:List V -> Hp -> Prop} {H:Hp} (Pv:Nat -> List V -> Hp -> Prop) (h0:Pv 0 [] H)
    (h1:∀ i zs H,Pv i zs H -> SqL K H a xs)
    (hs:∀ i x zs H,xs[i]? = some x -> Pv i zs H -> g x σ0 H fun σ4 H4=>σ4.drop n = σ0.drop n /\ tf σ4 H4 fun b H5=>
      if b = true then tIn wi g2 tf2 te zs (Pv (i + 1)) σ4 H5 else Pv (i + 1) zs H5)
    (hd:∀ zs H,Pv xs.length zs H -> zs.length <= sizeLine /\ R zs H) :
    ∃ W:Nat -> Nat -> List V -> Hp -> Prop,(∃ m,W 0 m [] H) /\ ∀ i m zs H2,W i m zs H2 ->
      ((Itl K a).stop i H2 /\ zs.length <= sizeLine /\ R zs H2) \/
      ((Itl K a).go i H2 /\ ∃ N:List V -> Hp -> Prop,(∀ zs H',N zs H' -> ∃ m',m' < m /\ W (i + 1) m' zs H') /\ ∀ x H3,(Itl K a).yld i H2 x H3 -> g x σ0 H3 fun σ4 H4=>σ4.drop n = σ0.drop n /\ tf σ4 H4 fun b H5=>
        if b = true then tIn wi g2 tf2 te zs N σ4 H5 else N zs H5):=by
  refine ⟨fun i m zs H2=>m = xs.length - i /\ i <= xs.length /\ Pv i zs H2,⟨_,rfl,Nat.zero_le _,h0⟩,?_⟩
  rintro i m zs H2 ⟨rfl,hi,p⟩
  have q:=h1 i zs H2 p
  by_cases hlt:i < xs.length
  · refine .inr ⟨⟨xs,xs[i],q,by simp [hlt]⟩,Pv (i + 1),fun zs' H' p'=>⟨_,by omega,rfl,hlt,p'⟩,fun x H3 y=>?_⟩
    obtain ⟨e,y⟩:=y
    subst e
    exact hs i x zs _ (y xs q) p
  · have e:i = xs.length:=by omega
    subst e
    obtain ⟨z1,z2⟩:=hd zs H2 p
    exact .inl ⟨⟨xs,q,Nat.le_refl _⟩,z1,z2⟩
theorem zby {K:PySem.W.Frag} {a:Addr} {xs:List V} {g:TG} {tf:TT} {te:TE} {σ0:St} {N:List V -> Hp -> Prop} {ys:List V} {H:Hp} (Pv:Nat -> List V -> Hp -> Prop) (h0:Pv 0 ys H)
    (h1:∀ i zs H,Pv i zs H -> SqT K H a xs)
    (hs:∀ i x zs H,xs[i]? = some x -> Pv i zs H -> g x σ0 H fun σ4 H4=>Sub σ0 σ4 /\ tf σ4 H4 fun b H5=>
      if b = true then te σ4 H5 fun v H6=>zs.length < sizeLine /\ Pv (i + 1) (zs ++ [v]) H6 else Pv (i + 1) zs H5)
    (hd:∀ zs H,Pv xs.length zs H -> N zs H) :
    ∃ W:Nat -> Nat -> List V -> Hp -> Prop,(∃ m,W 0 m ys H) /\ ∀ i m zs H2,W i m zs H2 ->
      ((Itt K a).stop i H2 /\ N zs H2) \/
      ((Itt K a).go i H2 /\ ∃ N2:List V -> Hp -> Prop,(∀ zs H',N2 zs H' -> ∃ m',m' < m /\ W (i + 1) m' zs H') /\ ∀ x H3,(Itt K a).yld i H2 x H3 -> g x σ0 H3 fun σ4 H4=>Sub σ0 σ4 /\ tf σ4 H4 fun b H5=>
        if b = true then te σ4 H5 fun y H6=>zs.length < sizeLine /\ N2 (zs ++ [y]) H6 else N2 zs H5):=by
  refine ⟨fun i m zs H2=>m = xs.length - i /\ i <= xs.length /\ Pv i zs H2,⟨_,rfl,Nat.zero_le _,h0⟩,?_⟩
  rintro i m zs H2 ⟨rfl,hi,p⟩
  have q:=h1 i zs H2 p
  by_cases hlt:i < xs.length
  · refine .inr ⟨⟨xs,xs[i],q,by simp [hlt]⟩,Pv (i + 1),fun zs' H' p'=>⟨_,by omega,rfl,hlt,p'⟩,fun x H3 y=>?_⟩
    obtain ⟨e,y⟩:=y
    subst e
    exact hs i x zs _ (y xs q) p
  · have e:i = xs.length:=by omega
    subst e
    exact .inl ⟨⟨xs,q,Nat.le_refl _⟩,hd zs H2 p⟩
section
variable {X:Cx} {elt iter1:Expr} {ifs1:List Expr} {iter:Expr} {ifs:List Expr} {scope:Scope} {pos:Pos} {wi wi1:TI} {tf tf1:TT} {te:TE} {x y z:Str} {px py pz tp tp2:Pos} {kk kk2:Nat}
theorem YC (fr:List Str) (js:List Nat) (hc:X.calm = true) (hk:scope.kind = .function) (hb:xK scope.names X.env.scope.names X.N [x,y,z] fr js = true) (hi:PI X (.Tuple [.Name x px,.Name y py] kk tp) iter1 wi1)
    (hf:∀ C s H ex,PF (zF X ([x,y,z] ++ fr) scope C s H ex) ifs1 tf1) (hi2:∀ C s H ex,PI (zF X ([x,y,z] ++ fr) scope C s H ex) (.Name z pz) iter wi) (hf2:∀ C s H ex,PF (zF X ([x,y,z] ++ fr) scope C s H ex) ifs tf) (he:∀ C s H ex,PE (zF X ([x,y,z] ++ fr) scope C s H ex) elt te)
    (hs:∀ x,foldedSetIterable iter1 X.env x = pure x:=by intro _;rfl) (hs2:∀ C x,foldedSetIterable iter (compEnvC scope (qw X.env.cells scope.names []) C X.env) x = pure x:=by intro _ _;rfl) :
    PE X (lc2 elt (.Tuple [.Name x px,.Name y py] kk tp) iter1 ifs1 (.Name z pz) iter ifs scope pos) (zbQ wi1 3 js (Vw X.K 2 (xX (jR 0) (xX (jR 1) WY))) tf1 wi (jR 2) tf te):=by
  obtain ⟨h1,h2,h3⟩:=xf hb
  refine zbd [x,y,z] fr js hc hk h1 hi (fun C s H ex=>?_) hf hi2 (fun C s H ex=>xj (h2 z (by simp)) h3 rfl) hf2 he hs hs2
  exact qx (X:=zF X ([x,y,z] ++ fr) scope C s H ex) hc (zq (xj (h2 x (by simp)) h3 rfl) (zq (xj (h2 y (by simp)) h3 rfl) zS))
end
section
variable {X:Cx}
theorem JX {K:PySem.W.Frag} (h:X.K = K) {tg l:Expr} {tl:TE} (hl:PE X l tl):PI X tg l (zcy K tl):=by rw [<- h];exact jN hl
theorem Qj {K:PySem.W.Frag} (h:X.K = K) {tg l:Expr} {tl:TE} (hl:PE X l tl):PI X tg l (zaF K tl):=by rw [<- h];exact zL hl
end
section
variable {X:Cx}
inductive vJ (K:PySem.W.Frag) (xs:List V) (H:Hp) (Q:VK):Prop
  | mk (v:V) (d:Dat) (_:xs = [v]) (_:Rep K H d v) (_:d.shw = true) (_:d.blk <= 1048576) (_:d.py.depth <= 60) (_:Q (.str d.py.shown) H):vJ K xs H Q
theorem yi (hg:X.A.guards = some []) (hu:X.A.units + 64 < cLine):ja X (.builtin "repr") (vJ X.K):=by
  intro pins s σ H xs us Q I r h
  obtain ⟨v,d,rfl,hr,h1,h2,h3,q⟩:=h
  obtain ⟨u,rfl,ru⟩:=j5 r
  obtain ⟨s1,s2,s3⟩:=Dat.py_short d h1
  have fits:d.py.shown.length <= sizeLine:=PyData.shown_fits_bulk (B:=13) (by decide) (by decide) s1 (by rw [Dat.py_blk];exact h2)
  have onRef:∀ (a:Addr),v = .ref a -> wpAny (model X.prog X.w) X.A (call (.builtin "repr") [u]) (EP X pins σ Q) X.xe s:=fun a e=>by
    subst e
    obtain ⟨as,q1⟩:=hr.reads I ru
    cases (show u = _ from ru)
    exact repr_of_reads' q1 s2 (PyData.noDict_hsm s3) hg (by omega) (fun _ _ e=>e) (fun h' u tk hk=>⟨.str d.py.shown,H,I.kept hk,⟨u,rfl⟩,q⟩) fits
  cases d with
  | non=>
    cases (show v = _ from hr)
    cases (show u = _ from ru)
    exact P.repr_of_none ⟨.str _,H,I.tok _,⟨_,rfl⟩,q⟩
  | bl b=>
    cases (show v = _ from hr)
    cases (show u = _ from ru)
    refine P.repr_of_bool ⟨.str _,H,I.tok _,⟨s.toks,?_⟩,q⟩
    cases b <;> rfl
  | int i=>
    cases (show v = _ from hr)
    obtain ⟨t,rfl⟩:=ru
    exact P.repr_of_int (J6 (of_decide_eq_true h1)) ⟨.str _,H,I.tok _,⟨_,rfl⟩,q⟩
  | str x=>
    cases (show v = _ from hr)
    obtain ⟨t,rfl⟩:=ru
    exact P.repr_of_str ⟨.str _,H,I.tok _,⟨_,rfl⟩,q⟩ fits
  | lst ds=>obtain ⟨a,_,e,_⟩:=id hr;exact onRef a e
  | tup ds=>obtain ⟨a,_,e,_⟩:=id hr;exact onRef a e
theorem Zj:bootBuiltins "repr" = some (.builtin "repr"):=by decide +kernel
def tLT (K:PySem.W.Frag) (t:TE):TT:=fun σ H Q=>t σ H fun x H1=>∃ a xs,x = .ref a /\ SqL K H1 a xs /\ Q (!xs.isEmpty) H1
theorem Yu {e:Expr} {t:TE} (h:PE X e t) (he:∀ whole,isTrue e X.env whole = (do let v <- whole;standAt e.pos;holding [v] (truthy v)):=by intro _;rfl):PT X e (tLT X.K t):=by
  intro pins s σ H Q I hw
  refine isTrue_plain (thn (h pins s σ H _ I hw) fun v s1 ⟨x,H1,I1,r1,q1⟩=>?_) (he _)
  obtain ⟨a,xs,rfl,hq,q⟩:=q1
  cases (show v = _ from r1)
  obtain ⟨its,rv,pl,hz⟩:=I1.list hq
  have hl:=rv.length
  refine wpAny_truthy_list pl.isList (by rw [List.size_toArray,<- hl];rw [sizeLine_eq] at hz;omega) ?_
  have e:(!xs.isEmpty) = (!its.toArray.isEmpty):=by
    cases xs with
    | nil=>cases rv;rfl
    | cons y ys=>cases rv;rfl
  first
    | exact ⟨H1,I1.tok _,by rw [e] at q;simpa using q⟩
    | exact ⟨H1,I1,by rw [e] at q;simpa using q⟩
end
section
variable {X:Cx} {elt tg1 iter1:Expr} {ifs1:List Expr} {tg iter:Expr} {ifs:List Expr} {scope:Scope} {pos:Pos} {wi wi1:TI} {g g1:TG} {tf tf1:TT} {te:TE} {x z:Str} {px pz tp tp2:Pos} {kk kk2:Nat}
end
section
variable {κ:Type} [DecidableEq κ]
def z9 (kvs:List (κ × V)) (k:κ):Option V:=(kvs.find? fun kv=>decide (kv.1 = k)).map (·.2)
def qV (kvs:List (κ × V)) (k:κ) (v:V):List (κ × V):=
  if (kvs.any fun kv=>decide (kv.1 = k)) = true then kvs.map (fun kv=>if kv.1 = k then (kv.1,v) else kv) else kvs ++ [(k,v)]
theorem qE {p:κ × V} {r:List (κ × V)} {k:κ} (e:p.1 = k):z9 (p :: r) k = some p.2:=by simp [z9,List.find?_cons,e]
theorem qF {p:κ × V} {r:List (κ × V)} {k:κ} (e:¬ p.1 = k):z9 (p :: r) k = z9 r k:=by simp [z9,List.find?_cons,e]
theorem j6 (k:κ):∀ kvs:List (κ × V),(kvs.any fun kv=>decide (kv.1 = k)) = (z9 kvs k).isSome
  | []=>rfl
  | p :: r=>by
    rw [List.any_cons]
    by_cases e:p.1 = k
    · simp only [qE e,decide_eq_true e,Bool.true_or,Option.isSome_some]
    · rw [qF e,decide_eq_false e,Bool.false_or];exact j6 k r
theorem Z0 (k j:κ) (y:V):∀ kvs:List (κ × V),z9 (kvs.map fun kv=>if kv.1 = k then (kv.1,y) else kv) j = (z9 kvs j).map fun x=>if j = k then y else x
  | []=>rfl
  | p :: r=>by
    have ih:=Z0 k j y r
    rw [List.map_cons]
    by_cases h:p.1 = k
    · rw [if_pos h]
      by_cases e:p.1 = j
      · rw [qE (p:=(p.1,y)) e,qE e,Option.map_some,if_pos (e.symm.trans h)]
      · rw [qF (p:=(p.1,y)) e,qF e,ih]
    · rw [if_neg h]
      by_cases e:p.1 = j
      · rw [qE (p:=p) e,qE e,Option.map_some,if_neg (fun z=>h (e.trans z))]
      · rw [qF (p:=p) e,qF e,ih]
theorem yH (k j:κ) (y:V):∀ kvs:List (κ × V),z9 kvs k = none -> z9 (kvs ++ [(k,y)]) j = if j = k then some y else z9 kvs j
  | [],_=>by
    by_cases e:k = j
    · rw [if_pos e.symm];exact qE (p:=(k,y)) e
    · rw [if_neg (fun z=>e z.symm)];exact qF (p:=(k,y)) e
  | p :: r,hn=>by
    rw [List.cons_append]
    have hk:¬ p.1 = k:=fun z=>by rw [qE z] at hn;cases hn
    rw [qF hk] at hn
    have ih:=yH k j y r hn
    by_cases e:p.1 = j
    · rw [qE e,qE e,if_neg (fun z=>hk (e.trans z))]
    · rw [qF e,qF e,ih]
theorem wG (kvs:List (κ × V)) (k j:κ) (y:V):z9 (qV kvs k y) j = if j = k then some y else z9 kvs j:=by
  unfold qV
  by_cases a:(kvs.any fun kv=>decide (kv.1 = k)) = true
  · rw [if_pos a,Z0]
    rw [j6] at a
    by_cases e:j = k
    · obtain ⟨x,hx⟩:=Option.isSome_iff_exists.mp a
      rw [if_pos e,e,hx,Option.map_some,if_pos rfl]
    · rw [if_neg e]
      cases z9 kvs j with
      | none=>rfl
      | some x=>rw [Option.map_some,if_neg e]
  · rw [if_neg a]
    refine yH k j y kvs ?_
    rw [j6] at a
    cases q:z9 kvs k with
    | none=>rfl
    | some x=>rw [q] at a;exact (a rfl).elim
theorem jA (kvs:List (κ × V)) (k:κ) (v:V):(qV kvs k v).length <= kvs.length + 1:=by
  unfold qV
  split
  · rw [List.length_map];omega
  · rw [List.length_append,List.length_cons,List.length_nil];omega
theorem vp {kvs:List (κ × V)} {k:κ} (v:V) (h:z9 kvs k = none):qV kvs k v = kvs ++ [(k,v)]:=by
  unfold qV
  rw [j6,h]
  exact if_neg (by decide)
theorem RelO.isSome_eq {o:Option V} {u:Option Value} (r:RelO o u):o.isSome = u.isSome:=by
  cases o with
  | none=>cases u with
    | none=>rfl
    | some _=>exact (show False from r).elim
  | some _=>cases u with
    | none=>exact (show False from r).elim
    | some _=>rfl
theorem RelO.getD {o:Option V} {u:Option Value} {d:V} {d':Value} (r:RelO o u) (rd:RelV d d'):RelV (o.getD d) (u.getD d'):=by
  cases o with
  | none=>cases u with
    | none=>exact rd
    | some _=>exact (show False from r).elim
  | some _=>cases u with
    | none=>exact (show False from r).elim
    | some _=>exact r
theorem KV.val {kvs:List (κ × V)} {vs:List (κ × Value)} (r:KV kvs vs) (k:κ):RelO (z9 kvs k) (valueAt vs k):=by
  unfold KV at r
  induction r with
  | nil=>exact True.intro
  | @cons p q ps qs h t ih=>
    obtain ⟨h1,h2⟩:=h
    by_cases e:p.1 = k
    · have e':q.1 = k:=h1.symm.trans e
      have b:valueAt (q :: qs) k = some q.2:=by simp [valueAt,List.find?_cons,e']
      rw [qE e,b];exact h2
    · have e':¬ q.1 = k:=fun z=>e (h1.trans z)
      have b:valueAt (q :: qs) k = valueAt qs k:=by simp [valueAt,List.find?_cons,e']
      rw [qF e,b];exact ih
theorem KV.any {kvs:List (κ × V)} {vs:List (κ × Value)} (r:KV kvs vs) (k:κ):(kvs.any fun kv=>decide (kv.1 = k)) = vs.any fun kv=>decide (kv.1 = k):=by
  unfold KV at r
  induction r with
  | nil=>rfl
  | cons h t ih=>rw [List.any_cons,List.any_cons,ih,h.1]
theorem KV.repl {kvs:List (κ × V)} {vs:List (κ × Value)} (r:KV kvs vs) (k:κ) {y:V} {u:Value} (ry:RelV y u) :
    KV (kvs.map fun kv=>if kv.1 = k then (kv.1,y) else kv) (vs.map fun kv=>if kv.1 = k then (kv.1,u) else kv):=by
  unfold KV at r ⊢
  induction r with
  | nil=>exact .nil
  | @cons p q ps qs h t ih=>
    rw [List.map_cons,List.map_cons]
    refine .cons ?_ ih
    obtain ⟨h1,h2⟩:=h
    by_cases e:p.1 = k
    · rw [if_pos e,if_pos (h1.symm.trans e)];exact ⟨h1,ry⟩
    · rw [if_neg e,if_neg (fun z=>e (h1.trans z))];exact ⟨h1,h2⟩
theorem KV.put {kvs:List (κ × V)} {vs:List (κ × Value)} (r:KV kvs vs) (k:κ) {y:V} {u:Value} (ry:RelV y u):KV (qV kvs k y) (stored vs k u):=by
  unfold qV stored
  rw [r.any k]
  by_cases e:(vs.any fun kv=>decide (kv.1 = k)) = true
  · rw [if_pos e,if_pos e];exact r.repl k ry
  · rw [if_neg e,if_neg e];exact Paired.snoc r ⟨rfl,ry⟩
theorem KV.length {kvs:List (κ × V)} {vs:List (κ × Value)} (r:KV kvs vs):kvs.length = vs.length:=Paired.length r
end
theorem xW {P:Program} {w:World} {k:Key} {u:Value} (r:RelV (kV k) u):(zC P w).is k u = true:=by
  cases k with
  | inl i=>obtain ⟨t,e⟩:=(show ∃ t,u = Value.int i t from r);subst e;exact Qt P w i t
  | inr x=>obtain ⟨t,e⟩:=(show ∃ t,u = Value.str x t from r);subst e;exact Qs P w x t
theorem y6 {P:Program} {w:World}:∀ {ks:List Key} {us:List Value},Vals (ks.map kV) us -> ItemsAre (zC P w) ks us
  | [],_,r=>by rw [List.map_nil] at r;cases r;exact .nil
  | k :: ks,_,r=>by
    rw [List.map_cons] at r
    cases r with
    | cons h t=>exact .cons (xW h) (y6 t)
abbrev KT (H:Hp):List (List Key × V) -> List (List Key × Addr × Value) -> Prop:=Paired fun p q=>p.1 = q.1 /\ H q.2.1 = some (.tup (p.1.map kV)) /\ RelV p.2 q.2.2
theorem KT.val {H:Hp} {kvs:List (List Key × V)} {xs:List (List Key × Addr × Value)} (r:KT H kvs xs) (k:List Key):RelO (z9 kvs k) ((atKey xs k).map (·.2)):=by
  induction r with
  | nil=>exact True.intro
  | @cons p q ps qs h t ih=>
    obtain ⟨h1,_,h2⟩:=h
    by_cases e:p.1 = k
    · have e':q.1 = k:=h1.symm.trans e
      have b:atKey (q :: qs) k = some q.2:=by simp [atKey,List.find?_cons,e']
      rw [qE e,b];exact h2
    · have e':¬ q.1 = k:=fun z=>e (h1.trans z)
      have b:atKey (q :: qs) k = atKey qs k:=by simp [atKey,List.find?_cons,e']
      rw [qF e,b];exact ih
theorem KT.repl {H:Hp} {kvs:List (List Key × V)} {xs:List (List Key × Addr × Value)} (r:KT H kvs xs) (k:List Key) {y:V} {u:Value} (ry:RelV y u) :
    KT H (kvs.map fun kv=>if kv.1 = k then (kv.1,y) else kv) (xs.map (putAt k u)):=by
  induction r with
  | nil=>exact .nil
  | @cons p q ps qs h t ih=>
    rw [List.map_cons,List.map_cons]
    refine .cons ?_ ih
    obtain ⟨h1,h2,h3⟩:=h
    unfold putAt
    by_cases e:p.1 = k
    · rw [if_pos e,if_pos (h1.symm.trans e)];exact ⟨h1,h2,ry⟩
    · rw [if_neg e,if_neg (fun z=>e (h1.trans z))];exact ⟨h1,h2,h3⟩
theorem KT.put {H:Hp} {kvs:List (List Key × V)} {xs:List (List Key × Addr × Value)} (r:KT H kvs xs) (k:List Key) {b:Addr} {y:V} {u:Value} (hb:H b = some (.tup (k.map kV))) (ry:RelV y u) :
    KT H (qV kvs k y) (storedH xs k b u):=by
  have e:(kvs.any fun kv=>decide (kv.1 = k)) = (atKey xs k).isSome:=by
    rw [j6,(r.val k).isSome_eq,Option.isSome_map]
  unfold qV storedH
  rw [e]
  by_cases q:(atKey xs k).isSome = true
  · rw [if_pos q,if_pos q];exact r.repl k ry
  · rw [if_neg q,if_neg q];exact Paired.snoc r ⟨rfl,hb,ry⟩
theorem KT.keeps {H H':Hp} {kvs:List (List Key × V)} {xs:List (List Key × Addr × Value)} (r:KT H kvs xs) (ht:∀ b ys,H b = some (.tup ys) -> H' b = some (.tup ys)):KT H' kvs xs:=
  Paired.mapP r fun _ _ z=>⟨z.1,ht _ _ z.2.1,z.2.2⟩
section
variable {P:Program} {w:World} {H:Hp} {h:Heap} {a:Addr}
theorem zav {u:HO} (ok:HOk P w H h) (e:Rd H a u):ObjOk P w H h a u:=e.ok ok
theorem xH {kvs:List (Key × V)} (ok:HOk P w H h) (e:Rd H a (.dK kvs)):kvs.length <= sizeLine /\ (a == sysModules) = false /\ ∃ vs,KV kvs vs /\ h.DictOf (zC P w) a vs:=
  show ObjOk P w H h a (.dK kvs) from zav ok e
theorem QG {kvs:List (Key × V)} (ok:HOk P w H h) (e:H a = some (.dK kvs)):kvs.length <= sizeLine /\ (a == sysModules) = false /\ ∃ vs,KV kvs vs /\ h.DictOf (zC P w) a vs:=xH ok (.inl e)
theorem yc {ks:List Key} (ok:HOk P w H h) (e:H a = some (.tup (ks.map kV))):(tupleKind (zC P w)).is h ks a:=by
  obtain ⟨_,its,r,⟨o,h1,h2,n,h3⟩,_⟩:=(show ObjOk P w H h a (.tup (ks.map kV)) from ok a _ e)
  exact ⟨o,its.toArray,n,h1,h2,h3,by simpa using y6 r⟩
theorem Zc {kvs:List (List Key × V)} (ok:HOk P w H h) (e:Rd H a (.dT kvs)):kvs.length <= sizeLine /\ (a == sysModules) = false /\
    ∃ xs,KT H kvs xs /\ h.DictOfH (tupleKind (zC P w)) a xs:=by
  obtain ⟨z,y,xs,r,o,es,ep,h1,h2,h3,h4,h5⟩:=(show ObjOk P w H h a (.dT kvs) from zav ok e)
  refine ⟨z,y,xs,r,o,es,ep,h1,h2,h3,h4,fun x hx=>?_,h5⟩
  have all:∀ {l:List (List Key × V)} {m:List (List Key × Addr × Value)},KT H l m -> ∀ x ∈ m,(tupleKind (zC P w)).is h x.1 x.2.1:=by
    intro l m q
    induction q with
    | nil=>intro x hx;exact nomatch hx
    | @cons p q ps qs hq t ih=>
      intro x hx
      rcases List.mem_cons.mp hx with e | hx
      · subst e
        exact yc ok (by rw [<- hq.1];exact hq.2.1)
      · exact ih x hx
  exact all r x hx
theorem zcG {kvs:List (List Key × V)} (ok:HOk P w H h) (e:H a = some (.dT kvs)):kvs.length <= sizeLine /\ (a == sysModules) = false /\
    ∃ xs,KT H kvs xs /\ h.DictOfH (tupleKind (zC P w)) a xs:=Zc ok (.inl e)
end
def DGet (H:Hp) (a:Addr) (y:V) (r:Option V):Prop:=
  (∃ kvs k,Rd H a (.dK kvs) /\ y = kV k /\ r = z9 kvs k) \/ ∃ kvs k b,Rd H a (.dT kvs) /\ y = .ref b /\ H b = some (.tup (k.map kV)) /\ r = z9 kvs k
def DPut (H:Hp) (a:Addr) (y v:V) (H':Hp):Prop:=
  (∃ kvs k,H a = some (.dK kvs) /\ y = kV k /\ kvs.length < sizeLine /\ H' = upd H a (.dK (qV kvs k v))) \/
  ∃ kvs k b,H a = some (.dT kvs) /\ y = .ref b /\ H b = some (.tup (k.map kV)) /\ kvs.length < sizeLine /\ H' = upd H a (.dT (qV kvs k v))
theorem DGet.k {H:Hp} {a:Addr} {kvs:List (Key × V)} {k:Key} (e:H a = some (.dK kvs)):DGet H a (kV k) (z9 kvs k):=.inl ⟨kvs,k,.inl e,rfl,rfl⟩
theorem DPut.k {H:Hp} {a:Addr} {kvs:List (Key × V)} {k:Key} {v:V} (e:H a = some (.dK kvs)) (hl:kvs.length < sizeLine):DPut H a (kV k) v (upd H a (.dK (qV kvs k v))):=.inl ⟨kvs,k,e,rfl,hl,rfl⟩
section
variable {X:Cx} {pins:List (Addr × Obj)} {σ:St} {H:Hp} {s:Shared} {a:Addr} {y v:V} {u r:Value} {o:Option V} {A:Around} {E:Value -> Shared -> Prop}
theorem Inv.big (I:Inv X pins σ H s):sysModules < s.heap.objs.size:=by
  have h:mainGlobals < s.heap.objs.size:=(I.mod.glob.keeps I.bk).lt
  exact Nat.lt_trans (by decide) h
theorem VA {Q:Value -> Shared -> Prop} (hu:A.units + 1 < cLine) (I:Inv X pins σ H s) (g:DGet H a y (some v)) (ry:RelV y u) (h:∀ w' s',Inv X pins σ H s' -> RelV v w' -> Q w' s') :
    wpAny (model X.prog X.w) A (getItem (.ref a) u) Q E s:=by
  rcases g with ⟨kvs,k,e,ey,l⟩ | ⟨kvs,k,b,e,ey,eb,l⟩
  · subst ey
    obtain ⟨z,hd,vs,rel,dd⟩:=xH I.hok e
    obtain ⟨w',hw,rw'⟩:=RelO.some_of (v:=v) (o:=valueAt vs k) (by rw [l];exact rel.val k)
    exact wpAny_getItem_of (xW ry) dd.mapOf hw (h w' _ (I.tok _) rw')
  · subst ey
    cases (show u = Value.ref b from ry)
    obtain ⟨z,hd,xs,rel,dd⟩:=Zc I.hok e
    obtain ⟨w',hw,rw'⟩:=RelO.some_of (v:=v) (o:=(atKey xs k).map (·.2)) (by rw [l];exact rel.val k)
    obtain ⟨p,hp,hp2⟩:=Option.map_eq_some_iff.mp hw
    refine wpAny_getItem_heap (tupleKind_room_in1 hu) (yc I.hok eb) dd hp ?_
    rw [hp2]
    exact h w' _ (I.tok _) rw'
theorem zac {Q:Value -> Shared -> Prop} (hu:A.units + 1 < cLine) (I:Inv X pins σ H s) (g:DGet H a y o) (ry:RelV y u) (h:∀ s',Inv X pins σ H s' -> Q (.bool (!o.isSome)) s') :
    wpAny (model X.prog X.w) A (compareOp .NotIn u (.ref a)) Q E s:=by
  rcases g with ⟨kvs,k,e,ey,l⟩ | ⟨kvs,k,b,e,ey,eb,l⟩
  · subst ey
    obtain ⟨z,hd,vs,rel,dd⟩:=xH I.hok e
    refine wpAny_notIn_of (xW ry) hd dd.mapOf ?_
    rw [<- (rel.val k).isSome_eq,<- l]
    exact h _ (I.tok _)
  · subst ey
    cases (show u = Value.ref b from ry)
    obtain ⟨z,hd,xs,rel,dd⟩:=Zc I.hok e
    refine wpAny_notIn_heap (tupleKind_room_in1 hu) (yc I.hok eb) hd dd ?_
    have q:=(rel.val k).isSome_eq
    rw [Option.isSome_map] at q
    rw [<- q,<- l]
    exact h _ (I.tok _)
theorem vC {h':Heap} {t':Nat} {ob:HO} (I:Inv X pins σ H s) (mu:Mut (H a)) (hs:Heap.SameBut a s.heap h') (he:∃ q,h'.get? a = some q) (new:ObjOk X.prog X.w (upd H a ob) h' a ob) :
    Inv X pins σ (upd H a ob) { s with heap:=h',toks:=t' }:=
  I.write (x:=a) (e:=a) mu (.inl rfl) (fun b q hb z=>(hs.2 b hb).trans z) he new
theorem ye {P:Program} {w:World} {H':Hp} {h':Heap} {kvs:List (Key × V)} {vs:List (Key × Value)} (z:kvs.length <= sizeLine) (hd:(a == sysModules) = false) (rel:KV kvs vs) (dd:h'.DictOf (zC P w) a vs) :
    ObjOk P w H' h' a (.dK kvs):=⟨z,hd,vs,rel,dd⟩
theorem Zd {H':Hp} {Q:Unit -> Shared -> Prop} (hu:A.units + 1 < cLine) (I:Inv X pins σ H s) (g:DPut H a y v H') (ry:RelV y u) (rv:RelV v r) (h:∀ s',Inv X pins σ H' s' -> Q () s') :
    wpAny (model X.prog X.w) A (setItem (.ref a) u r) Q E s:=by
  rcases g with ⟨kvs,k,e,ey,l,eH⟩ | ⟨kvs,k,b,e,ey,eb,l,eH⟩
  · subst ey eH
    obtain ⟨z,hd,vs,rel,dd⟩:=QG I.hok e
    have hz:vs.length <= sizeLine:=by rw [<- rel.length];exact z
    have hl:(qV kvs k v).length <= sizeLine:=by have:=jA kvs k v;omega
    refine wpAny_setItem_pairs (hsz:=hz) (xW ry) dd fun h' dd' hs=>h _ ?_
    have he:∃ q,h'.get? a = some q:=let ⟨q,_,_,hq,_⟩:=dd';⟨q,hq⟩
    exact vC I (by rw [e];exact True.intro) hs he (ye hl hd (rel.put k rv) dd')
  · subst ey eH
    cases (show u = Value.ref b from ry)
    obtain ⟨z,hd,xs,rel,dd⟩:=zcG I.hok e
    have hz:xs.length <= sizeLine:=by rw [<- Paired.length rel];exact z
    have hl:(qV kvs k v).length <= sizeLine:=by have:=jA kvs k v;omega
    refine wpAny_setItem_heap (hsz:=hz) (tupleKind_room_in1 hu) (yc I.hok eb) dd fun h' dd' hs=>h _ ?_
    obtain ⟨q,es,ep,hq,h2,h3,h4,_,h5⟩:=dd'
    refine vC I (by rw [e];exact True.intro) hs ⟨q,hq⟩ ⟨hl,hd,_,(rel.put k eb rv).keeps fun c ys ec=>?_,q,es,ep,hq,h2,h3,h4,h5⟩
    rw [zi (J5 ec e (fun z=>nomatch z))]
    exact ec
end
section
variable {X:Cx} {pins:List (Addr × Obj)} {σ:St} {H:Hp} {s:Shared} {a:Addr} {kvs:List (Key × V)} {k:Key} {u:Value} {A:Around} {E:Value -> Shared -> Prop}
end
def zcL (i:Expr):Prop:=∀ ov iv,subscripted i false ov iv = operate [ov,iv] (getItem ov iv)
theorem Yo {prog:Program} {w:World} {A:Around} {E:Value -> Shared -> Prop} {s:Shared} {env:Env} {value slice:Expr} {pos:Pos} {T id:String} {Q:Value -> Shared -> Prop}
    (hl:typeLookup (.type T) "__getitem__" = pure (some (.builtin id))) (hs:zcL slice)
    (h:wpAny (model prog w) A (eval value env) (fun o s₁=>wpAny (model prog w) A (eval slice env) (fun i s₂=>s₂.TypeIs o T /\ wpAny (model prog w) A (getItem o i) Q E s₂) E s₁) E s) :
    wpAny (model prog w) A (eval (.Subscript value slice pos) env) Q E s:=by
  refine Subscript_ (wpAny_mono h (fun o s₁ h₁=>wpAny_mono h₁ (fun i s₂ h₂=>?_) fun _ _ x=>x) fun _ _ x=>x)
  obtain ⟨hT,h₂⟩:=h₂
  unfold subscriptTail
  refine wpAny_bind ?_
  rw [getitemInPython_of_ne hT.not_modules]
  refine wpAny_bind (wpAny_specialOf hT hl ?_)
  have fin:wpAny (model prog w) A (subscripted slice false o i) (fun r s₃=>wpAny (model prog w) A (letTemporaryGo value o r >>= fun _=>pure r) Q E s₃) E s₂:=by
    rw [hs o i]
    exact wpAny_operating (wpAny_mono h₂ (fun r s₃ h₃=>wpAny_bind (wpAny_letTemporaryGo (wpAny_pure h₃))) fun _ _ x=>x)
  first
    | exact wpAny_pure (wpAny_bind fin)
    | exact wpAny_bind (wpAny_pure (wpAny_bind fin))
    | exact wpAny_bind fin
theorem QJ {X:Cx} {pins:List (Addr × Obj)} {σ:St} {H:Hp} {s:Shared} {a:Addr} {y:V} {o:Option V} (I:Inv X pins σ H s) (g:DGet H a y o):s.TypeIs (.ref a) "dict" :=by
  rcases g with ⟨kvs,k,e,_,_⟩ | ⟨kvs,k,b,e,_,_,_⟩
  · obtain ⟨_,_,vs,_,dd⟩:=xH I.hok e
    exact dd.typeIs
  · obtain ⟨_,_,xs,_,dd⟩:=Zc I.hok e
    exact dd.typeIs
def zbU (td ty:TE):TE:=fun σ H Q=>td σ H fun x H1=>ty σ H1 fun y H2=>∃ a v,x = .ref a /\ DGet H2 a y (some v) /\ Q v H2
def Ym (ty td:TE):TE:=fun σ H Q=>ty σ H fun y H1=>td σ H1 fun x H2=>∃ a o,x = .ref a /\ DGet H2 a y o /\ Q (.bl (!o.isSome)) H2
def zca (td ty tv:TE):TS:=fun D σ H=>tv σ H fun v H1=>td σ H1 fun x H2=>ty σ H2 fun y H3=>∃ a H4,x = .ref a /\ DPut H3 a y v H4 /\ D.nx σ H4
section
variable {X:Cx} {o i e value:Expr} {pos pos' tpos:Pos} {td ty tv:TE}
theorem vw (hu:X.A.units + 1 < cLine) (ho:PE X o td) (hi:PE X i ty) (hs:zcL i):PE X (.Subscript o i pos) (zbU td ty):=by
  intro pins s σ H Q I h
  refine Yo PySem.F.slot_dict_getitem.lookup hs (thn (ho pins s σ H _ I h) fun u s1 ⟨x,H1,I1,rx,q1⟩=>thn (hi pins s1 σ H1 _ I1 q1) fun iv s2 ⟨y,H2,I2,ry,a,v,ex,g,q2⟩=>?_)
  subst ex
  obtain rfl:u = Value.ref a:=rx
  exact ⟨QJ I2 g,VA hu I2 g ry fun w' s3 I3 rw'=>⟨v,H2,I3,rw',q2⟩⟩
theorem vT (hu:X.A.units + 1 < cLine) (hi:PE X i ty) (ho:PE X o td):PC X .NotIn i o (Ym ty td):=by
  intro pins s σ H Q I h
  refine thn (hi pins s σ H _ I h) fun iv s1 ⟨y,H1,I1,ry,q1⟩=>thn (ho pins s1 σ H1 _ I1 q1) fun u s2 ⟨x,H2,I2,rx,a,ov,ex,g,q2⟩=>?_
  subst ex
  obtain rfl:u = Value.ref a:=rx
  exact zac hu I2 g ry fun s3 I3=>⟨.bl (!ov.isSome),H2,I3,rfl,q2⟩
theorem JV (hu:X.A.units + 1 < cLine) (ho:PE X o td) (hi:PE X i ty) (hv:PE X value tv) (hs:swapsWith value (some (.Subscript o i pos')) pos.line X.env = pure false) :
    PS X (.Assign [.Subscript o i pos'] value pos) (zca td ty tv):=by
  intro pins s σ H D I h
  refine wpAny_Assign_Subscript (thn (hv pins s σ H _ I h) fun r s1 ⟨v,H1,I1,rv,q1⟩=>thn (ho pins s1 σ H1 _ I1 q1) fun u s2 ⟨x,H2,I2,rx,q2⟩=>thn (hi pins s2 σ H2 _ I2 q2) fun iv s3 ⟨y,H3,I3,ry,a,H4,ex,g,q3⟩=>?_) hs
  subst ex
  obtain rfl:u = Value.ref a:=rx
  exact Zd hu I3 g ry rv fun s4 I4=>⟨σ,H4,I4,q3⟩
end
theorem QH {P:Program} {w:World} {H:Hp} (h:Heap) (hb:sysModules < h.objs.size):ObjOk P w H (h.push { cls:=.type "dict",data:=.dict #[] }) h.objs.size (.dK []):=
  ⟨Nat.zero_le _,beq_eq_false_iff_ne.mpr (Ne.symm (Nat.ne_of_lt hb)),[],.nil,Heap.DictOf.new h⟩
def zaO:TE:=fun _ H Q=>∀ p,H p = none -> Q (.ref p) (upd H p (.dK []))
section
variable {X:Cx} {pos:Pos}
theorem Qk:PE X (.Dict [] [] pos) zaO:=fun pins s σ H Q I h=>
  wpAny_Dict_empty ⟨.ref s.heap.objs.size,_,I.laid (a:=s.heap.objs.size) (o:=.dK []) (t':=s.toks) (fun _ _ q=>Heap.get?_push_of_some _ q) (Nat.le_refl _) (QH s.heap I.big),rfl,h _ (I.hok.fresh (Nat.le_refl _))⟩
end
def QZ:List (TE × TE) -> St -> Hp -> (List (V × V) -> Hp -> Prop) -> Prop
  | [],_,H,Q=>Q [] H
  | (tk,tv) :: r,σ,H,Q=>tk σ H fun x H1=>tv σ H1 fun y H2=>QZ r σ H2 fun ps H3=>Q ((x,y) :: ps) H3
abbrev VV:List (V × V) -> List (Value × Value) -> Prop:=Paired fun p q=>RelV p.1 q.1 /\ RelV p.2 q.2
def PPs (X:Cx) (pos:Pos) (keys:List (Option Expr)) (values:List Expr) (trs:List (TE × TE)):Prop:=
  ∀ (pins:List (Addr × Obj)) (s:Shared) (σ:St) (H:Hp) (Q:List (V × V) -> Hp -> Prop),Inv X pins σ H s -> QZ trs σ H Q ->
    wpAny (model X.prog X.w) X.A (evalPairs (pairTrees keys values X.env pos)) (fun vs s'=>∃ ps H',Inv X pins σ H' s' /\ VV ps vs /\ Q ps H') X.xe s
theorem Yw {X:Cx} {pos:Pos}:PPs X pos [] [] []:=fun pins s σ H Q I h=>pairTrees_nil_walk ⟨[],H,I,.nil,h⟩
theorem Wm {X:Cx} {pos:Pos} {k v:Expr} {ks:List (Option Expr)} {vs:List Expr} {tk tv:TE} {trs:List (TE × TE)} (hk:PE X k tk) (hv:PE X v tv) (hr:PPs X pos ks vs trs) :
    PPs X pos (some k :: ks) (v :: vs) ((tk,tv) :: trs):=fun pins s σ H Q I h=>
  pairTrees_cons_walk (thn (hk pins s σ H _ I h) fun u s1 ⟨x,H1,I1,rx,q1⟩=>thn (hv pins s1 σ H1 _ I1 q1) fun w2 s2 ⟨y,H2,I2,ry,q2⟩=>
    thn (hr pins s2 σ H2 _ I2 q2) fun ws s3 ⟨ps,H3,I3,rel,q3⟩=>⟨(x,y) :: ps,H3,I3,.cons ⟨rx,ry⟩ rel,q3⟩)
def qG (kvs more:List (Key × V)):List (Key × V):=more.foldl (fun acc kv=>qV acc kv.1 kv.2) kvs
theorem KV.merge:∀ {more:List (Key × V)} {rs:List (Key × Value)} {kvs:List (Key × V)} {vs:List (Key × Value)},KV more rs -> KV kvs vs -> KV (qG kvs more) (merged vs rs):=by
  intro more rs kvs vs r
  unfold KV at r
  induction r generalizing kvs vs with
  | nil=>intro q;exact q
  | @cons p q ps qs h t ih=>
    intro r0
    have e:KV (qV kvs p.1 p.2) (stored vs q.1 q.2):=by
      have:=r0.put p.1 h.2
      rw [<- h.1];exact this
    exact ih e
theorem jw:∀ (more kvs:List (Key × V)),(qG kvs more).length <= kvs.length + more.length
  | [],kvs=>by show kvs.length <= kvs.length + 0;omega
  | p :: r,kvs=>by
    have h1:=jw r (qV kvs p.1 p.2)
    have h2:=jA kvs p.1 p.2
    show (qG (qV kvs p.1 p.2) r).length <= _
    rw [List.length_cons];omega
theorem yh {P:Program} {w:World}:∀ {kvs:List (Key × V)} {ws:List (Value × Value)},VV (kvs.map fun kv=>(kV kv.1,kv.2)) ws -> ∃ rs,Carries (zC P w) ws rs /\ KV kvs rs
  | [],_,r=>by rw [List.map_nil] at r;cases r;exact ⟨[],True.intro,.nil⟩
  | p :: kvs,_,r=>by
    rw [List.map_cons] at r
    cases r with
    | @cons a b as bs h t=>
      obtain ⟨rs,c,q⟩:=yh (P:=P) (w:=w) t
      obtain ⟨b1,b2⟩:=b
      exact ⟨(p.1,b2) :: rs,⟨xW h.1,rfl,c⟩,.cons ⟨rfl,h.2⟩ q⟩
def zbS (trs:List (TE × TE)):TE:=fun σ H Q=>∀ p,H p = none -> QZ trs σ (upd H p (.dK [])) fun ps H2=>H2 p = some (.dK []) /\ ∃ kvs:List (Key × V),ps = kvs.map (fun kv=>(kV kv.1,kv.2)) /\ kvs.length <= 15 /\ Q (.ref p) (upd H2 p (.dK (qG [] kvs)))
theorem YE {X:Cx} {pos:Pos} {keys:List (Option Expr)} {values:List Expr} {trs:List (TE × TE)} (h:PPs X pos keys values trs) (hall:keys.all (·.isSome) = true) (hl:keys.length = values.length) (h0:keys ≠ [])
    (h15:keys.length <= 15):PE X (.Dict keys values pos) (zbS trs):=by
  intro pins s σ H Q I q
  have hn:=I.hok.fresh (Nat.le_refl s.heap.objs.size)
  have I1:=I.laid (a:=s.heap.objs.size) (o:=.dK []) (h':=s.heap.push { cls:=.type "dict",data:=.dict #[] }) (t':=s.toks) (fun _ _ q=>Heap.get?_push_of_some _ q) (Nat.le_refl _) (QH s.heap I.big)
  refine wpAny_Dict_walk (knd:=zC X.prog X.w) hall hl h0 h15 (thn (h pins _ σ _ _ I1 (q _ hn)) fun ws s2 ⟨ps,H2,I2,rel,e,kvs,ep,lk,q2⟩=>?_)
  subst ep
  obtain ⟨rs,c,rk⟩:=yh (P:=X.prog) (w:=X.w) rel
  obtain ⟨z,hd,vs0,r0,dd⟩:=QG I2.hok e
  cases r0
  refine ⟨rs,c,dd,fun h' dd' hs=>⟨.ref s.heap.objs.size,_,?_,rfl,q2⟩⟩
  have hz:(qG [] kvs).length <= sizeLine:=by
    have h1:=jw kvs []
    rw [List.length_nil] at h1
    rw [sizeLine_eq];omega
  have he:∃ q,h'.get? s.heap.objs.size = some q:=let ⟨q,_,_,hq,_⟩:=dd';⟨q,hq⟩
  exact vC I2 (by rw [e];exact True.intro) hs he (ye hz hd (rk.merge .nil) dd')
structure M1 (X:Cx) (o:Expr) (m:Str) (apos:Pos) (e:Expr) (cpos:Pos):Prop where
  base:attributeBase o m X.env (eval o X.env) = eval o X.env
  few:((backTo cpos (starEach [e] X.env)).all (fun x=>!x.1) && (backToKw cpos (keywordEach [] X.env)).all (fun x=>x.1.isSome)
    && decide (([e]:List Expr).length + ([]:List Keyword).length + (if ([]:List Keyword).isEmpty then 0 else 1) < 30)) = true
  line:(apos.endLine == cpos.line) = true
  trees:backTo cpos (starEach [e] X.env) = [(false,eval e X.env)]
structure M2 (X:Cx) (o:Expr) (m:Str) (apos:Pos) (e f:Expr) (cpos:Pos):Prop where
  base:attributeBase o m X.env (eval o X.env) = eval o X.env
  few:((backTo cpos (starEach [e,f] X.env)).all (fun x=>!x.1) && (backToKw cpos (keywordEach [] X.env)).all (fun x=>x.1.isSome)
    && decide (([e,f]:List Expr).length + ([]:List Keyword).length + (if ([]:List Keyword).isEmpty then 0 else 1) < 30)) = true
  line:(apos.endLine == cpos.line) = true
  trees:backTo cpos (starEach [e,f] X.env) = [(false,eval e X.env),(false,eval f X.env)]
def IsD (H:Hp) (a:Addr):Prop:=(∃ kvs,Rd H a (.dK kvs)) \/ ∃ kvs,Rd H a (.dT kvs)
theorem ZN {X:Cx} {pins:List (Addr × Obj)} {σ:St} {H:Hp} {s:Shared} {a:Addr} (I:Inv X pins σ H s) (d:IsD H a) :
    s.TypeIs (.ref a) "dict" /\ (∀ b,Value.ref a = .ref b -> ∃ ob,s.heap.get? b = some ob /\ ob.dict = none) /\ (a == sysModules) = false:=by
  rcases d with ⟨kvs,e⟩ | ⟨kvs,e⟩
  · obtain ⟨_,hd,vs,_,dd⟩:=xH I.hok e
    refine ⟨dd.typeIs,fun b q=>?_,hd⟩
    cases q
    obtain ⟨ob,_,_,h1,h2,_⟩:=dd
    exact ⟨ob,h1,h2.2.1⟩
  · obtain ⟨_,hd,xs,_,dd⟩:=Zc I.hok e
    refine ⟨dd.typeIs,fun b q=>?_,hd⟩
    cases q
    obtain ⟨ob,_,_,h1,h2,_⟩:=dd
    exact ⟨ob,h1,h2.2.1⟩
section
variable {X:Cx} {pins:List (Addr × Obj)} {σ:St} {H:Hp} {s:Shared} {a:Addr} {y d:V} {u r:Value} {o:Option V} {A:Around} {E:Value -> Shared -> Prop}
theorem zbE {Q:Value -> Shared -> Prop} (hu:A.units + 1 < cLine) (I:Inv X pins σ H s) (g:DGet H a y o) (ry:RelV y u) (rd:RelV d r) (h:∀ w' s',Inv X pins σ H s' -> RelV (o.getD d) w' -> Q w' s') :
    wpAny (model X.prog X.w) A (call (.builtin "dict.get") [.ref a,u,r]) Q E s:=by
  rcases g with ⟨kvs,k,e,ey,l⟩ | ⟨kvs,k,b,e,ey,eb,l⟩
  · subst ey
    obtain ⟨z,hd,vs,rel,dd⟩:=xH I.hok e
    refine call_meetsIn PySem.F.slot_dict_get dd.typeIs PySem.F.entry_dict_get (PySem.F.args_dict_get_3 _ _ _) (meets_dict_get_default (zC X.prog X.w) a (xW ry) hd r) ⟨_,dd.mapOf,h _ _ (I.tok _) ?_⟩
    rw [l]
    exact (rel.val k).getD rd
  · subst ey
    cases (show u = Value.ref b from ry)
    obtain ⟨z,hd,xs,rel,dd⟩:=Zc I.hok e
    refine call_meetsIn PySem.F.slot_dict_get dd.typeIs PySem.F.entry_dict_get (PySem.F.args_dict_get_3 _ _ _) (meetsH_dict_get_default (tupleKind (zC X.prog X.w)) a b hd r) ⟨tupleKind_room_in1 hu,k,xs,yc I.hok eb,dd,h _ _ (I.tok _) ?_⟩
    rw [l]
    exact (rel.val k).getD rd
end
def zaP (td ty tx:TE):TE:=fun σ H Q=>td σ H fun x H1=>∃ a,x = .ref a /\ IsD H1 a /\ ty σ H1 fun y H2=>tx σ H2 fun z H3=>∃ o,DGet H3 a y o /\ Q (o.getD z) H3
section
variable {X:Cx} {o e f:Expr} {apos cpos:Pos} {td ty tx:TE}
theorem Wv (hu:X.A.units + 1 < cLine) (ho:PE X o td) (he:PE X e ty) (hf:PE X f tx) (m:M2 X o "get" apos e f cpos):PE X (.Call (.Attribute o "get" apos) [e,f] [] cpos) (zaP td ty tx):=by
  intro pins s σ H Q I h
  refine wpAny_Call_method m.base m.few m.line PySem.F.plainAttrs_dict PySem.F.slot_dict_get PySem.F.type_dict_get (thn (ho pins s σ H _ I h) fun u s1 ⟨x,H1,I1,rx,a,ex,d,q1⟩=>?_)
  subst ex
  obtain rfl:u = Value.ref a:=rx
  obtain ⟨t1,t2,_⟩:=ZN I1 d
  refine ⟨t1,t2,?_⟩
  rw [m.trees]
  refine Calls.callWith_builtin rfl (Calls.evalArgs_plain (Calls.spliced_cons (thn (he pins s1 σ H1 _ I1 q1) fun iv s2 ⟨y,H2,I2,ry,q2⟩=>
    Calls.spliced_cons (thn (hf pins s2 σ H2 _ I2 q2) fun fv s3 ⟨z,H3,I3,rz,ov,g,q3⟩=>Calls.spliced_nil ?_))))
  exact zbE hu I3 g ry rz fun w' s4 I4 rw'=>⟨_,H3,I4,rw',q3⟩
end
section
variable {X:Cx} {pins:List (Addr × Obj)} {σ:St} {H:Hp} {s:Shared} {a:Addr} {kvs:List (Key × V)} {A:Around} {E:Value -> Shared -> Prop}
end
section
variable {X:Cx} {pins:List (Addr × Obj)} {σ:St} {H:Hp} {s:Shared} {a:Addr} {y:V} {u:Value} {A:Around} {E:Value -> Shared -> Prop}
end
end L2
namespace PySem
open PySem PySem.W PySem.Calls PyProof.Rows PyProof.V PySem.Spec
end PySem
namespace L2
open PySem PySem.Spec PyProof.Rows
section
variable {X:Cx}
end
section
variable {X:Cx} {tg:Expr}
end
section
variable {X:Cx}
end
section
variable {X:Cx}
end
section
variable {X:Cx}
variable {e st:Expr} {te:TE} {tk:TO} {pos p2:Pos}
end
end L2
namespace PySem
def RawD (h:Heap) (d:Addr) (es:Array DictEntry) (ep:Nat):Prop:=∃ o,h.get? d = some o /\ o.ExactDict /\ o.data = .dict es ep
theorem RawD.at {h h':Heap} {d:Addr} {es:Array DictEntry} {ep:Nat} (x:RawD h d es ep) (e:∀ o,h.get? d = some o -> h'.get? d = some o):RawD h' d es ep:=let ⟨o,a,b⟩:=x;⟨o,e _ a,b⟩
section
variable {prog:Program} {w:World} {A:Around} {E:Value -> Shared -> Prop} {s:Shared} {d it:Addr} {es:Array DictEntry} {ep i:Nat}
theorem Qg {Q:Value -> Shared -> Prop} (hd:(d == sysModules) = false) (hm:RawD s.heap d es ep)
    (hQ:Q (.ref s.heap.objs.size) { s with heap:=s.heap.push { cls:=.type "dict_keyiterator",data:=.fields #[.ref d,.int 0 0,.int es.size 0,.int ep 0] } }):wpAny (model prog w) A (pyIter (.ref d)) Q E s:=by
  obtain ⟨o,ho,hc,hdat⟩:=hm
  have ty:s.TypeIs (.ref d) "dict" :=⟨o,ho,hc.1⟩
  refine wpAny_pyIter_slot ty F.slot_dict_iter (wpAny_call_entry F.slot_dict_iter ty F.entry_dict_iter ?go (F.args_dict_iter_1 _))
  unfold Builtin.«dict.__iter__» Builtin.Dict.dictSlotNone
  refine wpAny_bind (wpAny_bind (wpAny_notOrdered_dict ty ?go2));refine (wpAny_pure ?go3:wpAny _ _ (pure (Value.ref d)) _ _ s)
  refine (?go7:wpAny _ _ (Builtin.Dict.showsAll d >>= _) _ _ s);unfold Builtin.Dict.showsAll
  rw [if_neg (by rw [hd];exact Bool.false_ne_true)];refine wpAny_bind (wpAny_pure ?go5)
  refine wpAny_bind (wpAny_dictEntries ho hdat (wpAny_bind (wpAny_dictEpoch ho hdat (wpAny_bind (wpAny_newObj_type (wpAny_pure ⟨_,rfl, "dict_keyiterator",_,⟨_,Heap.get?_push_size _ rfl,rfl⟩,F.slot_dict_keyiterator_next.lookup,?go6⟩))))))
  simpa [rawInt] using hQ
theorem Wi {e:DictEntry} {Q:Option Value -> Shared -> Prop} (hit:s.heap.IsKeyIter it d i es.size ep) (hm:RawD s.heap d es ep) (hx:es[i]? = some e)
    (hQ:∀ h',h'.IsKeyIter it d (i + 1) es.size ep -> Heap.SameBut it s.heap h' -> Q (some e.key) { s with heap:=h' }):wpAny (model prog w) A (pyNext (.ref it)) Q E s:=by
  obtain ⟨o,ho,hc,hd⟩:=id hit
  obtain ⟨od,hod,hcd,hdd⟩:=hm
  have ty:=hit.typeIs
  obtain ⟨lt,ee⟩:∃ h:i < es.size,es[i] = e:=Array.getElem?_eq_some_iff.mp hx
  unfold pyNext
  refine wpAny_bind (wpAny_attempt (wpAny_callSpecial?_slot (name:=Str.ofString "__next__") ty F.slot_dict_keyiterator_next (wpAny_call_entry F.slot_dict_keyiterator_next ty F.entry_dict_keyiterator_next ?a (F.args_dict_keyiterator_next_1 _))))
  refine wpAny_bind (wpAny_pure ?a1);refine wpAny_bind (wpAny_bind ?a2)
  first | refine wpAny_bind (wpAny_typeNameOfWhole_keyiter ty (wpAny_pure ?a3)) | refine wpAny_bind (wpAny_typeNameOf_keyiter ty (wpAny_pure ?a3))
  refine wpAny_bind (wpAny_fieldsOf ho hd ?a4)
  simp only [show Builtin.Dict_items.ownsTuple "dict_keyiterator" = false by decide,Bool.false_eq_true,if_false]
  refine (?a5:wpAny _ _ (if (Value.ref d == Value.none) = true then _ else _) _ _ s)
  rw [if_neg (show ¬ ((Value.ref d == Value.none) = true) from Bool.false_ne_true)];refine wpAny_bind (wpAny_pure (wpAny_bind (wpAny_dictEntries hod hdd ?a6)))
  rw [if_neg (by simp)];refine wpAny_bind (wpAny_pure (wpAny_bind (wpAny_dictEpoch hod hdd ?a7)))
  rw [if_neg (by simp)];refine wpAny_pure ?a8
  simp only [show ¬ ((i:Int) < 0) from by omega,if_false,Int.toNat_natCast,Array.getElem?_eq_getElem lt];refine wpAny_bind ?a9
  first | refine wpAny_bind (wpAny_typeNameOfWhole_keyiter ty (wpAny_pure ?b1)) | refine wpAny_bind (wpAny_typeNameOf_keyiter ty (wpAny_pure ?b1))
  refine wpAny_bind (wpAny_isOneOf_keyiter ty ?b2);refine (?b3:wpAny _ _ (setField (.ref it) 1 (rawInt ((i:Int) + 1)) >>= _) _ _ s)
  have hit':(s.heap.update it (Obj.mapFields (·.setIfInBounds 1 (rawInt ((i:Int) + 1))))).IsKeyIter it d (i + 1) es.size ep:=
    ⟨_,Heap.get?_update_self _ ho (Obj.isFreed_of_fields (Obj.data_mapFields hd _)),(Obj.cls_mapFields ..).trans hc,(by rw [Obj.data_mapFields hd];simp [rawInt])⟩
  refine wpAny_bind (wpAny_setField ho hd (by simp) (wpAny_bind (wpAny_holding (wpAny_bind (wpAny_isOneOf_keyiter (s:={ s with heap:=s.heap.update it (Obj.mapFields (·.setIfInBounds 1 (rawInt ((i:Int) + 1)))) }) hit'.typeIs ?b4)))))
  refine (?b5:wpAny _ _ (pure es[i].key) _ _ _)
  rw [ee];exact wpAny_pure (wpAny_pure ⟨_,rfl,wpAny_pure (hQ _ hit' (Heap.SameBut.update ..))⟩)
theorem Ys {Q:Option Value -> Shared -> Prop} (hh:A.handled = none) (hit:s.heap.IsKeyIter it d i es.size ep) (hm:RawD s.heap d es ep) (hx:es.size <= i)
    (hQ:∀ h',Heap.ExtBut it s.heap h' -> Q none { s with heap:=h' }):wpAny (model prog w) A (pyNext (.ref it)) Q E s:=by
  obtain ⟨o,ho,hc,hd⟩:=id hit
  obtain ⟨od,hod,hcd,hdd⟩:=hm
  have ty:=hit.typeIs
  unfold pyNext
  refine wpAny_bind (wpAny_attempt (wpAny_callSpecial?_slot (name:=Str.ofString "__next__") ty F.slot_dict_keyiterator_next (wpAny_call_entry F.slot_dict_keyiterator_next ty F.entry_dict_keyiterator_next ?a (F.args_dict_keyiterator_next_1 _))))
  refine wpAny_bind (wpAny_pure ?a1);refine wpAny_bind (wpAny_bind ?a2)
  first | refine wpAny_bind (wpAny_typeNameOfWhole_keyiter ty (wpAny_pure ?a3)) | refine wpAny_bind (wpAny_typeNameOf_keyiter ty (wpAny_pure ?a3))
  refine wpAny_bind (wpAny_fieldsOf ho hd ?a4)
  simp only [show Builtin.Dict_items.ownsTuple "dict_keyiterator" = false by decide,Bool.false_eq_true,if_false]
  refine (?a5:wpAny _ _ (if (Value.ref d == Value.none) = true then _ else _) _ _ s)
  rw [if_neg (show ¬ ((Value.ref d == Value.none) = true) from Bool.false_ne_true)];refine wpAny_bind (wpAny_pure (wpAny_bind (wpAny_dictEntries hod hdd ?a6)))
  rw [if_neg (by simp)];refine wpAny_bind (wpAny_pure (wpAny_bind (wpAny_dictEpoch hod hdd ?a7)))
  rw [if_neg (by simp)];refine wpAny_pure ?a8
  simp only [show ¬ ((i:Int) < 0) from by omega,if_false,Int.toNat_natCast,Array.getElem?_eq_none hx];refine wpAny_bind ?a9
  first | refine wpAny_bind (wpAny_typeNameOfWhole_keyiter ty (wpAny_pure ?b1)) | refine wpAny_bind (wpAny_typeNameOf_keyiter ty (wpAny_pure ?b1))
  refine (?b3:wpAny _ _ (setField (.ref it) 0 .none >>= _) _ _ s);refine wpAny_bind (wpAny_setField ho hd (by simp) ?b4)
  refine (?b5:wpAny _ _ (newExc (.type "StopIteration") [] >>= _) _ _ _);refine wpAny_bind ?b6
  simp only [newExc,newTuple];refine wpAny_bind (wpAny_newObj_type ?b7 (by size_fits))
  refine wpAny_bind (m:=firstArgMember _ _) (wpAny_of_eq (a:=Value.none) (by first | rfl | (simp only [firstArgMember];rfl)) (wpAny_newObj_type ?b8 (by size_fits)))
  simp only [raiseNew];refine wpAny_bind (wpAny_handled ?b9)
  rw [show A.in1.handled = none from hh];refine wpAny_bind (wpAny_pure (wpAny_throw ?c1))
  exact wpAny_bind (wpAny_isInstance (T:= "StopIteration") (b:=true) ⟨_,Heap.get?_push_size _ rfl,rfl⟩ isSubtype_stop (wpAny_pure (hQ _ (((Heap.SameBut.update ..).extBut.push _).push _))))
end
end PySem
namespace L2
open PySem PySem.Spec PyProof.Rows
section
variable {X:Cx} {tg:Expr}
end
section
variable {prog:Program} {w:World} {A:Around} {R:Result -> Shared -> Prop} {s:Shared}
end
section
variable {X:Cx} {kx vx tg1 iter1:Expr} {ifs1:List Expr} {tg iter:Expr} {ifs:List Expr} {scope:Scope} {pos:Pos} {wi wi1:TI} {g g1:TG} {tf tf1:TT} {tk tv:TE}
end
section
variable {X:Cx} {kx vx tg1 iter1:Expr} {ifs1:List Expr} {tg iter:Expr} {ifs:List Expr} {scope:Scope} {pos:Pos} {wi wi1:TI} {g g1:TG} {tf tf1:TT} {tk tv:TE}
end
abbrev qX (X:Cx) (N':List Str) (scope:Scope) (x:Str) (C:Addr) (s:Shared) (H:Hp) (ex:List Addr):Cx where
  prog:=X.prog
  w:=X.w
  K:=X.K
  mg:=X.mg
  base:=X.base
  A:=X.A
  N:=N'
  s₀:=s
  H₀:=H
  env:=compEnvC scope ((x,C + 1) :: qw X.env.cells scope.names []) C X.env
  outer:=X.stack
  stack:=X.stack
  ex:=ex
  fn:=fun y=>y == x
  calm:=X.calm
  pn:=[]
  xe:=fun _ _=>False
def ZR (sn on:List (Str × NameKind)) (N:List Str) (x:Str) (fr:List Str) (js:List Nat):Bool:=
  (sn.filter fun y=>y.2 == .cell) == [(x,.cell)] && sn.lookup x == some .cell && decide ([x] ++ fr).Nodup && sn.all (fun y=>(y.2 != .local || sn.lookup y.1 == some .local) && (y.2 != .free || (on.lookup y.1 == some .cell || on.lookup y.1 == some .free))) && fr.length == js.length
    && (fr.zip js).all fun p=>sn.lookup p.1 == some .free && N[p.2]? == some p.1
structure BlkOkC (sn on:List (Str × NameKind)) (N:List Str) (x:Str) (fr:List Str) (js:List Nat):Prop where
  one:(sn.filter fun y=>y.2 == .cell) = [(x,.cell)]
  lk:sn.lookup x = some .cell
  nd:([x] ++ fr).Nodup
  loc:∀ y ∈ sn,y.2 = NameKind.local -> sn.lookup y.1 = some .local
  free:∀ y ∈ sn,y.2 = NameKind.free -> on.lookup y.1 = some .cell \/ on.lookup y.1 = some .free
  len:fr.length = js.length
  fr:∀ (k:Nat) (x:Str),fr[k]? = some x -> sn.lookup x = some .free /\ ∃ j:Nat,js[k]? = some j /\ N[j]? = some x
theorem BlkOkC.is {sn on:List (Str × NameKind)} {N:List Str} {x:Str} {fr:List Str} {js:List Nat} (B:BlkOkC sn on N x fr js) {y:Str × NameKind} (h:y ∈ sn) (e:y.2 = .cell):y.1 = x:=by
  have:y ∈ sn.filter fun y=>y.2 == .cell:=List.mem_filter.mpr ⟨h,by rw [e];rfl⟩
  rw [B.one,List.mem_singleton] at this
  rw [this]
theorem Zm {sn on:List (Str × NameKind)} {N:List Str} {x:Str} {fr:List Str} {js:List Nat} (h:ZR sn on N x fr js = true):BlkOkC sn on N x fr js:=by
  unfold ZR at h
  simp only [Bool.and_eq_true,List.all_eq_true,beq_iff_eq,decide_eq_true_eq] at h
  obtain ⟨⟨⟨⟨⟨h0,h1⟩,hn⟩,h2⟩,h3⟩,h4⟩:=h
  refine ⟨h0,h1,hn,fun y hy e=>?_,fun y hy e=>?_,h3,fun k x e=>?_⟩
  · have:=(h2 y hy).1
    simp only [Bool.or_eq_true,bne_iff_ne,beq_iff_eq] at this
    exact this.resolve_left fun z=>z e
  · have:=(h2 y hy).2
    simp only [Bool.or_eq_true,bne_iff_ne,beq_iff_eq] at this
    exact this.resolve_left fun z=>z e
  · have hk:k < fr.length:=(List.getElem?_eq_some_iff.mp e).1
    have hj:k < js.length:=by omega
    have hm:(x,js[k]) ∈ fr.zip js:=by
      refine List.mem_of_getElem? (i:=k) ?_
      rw [List.getElem?_zip_eq_some]
      exact ⟨e,by simp [hj]⟩
    have:=h4 _ hm
    exact ⟨this.1,js[k],by simp [hj],this.2⟩
theorem yg:∀ {names:List (Str × NameKind)} (n:Nat) (acc:List (Str × Addr)) (h:Heap),(names.filter fun y=>y.2 == .cell) = [] -> cellsFrom n names acc = acc /\ pushCells h names = h
  | [],_,_,_,_=>⟨rfl,rfl⟩
  | (a,k) :: r,n,acc,h,e=>by
    by_cases q:(k == NameKind.cell) = true
    · rw [List.filter_cons,if_pos (show ((a,k).2 == NameKind.cell) = true from q)] at e
      cases e
    · rw [List.filter_cons,if_neg (show ¬ ((a,k).2 == NameKind.cell) = true from q)] at e
      unfold cellsFrom pushCells
      rw [if_neg q,if_neg q]
      exact yg n acc h e
theorem Ze {x:Str}:∀ {names:List (Str × NameKind)} (n:Nat) (acc:List (Str × Addr)) (h:Heap),(names.filter fun y=>y.2 == .cell) = [(x,.cell)] -> cellsFrom n names acc = (x,n) :: acc /\ pushCells h names = h.push { cls:=.type "cell",data:=.cell none }
  | [],_,_,_,e=>by cases e
  | (a,k) :: r,n,acc,h,e=>by
    by_cases q:(k == NameKind.cell) = true
    · rw [List.filter_cons,if_pos (show ((a,k).2 == NameKind.cell) = true from q)] at e
      injection e with e1 e2
      cases e1
      unfold cellsFrom pushCells
      rw [if_pos q,if_pos q]
      exact yg _ _ _ e2
    · rw [List.filter_cons,if_neg (show ¬ ((a,k).2 == NameKind.cell) = true from q)] at e
      unfold cellsFrom pushCells
      rw [if_neg q,if_neg q]
      exact Ze n acc h e
theorem Jg {M:Model} {A:Around} {E:Value -> Shared -> Prop} {s:Shared} {scope:Scope} {globals:Addr} {cl:List (Str × Addr)} {qual:Str} {env:Env} {x:Str} {Q:Env -> Shared -> Prop} (one:(scope.names.filter fun y=>y.2 == .cell) = [(x,.cell)])
    (hQ:Q { scope:=scope,locals:=s.heap.objs.size,globals:=globals,cells:=(x,s.heap.objs.size + 1) :: cl,qual:=qual,func:=none,code:=env.code,frame:=env.frame,builtins:=env.builtins } { s with heap:=(s.heap.push { cls:=.type "dict",data:=.dict #[] }).push { cls:=.type "cell",data:=.cell none } }) :
    wpAny M A (newFunctionEnv scope globals cl [] qual none .none (some env)) Q E s:=by
  simp only [newFunctionEnv,Option.isSome_some,if_true]
  refine wpAny_bind (wpAny_alloc (wpAny_bind (wpAny_layCells _ (fun name kind cells=>by cases hkc:kind == NameKind.cell <;> simp [hkc]) _ _ _ _ ?_)))
  obtain ⟨e1,e2⟩:=Ze (names:=scope.names) (x:=x) (s.heap.push { cls:=.type "dict",data:=.dict #[] }).objs.size cl (s.heap.push { cls:=.type "dict",data:=.dict #[] }) one
  rw [e1,e2,Heap.size_push]
  exact wpAny_bind (wpAny_pure (wpAny_pure hQ))
theorem va {env:Env} {x:Str}:∀ {names:List (Str × NameKind)},names.lookup x = some .cell -> (names.map fun (n,k)=>if (k == NameKind.free && env.scope.kind == .function && env.kindOf n == some .cell) then (n,NameKind.cell) else (n,k)).lookup x = some .cell
  | [],h=>by simp at h
  | (n,k) :: r,h=>by
    show List.lookup x ((if (k == NameKind.free && env.scope.kind == .function && env.kindOf n == some .cell) = true then (n,NameKind.cell) else (n,k)) :: _) = some NameKind.cell
    by_cases hx:(x == n) = true
    · rw [List.lookup_cons,hx] at h
      cases (Option.some.inj h)
      split <;> simp [List.lookup_cons,hx]
    · have hx':(x == n) = false:=by simpa using hx
      rw [List.lookup_cons,hx'] at h
      split
      · rw [List.lookup_cons,hx'];exact va h
      · rw [List.lookup_cons,hx'];exact va h
section
variable {X:Cx} {elt tg iter:Expr} {ifs:List Expr} {scope:Scope} {pos:Pos} {wi:TI} {g:TG} {tf:TT} {te:TE} {x:Str}
theorem Jr {pins:List (Addr × Obj)} {σ:St} {H:Hp} {s:Shared} {fp:List Addr} (fr:List Str) (js:List Nat) (I:Inv X pins σ H s) (B:BlkOkC scope.names X.env.scope.names X.N x fr js) (hk:scope.kind = .function)
    (f2:∀ b ∈ fp,jk X pins H b) (fl:∀ b ∈ fp,b < s.heap.objs.size) {D C:Addr} (hD:D = s.heap.objs.size) {h3 h1:Heap} (e3:h3 = s.heap.push { cls:=.type "list",dict:=none,data:=.seq ([]:List Value).toArray }) (hC:C = h3.objs.size)
    {m:Str -> Option Value} (hns:h1.Ns C m) (hcell:h1.IsCell (C + 1) none) (k4:∀ b o,h3.get? b = some o -> h1.get? b = some o) {t4:Nat} :
    Inv (qX X ([x] ++ fr) scope x C { s with heap:=h3 } H (D :: fp)) [] (upS 1 js σ) H { s with heap:=h1,toks:=t4 }:=by
  have k3:∀ b o,s.heap.get? b = some o -> h3.get? b = some o:=fun b o e=>by rw [e3];exact Heap.get?_push_of_some _ e
  have I3:Inv X pins σ H { s with heap:=h3 }:=I.kept (t':=s.toks) k3
  have hz:h3.objs.size = s.heap.objs.size + 1:=by rw [e3,Heap.size_push]
  have hasF:∀ y ∈ scope.names,y.2 = NameKind.free -> ∃ c,X.env.cells.lookup y.1 = some c:=fun y hy e=>I.ok.has y.1 (B.free y hy e)
  have cellLt:∀ x c,X.env.cells.lookup x = some c -> c < s.heap.objs.size:=fun x c e=>by
    obtain ⟨v,q⟩:=I.cell x c e
    exact q.lt
  have clt:∀ y c,(qw X.env.cells scope.names []).lookup y = some c -> c < C:=fun y c e=>by
    have:=cellLt y c (zT e hasF)
    rw [hC,hz];exact Nat.lt_succ_of_lt this
  have look:∀ y c,((x,C + 1) :: qw X.env.cells scope.names []).lookup y = some c -> (y = x /\ c = C + 1) \/ (y ≠ x /\ (qw X.env.cells scope.names []).lookup y = some c):=fun y c e=>by
    rw [List.lookup_cons] at e
    by_cases q:(y == x) = true
    · rw [q] at e
      exact .inl ⟨by simpa using q,(Option.some.inj e).symm⟩
    · rw [(Bool.not_eq_true _).mp q] at e
      exact .inr ⟨fun z=>q (by simpa using z),e⟩
  refine ⟨⟨I.ok.mod,hk,I.ok.glob,I.ok.blt,Nat.le_of_eq hC.symm,fun y1 y2 c e1 e2=>?_,fun y hy=>?_,fun y c hf e=>?_,fun hc=>I.ok.hd hc,I.ok.frames,.inl rfl,fun b hb=>?_,I3.bs,Nat.le_trans I.ok.bsz I3.sz,fun b o e hb=>?_,fun b hb hf=>?_,I3.stack,I3.stkFree⟩,
    rfl,I.bare,Un.kept k4,⟨m,hns,fun i y v e1 e2 e3'=>?_⟩,fun y c e=>?_,?_,fun y c e=>?_,fun p hp=>absurd (show p ∈ ([]:List (Addr × Obj)) from hp) (by simp),I3.hok.kept k4,?_⟩
  · rcases look _ _ e1 with ⟨a1,a2⟩ | ⟨a1,a2⟩ <;> rcases look _ _ e2 with ⟨b1,b2⟩ | ⟨b1,b2⟩
    · rw [a1,b1]
    · have:=clt _ _ b2
      rw [a2] at this
      exact absurd this (Nat.not_lt.mpr (Nat.le_succ _))
    · have:=clt _ _ a2
      rw [b2] at this
      exact absurd this (Nat.not_lt.mpr (Nat.le_succ _))
    · exact I.ok.inj _ _ c (zT a2 hasF) (zT b2 hasF)
  · by_cases q:y = x
    · subst q
      exact ⟨C + 1,by show List.lookup y ((y,C + 1) :: _) = _;simp [List.lookup_cons]⟩
    obtain ⟨k,e,z⟩:∃ k,scope.names.lookup y = some k /\ (k = .free):=by
      rcases hy with hx | hx
      · obtain ⟨k,e,z⟩:=xA hx
        rcases z with z | z
        · subst z;exact absurd (B.is (PySem.mem_of_lookup e) rfl) q
        · exact ⟨k,e,z.1⟩
      · obtain ⟨k,e,z⟩:=xA hx
        rcases z with z | z
        · subst z;exact ⟨_,e,rfl⟩
        · exact ⟨k,e,z.1⟩
    subst z
    refine ⟨(X.env.cells.lookup y).getD 0,?_⟩
    show List.lookup y ((x,C + 1) :: _) = _
    rw [List.lookup_cons,show (y == x) = false from by simpa using q]
    exact xU e
  · rcases look _ _ e with ⟨a1,a2⟩ | ⟨a1,a2⟩
    · rw [a2]
      show h3.objs.size <= C + 1
      rw [hC];exact Nat.le_succ _
    · exact absurd (by simpa using hf) a1
  · have ncell:∀ b,b < C -> ∀ y c,((x,C + 1) :: qw X.env.cells scope.names []).lookup y = some c -> (∀ y c,X.env.cells.lookup y = some c -> c ≠ b) -> c ≠ b:=fun b hb y c e h=>by
      rcases look _ _ e with ⟨a1,a2⟩ | ⟨a1,a2⟩
      · rw [a2];exact Nat.ne_of_gt (Nat.lt_succ_of_lt hb)
      · exact h y c (zT a2 hasF)
    rcases List.mem_cons.mp hb with z | hb
    · subst z
      refine ⟨by rw [hD,hC,hz];exact Nat.ne_of_lt (Nat.lt_succ_self _),fun y c e=>ncell _ (by rw [hD,hC,hz];exact Nat.lt_succ_self _) y c e fun y c e=>?_⟩
      have:=cellLt y c e
      rw [hD];exact Nat.ne_of_lt this
    · have hlt:b < C:=by rw [hC,hz];exact Nat.lt_succ_of_lt (fl b hb)
      exact ⟨Nat.ne_of_lt hlt,fun y c e=>ncell _ hlt y c e fun y c e=>(f2 b hb).2.2.2.2.1 y c e⟩
  · rcases List.mem_cons.mp hb with z | hb
    · have:=Heap.lt_size (I.bk b o e)
      rw [z,hD] at this
      exact Nat.lt_irrefl _ this
    · rcases (f2 b hb).2.2.2.1 with z | z
      · exact I.ok.noex b o e z
      · exact absurd (Nat.lt_of_lt_of_le (Heap.lt_size (I.ok.bs b o e).1) z) (Nat.lt_irrefl _)
  · have hf':=List.mem_cons.mp (I.stkSub b hf)
    rcases List.mem_cons.mp hb with z | hb
    · rcases hf' with y | y
      · have:=I.lt
        rw [<- y,z,hD] at this
        exact Nat.lt_irrefl _ this
      · exact I.nofs (a:=b) (by rw [z,hD];exact Nat.le_refl _) y
    · rcases hf' with y | y
      · exact (f2 b hb).2.1 y
      · exact (f2 b hb).2.2.1 y
  · obtain ⟨hn,_,j,ej,es⟩:=vg e2
    have ex:fr[i - 1]? = some y:=by
      rw [List.getElem?_append_right (show ([x]:List Str).length <= i from hn)] at e1
      exact e1
    obtain ⟨hfx,j',ej',eN⟩:=B.fr _ y ex
    have:j' = j:=by rw [ej] at ej';exact (Option.some.inj ej').symm
    subst this
    have hkx:=B.free _ (PySem.mem_of_lookup hfx) rfl
    obtain ⟨m0,_,hl⟩:=I.loc
    obtain ⟨u,r,l⟩:=hl j' y v eN es (by rcases hkx with z | z;exact .inr (.inl z);exact .inr (.inr z))
    refine ⟨u,r,.inr ?_⟩
    have yx:y ≠ x:=fun z=>by
      have:=B.lk
      rw [<- z,hfx] at this
      cases this
    rcases l with ⟨kl,_⟩ | ⟨_,c,ec,o,eo,ed⟩
    · have kl':X.env.scope.names.lookup y = some .local:=kl
      rcases hkx with z | z
      · exact absurd (z.symm.trans kl') (by decide)
      · exact absurd (z.symm.trans kl') (by decide)
    · obtain ⟨k',e',z⟩:=x9 (env:=X.env) hfx
      have eq:((x,C + 1) :: qw X.env.cells scope.names []).lookup y = some c:=by
        rw [List.lookup_cons,show (y == x) = false from by simpa using yx]
        show (qw X.env.cells scope.names []).lookup y = some c
        rw [xU hfx,ec];rfl
      refine ⟨?_,c,eq,o,k4 c o (k3 c o eo),ed⟩
      rcases z with z | z
      · subst z;exact .inl e'
      · subst z;exact .inr e'
  · rcases look _ _ e with ⟨a1,a2⟩ | ⟨a1,a2⟩
    · rw [a2];exact ⟨none,hcell⟩
    · obtain ⟨v,o,eo,ed⟩:=I.cell y c (zT a2 hasF)
      exact ⟨v,o,k4 c o (k3 c o eo),ed⟩
  · exact I3.hok.fresh (Nat.le_of_eq hC.symm)
  · rcases look _ _ e with ⟨a1,a2⟩ | ⟨a1,a2⟩
    · rw [a2]
      exact I3.hok.fresh (by show h3.objs.size <= C + 1;rw [hC];exact Nat.le_succ _)
    · exact I.freeC y c (zT a2 hasF)
  · rw [Jy,<- B.len]
    show _ = ([x] ++ fr).length
    rw [List.length_append];rfl
end
end L2
namespace L2
end L2
namespace L2
open PySem PySem.W PySem.Spec PyProof.Rows
abbrev bmV:List Value:=[.type "ValueError",.type "Exception",.type "BaseException",.type "object"]
def zcQ (K:Frag) (C:Addr) (ini:Option Value):Bool:=match K.lookup C with
  | some ⟨.type "type",_,.cls cd,sl⟩=>(match cd.mro with
    | .ref C' :: bm=>(match sl.toList with
      | [_,_,_,_,some (.builtin n),_]=>C' == C && (n == "ValueError.__new__" && (!cd.hasDel && (tailIn K bmV bm && (nsOkIn K cd.ns && nsIn K cd.ns "__init__" == some ini))))
      | _=>false)
    | _=>false)
  | _=>false
structure Xc (h:Heap) (C:Addr) (ini:Option Value):Prop where
  is:∃ (bm:List Value) (N:Addr) (nm qn:Str) (bs:List Value) (hd:Bool) (sn:List Str) (sub:List Value) (ab:Bool) (col:Option Bool) (dd:Option Addr) (k0 k1 k2 k3 k5:Option Value) (mN:Str -> Option Value),
    h.get? C = some (excClassObj nm qn C N bs bm hd sn sub ab col dd k0 k1 k2 k3 k5 "ValueError.__new__") /\ h.Ns N mN /\ mN "__init__" = ini /\ OwnTail h bmV bm
end L2
namespace L2
open PySem PySem.W PySem.Spec PyProof.Rows
section
variable {P:Program} {w:World} {H:Hp} {h h':Heap} {a:Addr} {o:HO}
theorem ObjOk.has (x:ObjOk P w H h a o):∃ u,h.get? a = some u:=by
  cases o with
  | lst xs=>obtain ⟨_,_,_,_,e⟩:=x;exact ⟨_,e⟩
  | tup xs=>obtain ⟨_,_,_,⟨u,e,_⟩,_⟩:=x;exact ⟨u,e⟩
  | dK kvs=>obtain ⟨_,_,_,_,u,_,_,e,_⟩:=x;exact ⟨u,e⟩
  | dT kvs=>obtain ⟨_,_,_,_,u,_,_,e,_⟩:=x;exact ⟨u,e⟩
  | set S n=>obtain ⟨u,_,_,_,e,_⟩:=x;exact ⟨u,e⟩
  | ins C dx fs=>obtain ⟨_,_,_,e,_⟩:=x;exact ⟨_,e⟩
  | own y=>obtain ⟨u,e⟩:=x;exact ⟨u,e⟩
  | xd fs=>obtain ⟨_,⟨u,_,_,e,_⟩,_⟩:=x;exact ⟨u,e⟩
  | rng lo hi=>obtain ⟨_,_,_,e⟩:=x;exact ⟨_,e⟩
  | frz ob u=>obtain ⟨e,_⟩:=x;exact ⟨_,e⟩
  | tbl ps=>exact ⟨_,show h.get? a = some _ from x⟩
  | met f y=>exact ⟨_,show h.get? a = some _ from x⟩
  | ext φ=>obtain ⟨_,⟨u,e⟩,_⟩:=x;exact ⟨u,e⟩
theorem HOk.none_of (x:HOk P w H h) (e:h.get? a = none):H a = none:=by
  cases q:H a with
  | none=>rfl
  | some u=>obtain ⟨z,ez⟩:=(x a u q).has;rw [e] at ez;cases ez
end
section
variable {X:Cx} {pins:List (Addr × Obj)} {σ:St} {H:Hp} {s:Shared} {h':Heap}
theorem Inv.laidN {a:Addr} {o:HO} {t':Nat} (I:Inv X pins σ H s) (k:∀ b u,s.heap.get? b = some u -> h'.get? b = some u) (hn:s.heap.get? a = none) (new:ObjOk X.prog X.w (upd H a o) h' a o) :
    Inv X pins σ (upd H a o) { s with heap:=h',toks:=t' }:=by
  have hH:=I.hok.none_of hn
  have ne:∀ b u,s.heap.get? b = some u -> b ≠ a:=fun b u q z=>by rw [z,hn] at q;cases q
  have neH:∀ b u,H b = some u -> b ≠ a:=fun b u q z=>by rw [z,hH] at q;cases q
  refine I.un ⟨fun b u q _ _ _=>k b u q,fun b u q _ _ _=>⟨u.slots,k b u q⟩,fun b u q n _=>by rw [zi (ne b u q)];exact n,fun b u q _=>⟨u,k b u q⟩,
    fun b xs q=>by rw [zi (neH b _ q)];exact q,fun b u xs q=>by rw [zi (neH b _ q)];exact q,fun b ps q=>⟨#[],by rw [zi (neH b _ q),q];simp⟩⟩ ?_
  intro b u e
  by_cases hb:b = a
  · subst hb;rw [zb] at e;cases e;exact new
  · rw [zi hb] at e
    exact (I.hok b u e).stay (fun c v _ q=>k c v q) (fun c q=>by rw [zi (neH c _ q)];exact q) fun c xs q=>by rw [zi (neH c _ q)];exact q
end
section
variable {prog:Program} {w:World} {A:Around} {E:Value -> Shared -> Prop} {h:Heap} {g:Array GenState} {d:Drawn} {t:Nat} {os:OsState} {C:Addr}
end
section
variable {prog:Program} {w:World} {A:Around} {E:Value -> Shared -> Prop} {h:Heap} {g:Array GenState} {d:Drawn} {t:Nat} {os:OsState}
variable {nm q:Str} {C N:Addr} {bs bm:List Value} {hdct:Bool} {sn:List Str} {sub:List Value} {ab:Bool} {col:Option Bool} {dd:Option Addr} {k0 k1 k2 k3 k5:Option Value}
end
end L2
namespace L2
open PySem PySem.W PySem.Spec PyProof.Rows
structure XK2 (K:Frag) (C:Addr) (ini:Option Value):Prop where
  cls:zcQ K C ini = true
  sa:findIn K (.ref C) "__setattr__" = some (some (.builtin "object.__setattr__"))
  ga:findIn K (.ref C) "__getattribute__" = some (some (.builtin "BaseException.__getattribute__"))
  gh:findIn K (.ref C) "__getattr__" = some none
  ob:mroIn K C (.type "object") = some true
  be:mroIn K C (.type "BaseException") = some true
  hd:hasDictIn K C = true
section
variable {prog:Program} {w:World} {A:Around} {E:Value -> Shared -> Prop} {h:Heap} {g:Array GenState} {d:Drawn} {t:Nat} {os:OsState} {K:Frag} {C e t0:Addr} {ini:Option Value} {f:Str} {v:Value}
end
end L2
namespace L2
open PySem PySem.W PySem.Spec PyProof.Rows
section
variable {prog:Program} {w:World} {A:Around} {E:Value -> Shared -> Prop} {h:Heap} {g:Array GenState} {d:Drawn} {t:Nat} {os:OsState} {K:Frag} {C e t0 dx:Addr} {od:Option Addr} {ini:Option Value} {f:Str} {v:Value} {mA:Str -> Option Value}
end
end L2
namespace L2
open PySem PySem.W PySem.Spec PyProof.Rows
structure XKc (K:Frag) (C:Addr):Prop where
  lk:findIn K (.ref C) "__class__" = some (some (.builtin "object.__class__"))
  gt:specialIn K (.builtin "object.__class__") "__get__" = some (some (.builtin "getset_descriptor.__get__"))
  tk:takesIn K (.builtin "object.__class__") = some true
section
variable {prog:Program} {w:World} {A:Around} {E:Value -> Shared -> Prop} {h:Heap} {g:Array GenState} {d:Drawn} {t:Nat} {os:OsState} {K:Frag} {C C' e t0:Addr} {dx:Option Addr} {ini:Option Value} {od:Option Obj}
end
end L2
namespace L2
open PySem PySem.W PySem.Spec PyProof.Rows
structure XOk (K:Frag) (C:Addr) (ini:Option Value):Prop where
  k:XK2 K C ini
  c:XKc K C
  kp:keepIn K (.ref C) = true
  ty:typeIn K (.ref C) = some (.type "type")
  cd:∃ cd,clsIn K C = some cd
  ve:mroIn K C (.type "ValueError") = some true
section
variable {X:Cx} {CX:CXT} {k:Nat} {f C:Addr} {fd:FuncData} {ps:List Str} {ds:List Value} {dvs:List V} {sp:Sp} {E:XK} {x m:Str} {p pos apos:Pos} {e o value:Expr} {es:List Expr} {t:TA} {ta tv:TE} {ini:Option Value}
end
end L2
namespace L2
open PySem PySem.W PySem.Spec PyProof.Rows
section
variable {X:Cx}
end
structure Xs (K:Frag) (mg:Str -> Option Value) (x:Str) (C:Addr) (ini:Option Value):Prop where
  ok:XOk K C ini
  gl:mg x = some (.ref C)
structure XsI (P:Program) (w:World) (K:Frag) (mg:Str -> Option Value) (base:Heap) (x:Str) (C f:Addr) (k:Nat) (ps:List Str) (sp:Sp):Prop extends Xs K mg x C (some (.ref f)) where
  ex:∃ fd oF,qA P w K mg base CX0 k f fd ps sp /\ K.lookup f = some oF /\ oF.cls = .type "function" /\ Binds K fd ps []
section
variable {X:Cx} {x:Str} {k:Nat} {C f:Addr} {ps:List Str} {sp:Sp} {p pos:Pos} {e:Expr} {es:List Expr} {t:TA}
end
end L2
namespace L2
open PySem PySem.Spec PyProof.Rows
theorem wE:∀ {us:List Value} {ns:List Int},IntsAre us ns -> Vals (ns.map V.int) us
  | _,_,.nil=>.nil
  | _,_,.cons n t r=>.cons ⟨t,rfl⟩ (wE r)
section
variable {X:Cx}
inductive xL (K:PySem.W.Frag) (xs:List V) (H:Hp) (Q:VK):Prop
  | mk (a:Addr) (ns:List Int) (_:xs = [.ref a]) (_:SqL K H a (ns.map V.int)) (_:ns.length < 64) (_:∀ (p:Addr) (ms:List Int),H p = none -> ms.Perm ns -> ms.Pairwise (· <= ·) -> Q (.ref p) (upd H p (.lst (ms.map V.int)))):xL K xs H Q
theorem jq:ja X (.builtin "sorted") (xL X.K):=by
  intro pins s σ H xs us Q I r h
  obtain ⟨a,ns,rfl,hx,hl,q⟩:=h
  obtain ⟨u,rfl,ru⟩:=Vals.one r
  cases (show u = Value.ref a from ru)
  obtain ⟨its,r',pl,hz⟩:=I.list hx
  have len:=r'.length
  rw [List.length_map] at len
  refine sorted_ints pl.isList (Jo r') (by omega) fun out ms a1 a2 a3=>?_
  obtain ⟨e,he⟩:=sortedAll_at s.heap its out
  have hn:H (s.heap.objs.size + 1) = none:=I.hok.fresh (Nat.le_succ _)
  refine ⟨.ref (s.heap.objs.size + 1),_,I.laid (a:=s.heap.objs.size + 1) (o:=.lst (ms.map V.int)) (t':=s.toks) (fun _ _=>sortedAll_old) (Nat.le_succ _) ⟨?_,out.toList,e,wE a1,?_⟩,rfl,q _ ms hn a2 a3⟩
  · rw [List.length_map,a2.length_eq,sizeLine_eq];omega
  · rw [he]
end
section
variable {prog:Program} {w:World} {κ:Type} [DecidableEq κ] {knd:PySem.KeyKind prog w κ} {A:Around} {E:Value -> Shared -> Prop} {s:Shared}
theorem V8 {d:Addr} {kvs:List (κ × Value)} {k:κ} {key dflt:Value} {Q:Value -> Shared -> Prop} (hkey:knd.is k key = true) (hm:s.heap.DictOf knd d kvs) (hsz:kvs.length <= sizeLine)
    (hthere:∀ v,valueAt kvs k = some v -> Q v { s with toks:=s.toks + 1 })
    (hnew:valueAt kvs k = none -> ∀ h',h'.DictOf knd d (stored kvs k dflt) -> Heap.SameBut d s.heap h' -> Q dflt { s with heap:=h',toks:=s.toks + 1 }) :
    wpAny (model prog w) A (dictSetDefault d key dflt) Q E s:=by
  obtain ⟨o,es,ep,ho,hc,hd,hk,hp,hn⟩:=id hm
  obtain ⟨o',es',ep',ho',-,hd',-,hf⟩:=hm.mapOf
  rw [ho] at ho'
  injection ho' with ho'
  subst ho'
  rw [hd] at hd'
  injection hd' with hd1 hd2
  subst hd1
  have hes:es.size <= sizeLine:=by
    have e1:=hp.length
    have e2:es.toList.length = es.size:=by simp
    omega
  have at_:(es.findIdx? fun en=>knd.is k en.key) = kvs.findIdx? fun p=>decide (p.1 = k):=by
    obtain ⟨l⟩:=es
    rw [<- hp.findIdx k]
    simp
  unfold dictSetDefault
  refine wpAny_holding (wpAny_bind (knd.pyHash hkey (wpAny_bind (wpAny_dictFind_of (s:={ s with toks:=s.toks + 1 }) hkey ho hd hk ?_))))
  cases hi:es.findIdx? fun en=>knd.is k en.key with
  | some i=>
    have hlt:i < es.size:=(Array.findIdx?_eq_some_iff_findIdx_eq.mp hi).1
    have hfk:valueAt kvs k = (es[i]?).map (·.val):=by rw [<- hf k,findBy_of_findIdx?,hi]
    rw [Array.getElem?_eq_getElem hlt] at hfk
    refine wpAny_bind (wpAny_dictEntries (s:={ s with toks:=s.toks + 1 }) ho hd ?_)
    rw [Array.getElem?_eq_getElem hlt]
    exact wpAny_bind (wpAny_rule (wpAny_pure (hthere _ hfk)))
  | none=>
    have fresh:k ∉ kvs.map (·.1):=not_mem_of_findIdx_none (at_ ▸ hi)
    have hany:¬ (kvs.any fun kv=>decide (kv.1 = k)) = true:=fun z=>by
      obtain ⟨kv,h1,h2⟩:=List.any_eq_true.mp z
      exact fresh (List.mem_map.mpr ⟨kv,h1,of_decide_eq_true h2⟩)
    have hfk:valueAt kvs k = none:=by rw [<- hf k,findBy_of_findIdx?,hi]
    have est:stored kvs k dflt = kvs ++ [(k,dflt)]:=by rw [stored,if_neg hany]
    refine wpAny_bind (wpAny_rule (wpAny_bind (wpAny_updateDictKeys (s:={ s with toks:=s.toks + 1 }) (hz:=hes) ho hd (wpAny_pure (hnew hfk _ ?_ (Heap.SameBut.update ..))))))
    rw [est]
    refine ⟨_,_,ep + 1,Heap.get?_update_self _ ho (Obj.isFreed_of_dict (Obj.data_mapDictKeys hd _)),hc.mapDictKeys _,Obj.data_mapDictKeys hd _,hk.push hkey _,?_,?_⟩
    · have z:=hp.append hkey (knd.hash k) dflt
      obtain ⟨l⟩:=es
      simpa using z
    · rw [List.map_append,List.nodup_append]
      refine ⟨hn,by simp,fun a ha b hb z=>fresh ?_⟩
      rw [show List.map (·.1) [(k,dflt)] = [k] from rfl,List.mem_singleton] at hb
      rw [<- hb,<- z]
      exact ha
end
section
variable {prog:Program} {w:World} {κ:Type} [DecidableEq κ] {knd:PySem.KeyKind prog w κ}
theorem WM {d:Addr} {k:κ} {key x:Value} (hkey:knd.is k key = true) (hs:(d == sysModules) = false) :
    MeetsIn prog w (Builtin.«dict.setdefault» ⟨[.ref d,key,x],[]⟩) (fun _ R s=>∃ kvs,s.heap.DictOf knd d kvs /\ kvs.length <= sizeLine /\ (∀ v,valueAt kvs k = some v -> R (.ok (.ret v)) { s with toks:=s.toks + 1 }) /\
      (valueAt kvs k = none -> ∀ h',h'.DictOf knd d (stored kvs k x) -> Heap.SameBut d s.heap h' -> R (.ok (.ret x)) { s with heap:=h',toks:=s.toks + 1 })):=
  .of_wp fun A R s ⟨kvs,hm,hz,h1,h2⟩=>by
    delta Builtin.«dict.setdefault» Builtin.Dict.keyAndDefault
    refine wpAny_bind (wpAny_bind (wpAny_notOrdered_dict hm.typeIs (wpAny_pure (a:=(d,key,some x)) ?_)))
    have off:¬ (d == sysModules) = true:=by rw [hs];exact Bool.false_ne_true
    refine (show wpAny _ _ (if (d == sysModules) = true then _ else (dictSetDefault d key x >>= _)) _ _ _ from ?_)
    rw [if_neg off]
    exact wpAny_bind (V8 hkey hm hz (fun v hv=>wpAny_pure ⟨v,rfl,h1 v hv⟩) fun hn h' hm' hs'=>wpAny_pure ⟨x,rfl,h2 hn h' hm' hs'⟩)
end
section
variable {X:Cx} {td ty tx:TE} {o e f:Expr} {apos cpos:Pos}
def zc1 (td ty tx:TE):TE:=fun σ H Q=>td σ H fun x H1=>∃ a,x = .ref a /\ IsD H1 a /\ ty σ H1 fun y H2=>tx σ H2 fun z H3=>∃ kvs k,H3 a = some (.dK kvs) /\ y = kV k /\ kvs.length < sizeLine /\
  (∀ v,z9 kvs k = some v -> Q v H3) /\ (z9 kvs k = none -> Q z (upd H3 a (.dK (qV kvs k z))))
theorem zbe (ho:PE X o td) (he:PE X e ty) (hf:PE X f tx) (m:M2 X o "setdefault" apos e f cpos):PE X (.Call (.Attribute o "setdefault" apos) [e,f] [] cpos) (zc1 td ty tx):=by
  intro pins s σ H Q I h
  refine wpAny_Call_method m.base m.few m.line PySem.F.plainAttrs_dict PySem.F.slot_dict_setdefault PySem.F.type_dict_setdefault (thn (ho pins s σ H _ I h) fun u s1 ⟨x,H1,I1,rx,a,ex,d,q1⟩=>?_)
  subst ex
  obtain rfl:u = Value.ref a:=rx
  obtain ⟨t1,t2,_⟩:=ZN I1 d
  refine ⟨t1,t2,?_⟩
  rw [m.trees]
  refine Calls.callWith_builtin rfl (Calls.evalArgs_plain (Calls.spliced_cons (thn (he pins s1 σ H1 _ I1 q1) fun iv s2 ⟨y,H2,I2,ry,q2⟩=>
    Calls.spliced_cons (thn (hf pins s2 σ H2 _ I2 q2) fun fv s3 ⟨z,H3,I3,rz,kvs,k,ea,ey,l,g1,g2⟩=>Calls.spliced_nil ?_))))
  subst ey
  obtain ⟨zz,hd,vs,rel,dd⟩:=QG I3.hok ea
  have hz:vs.length <= sizeLine:=by rw [<- rel.length];exact zz
  refine call_meetsIn PySem.F.slot_dict_setdefault dd.typeIs PySem.F.entry_dict_setdefault (PySem.F.args_dict_setdefault_3 _ _ _) (WM (knd:=zC X.prog X.w) (xW ry) hd) ⟨vs,dd,hz,fun v hv=>?_,fun hn h' dd' hs=>?_⟩
  · have rv:=rel.val k
    rw [hv] at rv
    cases ev:z9 kvs k with
    | none=>rw [ev] at rv;exact rv.elim
    | some v'=>
      rw [ev] at rv
      exact ⟨v',H3,I3.tok _,rv,g1 v' ev⟩
  · have rv:=rel.val k
    rw [hn] at rv
    have ev:z9 kvs k = none:=by
      cases ev:z9 kvs k with
      | none=>rfl
      | some v'=>rw [ev] at rv;exact rv.elim
    have hl:(qV kvs k z).length <= sizeLine:=by have:=jA kvs k z;omega
    have ee:∃ q,h'.get? a = some q:=let ⟨q,_,_,hq,_⟩:=dd';⟨q,hq⟩
    exact ⟨z,_,vC I3 (by rw [ea];exact True.intro) hs ee (ye hl hd (rel.put k rz) dd'),rz,g2 ev⟩
end
theorem Xf {P:Program} {w:World} {k:Key} {u:Value} (h:(zC P w).is k u = true):RelV (kV k) u:=by
  rw [Ji] at h
  rcases qv h with ⟨i,t,rfl,rfl⟩ | ⟨x,t,rfl,rfl⟩
  · exact ⟨t,rfl⟩
  · exact ⟨t,rfl⟩
theorem KV.get:∀ {kvs:List (Key × V)} {vs:List (Key × Value)} {j:Nat} {q:Key × Value},KV kvs vs -> vs[j]? = some q -> ∃ p,kvs[j]? = some p /\ p.1 = q.1 /\ RelV p.2 q.2
  | _,_,j,_,.nil,e=>by simp at e
  | _,_,0,_,.cons h _,e=>by simp at e;subst e;exact ⟨_,rfl,h⟩
  | _,_,j + 1,_,.cons _ t,e=>by
    obtain ⟨p,e1,r⟩:=KV.get (j:=j) t (by simpa using e)
    exact ⟨p,by simpa using e1,r⟩
theorem Zu:∀ {xs:List V} {us:List Value},xs.length = us.length -> (∀ (j:Nat) u,us[j]? = some u -> ∃ x,xs[j]? = some x /\ RelV x u) -> Vals xs us
  | [],[],_,_=>.nil
  | [],_ :: _,h,_=>by simp at h
  | _ :: _,[],h,_=>by simp at h
  | x :: xs,u :: us,h,f=>by
    refine .cons ?_ (Zu (by simpa using h) fun j v e=>?_)
    · obtain ⟨y,e1,r⟩:=f 0 u rfl
      cases e1
      exact r
    · obtain ⟨y,e1,r⟩:=f (j + 1) v (by simpa using e)
      exact ⟨y,by simpa using e1,r⟩
section
variable {X:Cx}
inductive xZ (xs:List V) (H:Hp) (Q:VK):Prop
  | mk (a:Addr) (kvs:List (Key × V)) (_:xs = [.ref a]) (_:Rd H a (.dK kvs)) (_:∀ p,H p = none -> Q (.ref p) (upd H p (.lst (kvs.map fun kv=>kV kv.1)))):xZ xs H Q
theorem QN (hh:X.A.handled = none):ja X (.type "list") (xZ):=by
  intro pins s σ H xs us Q I r h
  obtain ⟨a,kvs,rfl,hx,q⟩:=h
  obtain ⟨u,rfl,ru⟩:=Vals.one r
  cases (show u = Value.ref a from ru)
  obtain ⟨zz,hd,vs,rel,dd⟩:=xH I.hok hx
  obtain ⟨ep,da⟩:=dd.dictAt
  have ln:=rel.length
  refine PySem.W.kdl_call (PySem.W.kdl_dict (prog:=X.prog) (w:=X.w) (knd:=zC X.prog X.w) (d:=a) (kvs:=vs) (ep:=ep) hd) hh da (by omega) fun h' tk acc c keep at_ its=>?_
  have hn:H s.heap.objs.size = none:=I.hok.fresh (Nat.le_refl _)
  refine ⟨.ref s.heap.objs.size,_,I.laid (a:=s.heap.objs.size) (o:=.lst (kvs.map fun kv=>kV kv.1)) (t':=tk) keep (Nat.le_refl _) ⟨by rw [List.length_map];exact zz,acc.toList,c,Zu ?_ ?_,by rw [at_]⟩,rfl,q _ hn⟩
  · have z:=its.1
    have y:acc.toList.length = acc.size:=Array.length_toList
    rw [List.length_map]
    omega
  · intro j u e
    rw [Array.getElem?_toList] at e
    obtain ⟨k,x,e1,e2⟩:=its.2 j u e
    obtain ⟨p,e3,e4,_⟩:=KV.get rel e1
    exact ⟨kV p.1,by rw [List.getElem?_map,e3];rfl,by rw [e4];exact Xf e2⟩
end
section
variable {X:Cx} {td ty:TE} {o e:Expr} {apos cpos:Pos}
def zbT (td ty:TE):TE:=fun σ H Q=>td σ H fun x H1=>∃ a,x = .ref a /\ IsD H1 a /\ ty σ H1 fun y H2=>∃ b kvs more,y = .ref b /\ a ≠ b /\ H2 a = some (.dK kvs) /\ H2 b = some (.dK more) /\ kvs.length + more.length <= sizeLine /\ Q .non (upd H2 a (.dK (qG kvs more)))
theorem YD (ho:PE X o td) (he:PE X e ty) (m:M1 X o "update" apos e cpos):PE X (.Call (.Attribute o "update" apos) [e] [] cpos) (zbT td ty):=by
  intro pins s σ H Q I h
  refine wpAny_Call_method m.base m.few m.line PySem.F.plainAttrs_dict PySem.F.slot_dict_update PySem.F.type_dict_update (thn (ho pins s σ H _ I h) fun u s1 ⟨x,H1,I1,rx,a,ex,d,q1⟩=>?_)
  subst ex
  obtain rfl:u = Value.ref a:=rx
  obtain ⟨t1,t2,_⟩:=ZN I1 d
  refine ⟨t1,t2,?_⟩
  rw [m.trees]
  refine Calls.callWith_builtin rfl (Calls.evalArgs_plain (Calls.spliced_cons (thn (he pins s1 σ H1 _ I1 q1) fun iv s2 ⟨y,H2,I2,ry,b,kvs,more,ey,ne,ea,eb,l,q2⟩=>Calls.spliced_nil ?_)))
  subst ey
  obtain rfl:iv = Value.ref b:=ry
  obtain ⟨_,sa,vs,ra,da⟩:=QG I2.hok ea
  obtain ⟨_,sb,ws,rb,db⟩:=QG I2.hok eb
  have la:=ra.length
  have lb:=rb.length
  refine call_meetsIn PySem.F.slot_dict_update da.typeIs PySem.F.entry_dict_update (PySem.F.args_dict_update_2 _ _) (meets_dict_update (zC X.prog X.w) a b ne sb) ⟨vs,ws,da,db,by omega,fun h' da' _ hs=>?_⟩
  have ee:∃ q,h'.get? a = some q:=let ⟨q,_,_,hq,_⟩:=da';⟨q,hq⟩
  exact ⟨.non,_,vC (t':=s2.toks) I2 (by rw [ea];exact True.intro) hs ee (ye (Nat.le_trans (jw more kvs) l) sa (rb.merge ra) da'),rfl,q2⟩
end
theorem Xh:∀ {ns:List Int} {us:List Value},ns.length = us.length -> (∀ (j:Nat) u,us[j]? = some u -> ∃ i t,ns[j]? = some i /\ u = .int i t) -> IntsAre us ns
  | [],[],_,_=>.nil
  | [],_ :: _,h,_=>by simp at h
  | _ :: _,[],h,_=>by simp at h
  | n :: ns,u :: us,h,f=>by
    obtain ⟨i,t,e1,e2⟩:=f 0 u rfl
    cases e1
    subst e2
    refine .cons n t (Xh (by simpa using h) fun j v e=>?_)
    obtain ⟨i,t,e1,e2⟩:=f (j + 1) v (by simpa using e)
    exact ⟨i,t,by simpa using e1,e2⟩
section
variable {X:Cx}
inductive xw (xs:List V) (H:Hp) (Q:VK):Prop
  | mk (a:Addr) (kvs:List (Int × V)) (_:xs = [.ref a]) (_:Rd H a (.dK (kvs.map fun kv=>(Sum.inl kv.1,kv.2)))) (_:kvs.length < 64) (_:∀ (p:Addr) (ms:List Int),H p = none -> ms.Perm (kvs.map (·.1)) -> ms.Pairwise (· <= ·) -> Q (.ref p) (upd H p (.lst (ms.map V.int)))):xw xs H Q
theorem yD (hh:X.A.handled = none):ja X (.builtin "sorted") (xw):=by
  intro pins s σ H xs us Q I r h
  obtain ⟨a,kvs,rfl,hx,h64,q⟩:=h
  obtain ⟨u,rfl,ru⟩:=Vals.one r
  cases (show u = Value.ref a from ru)
  obtain ⟨zz,hd,vs,rel,dd⟩:=xH I.hok hx
  obtain ⟨ep,da⟩:=dd.dictAt
  have ln:=rel.length
  rw [List.length_map] at ln
  have sz:sizeLine = 16777216:=sizeLine_eq
  refine Calls.call_function_entry kind_sorted plain_sorted entry_sorted (args_sorted1 _) ?_
  delta Builtin.«sorted»
  refine wpAny_bind (m:=checkCount "sorted" 1 1 _) (wpAny_pure (wpAny_bind (PySem.W.kdu_collect (PySem.W.kdl_dict (prog:=X.prog) (w:=X.w) (knd:=zC X.prog X.w) (d:=a) (kvs:=vs) (ep:=ep) hd) hh da (by omega) fun h' tk acc keep its=>?_)))
  have al:acc.toList.length = vs.length:=by rw [Array.length_toList];exact its.1
  have hI:IntsAre acc.toList (kvs.map (·.1)):=Xh (by rw [List.length_map];omega) fun j u e=>by
    rw [Array.getElem?_toList] at e
    obtain ⟨k,x,e1,e2⟩:=its.2 j u e
    obtain ⟨p,e3,e4,_⟩:=KV.get rel e1
    rw [List.getElem?_map] at e3
    obtain ⟨kv,e5,rfl⟩:=Option.map_eq_some_iff.mp e3
    have e4:Sum.inl kv.1 = k:=e4
    subst e4
    obtain ⟨t,rfl⟩:=Xf e2
    exact ⟨kv.1,t,by rw [List.getElem?_map,e5];rfl,rfl⟩
  refine wpAny_bind (wpAny_newList ?_ (by omega))
  have at_:(h'.push (seqObj "list" acc.toList.toArray 0)).get? h'.objs.size = some (seqObj "list" acc.toList.toArray 0):=Heap.get?_push_size _ rfl
  refine wpAny_bind (wpAny_holding (wpAny_call_entry slot_list_sort ⟨_,at_,rfl⟩ entry_list_sort (list_sort_tree (s:={ s with heap:=h'.push (seqObj "list" acc.toList.toArray 0),toks:=tk }) at_ hI (by omega) fun out ms a1 a2 a3=>⟨_,rfl,?_⟩) (args_list_sort _)))
  have new:s.heap.get? h'.objs.size = none:=by
    cases z:s.heap.get? h'.objs.size with
    | none=>rfl
    | some o=>exact absurd (Heap.lt_size (keep _ _ z)) (Nat.lt_irrefl _)
  obtain ⟨ep2,fin⟩:=sortedHeap_at (out:=out) at_
  refine wpAny_pure ⟨_,rfl,.ref h'.objs.size,_,I.laidN (a:=h'.objs.size) (o:=.lst (ms.map V.int)) (t':=tk) (fun b o e=>?_) new ⟨?_,out.toList,ep2,wE a1,?_⟩,rfl,q _ ms (I.hok.none_of new) a2 a3⟩
  · have lt:=Heap.lt_size (keep b o e)
    rw [sortedHeap_old (Nat.ne_of_lt lt) (by rw [Heap.size_push];exact Nat.lt_succ_of_lt lt)]
    exact Heap.get?_push_of_some _ (keep b o e)
  · rw [List.length_map,a2.length_eq,List.length_map];omega
  · rw [fin]
end
def VI (d:Addr) (o:Obj) (kvs:List (Key × V)):It:=
  ⟨fun i H=>H d = some (.frz o (.dK kvs)) /\ i < kvs.length,fun i H x H'=>H' = H /\ ∃ k v,kvs[i]? = some (k,v) /\ x = kV k,fun i H=>H d = some (.frz o (.dK kvs)) /\ kvs.length <= i⟩
theorem yW {P:Program} {w:World}:∀ {es:List DictEntry} {vs:List (Key × Value)},Pairs (zC P w) es vs -> ∀ {i:Nat} {q:Key × Value},vs[i]? = some q -> ∃ en,es[i]? = some en /\ (zC P w).is q.1 en.key = true
  | _,_,.nil,_,_,h=>by simp at h
  | _,_,.cons h1 _ t,0,_,h=>by simp at h;subst h;exact ⟨_,rfl,h1⟩
  | _,_,.cons _ _ t,i + 1,_,h=>by
    obtain ⟨en,e,r⟩:=yW t (i:=i) (by simpa using h)
    exact ⟨en,by simpa using e,r⟩
theorem KV.back:∀ {kvs:List (Key × V)} {vs:List (Key × Value)} {j:Nat} {p:Key × V},KV kvs vs -> kvs[j]? = some p -> ∃ q,vs[j]? = some q /\ p.1 = q.1
  | _,_,j,_,.nil,e=>by simp at e
  | _,_,0,_,.cons h _,e=>by simp at e;subst e;exact ⟨_,rfl,h.1⟩
  | _,_,j + 1,_,.cons _ t,e=>by
    obtain ⟨q,e1,r⟩:=KV.back (j:=j) t (by simpa using e)
    exact ⟨q,by simpa using e1,r⟩
theorem QF {P:Program} {w:World} {H:Hp} {h:Heap} {d:Addr} {o:Obj} {kvs:List (Key × V)} {es:Array DictEntry} {ep:Nat} (ok:HOk P w H h) (e:H d = some (.frz o (.dK kvs))) (he:o.data = .dict es ep):RawD h d es ep /\ es.size = kvs.length /\
    ∀ (i:Nat) (k:Key) (v:V),kvs[i]? = some (k,v) -> ∃ en:DictEntry,es[i]? = some en /\ RelV (kV k) en.key:=by
  obtain ⟨e1,z,y,vs,r,o',es',ep',h1,h2,h3,h4,h5,h6⟩:=(show ObjOk P w H h d (.frz o (.dK kvs)) from ok d _ e)
  rw [e1] at h1
  cases h1
  rw [he] at h3
  cases h3
  have l1:=h5.length
  have l2:=r.length
  have l3:es.toList.length = es.size:=Array.length_toList
  refine ⟨⟨o,e1,h2,he⟩,by omega,fun i k v hk=>?_⟩
  obtain ⟨q,e2,e3⟩:=KV.back r hk
  obtain ⟨en,e4,e5⟩:=yW h5 e2
  have e3:k = q.1:=e3
  exact ⟨en,by rw [<- Array.getElem?_toList];exact e4,by rw [e3];exact Xf e5⟩
theorem wI {P:Program} {w:World} {K:PySem.W.Frag} {tg:Expr} (d it:Addr) (o:Obj) (kvs:List (Key × V)) (es:Array DictEntry) (ep:Nat) (he:o.data = .dict es ep):vf P w K tg (VI d o kvs) [it] it (fun i h=>h.IsKeyIter it d i es.size ep) where
  mem:=by simp
  obj:=fun i h st b hb=>by
    have e:b = it:=by simpa using hb
    subst e
    obtain ⟨o,e,c,d⟩:=st
    exact ⟨o,e,fun v z=>by rw [d] at z;cases z⟩
  keep:=fun i h h' st k=>st.at fun o e=>k it (by simp) o e
  item:=by
    intro X hP hw hK hc i pins s σ H E I hf st hg
    subst hP hw hK
    obtain ⟨hd,hi⟩:=hg
    obtain ⟨rd,sz,all⟩:=QF I.hok hd he
    obtain ⟨⟨k,v⟩,hx⟩:∃ p,kvs[i]? = some p:=⟨kvs[i],by simp [hi]⟩
    obtain ⟨en,hen,ek⟩:=all i k v hx
    obtain ⟨f0,f1,f2,f3,f4,f5⟩:=hf it (by simp)
    refine Wi st rd hen fun h' st' sb=>?_
    have I1:Inv X pins σ H { s with heap:=h' }:=I.turned (t':=s.toks) (fun b o hb e=>(sb.2 b hb).trans e) f0 f1 f3 f4 f5
    obtain ⟨o',e',c',d'⟩:=id st'
    exact ⟨_,rfl,Xj (s:={ s with heap:=h' }) e' c' d' (by decide) ⟨kV k,H,I1,ek,⟨rfl,k,v,hx,rfl⟩,st',fun b hb=>(hf b hb).1⟩⟩
  done:=by
    intro X hP hw hK hc i pins s σ H E I hf st hg
    subst hP hw hK
    obtain ⟨hd,hi⟩:=hg
    obtain ⟨rd,sz,_⟩:=QF I.hok hd he
    obtain ⟨f0,f1,f2,f3,f4,f5⟩:=hf it (by simp)
    exact Ys (I.ok.hd hc) st rd (by omega) fun h' eb=>⟨rfl,I.turned (t':=s.toks) (fun b o hb e=>eb b o hb e) f0 f1 f3 f4 f5⟩
  self:=fun _ _ _ _ _ st h=>wpAny_pyIter_keyiter st h
section
variable {X:Cx} {tg:Expr}
def zbA (td:TE):TI:=fun σ H R=>td σ H fun x H1=>∃ d kvs,x = .ref d /\ H1 d = some (.dK kvs) /\ ∀ o,R (VI d o kvs) (upd H1 d (.frz o (.dK kvs)))
theorem Wq {l:Expr} {tl:TE} (hl:PE X l tl):PI X tg l (zbA tl):=by
  intro pins s σ H R I h
  refine thn (hl pins s σ H _ I h) fun v s1 ⟨x,H1,I1,r1,q1⟩=>?_
  obtain ⟨d,kvs,e,hd,q⟩:=q1
  subst e
  cases r1
  obtain ⟨z,y,vs,r,o,es,ep,h1,h2,h3,h4,h5,h6⟩:=(show ObjOk X.prog X.w H1 s1.heap d (.dK kvs) from I1.hok d _ hd)
  refine Qg y ⟨o,h1,h2,h3⟩ ?_
  have I2:Inv X pins σ (upd H1 d (.frz o (.dK kvs))) { s1 with heap:=s1.heap.push { cls:=.type "dict_keyiterator",data:=.fields #[.ref d,.int 0 0,.int es.size 0,.int ep 0] },toks:=s1.toks }:=by
    refine I1.write (x:=d) (e:=d) (by rw [hd];exact True.intro) (.inl rfl) (fun b u _ e=>Heap.get?_push_of_some _ e) ⟨o,Heap.get?_push_of_some _ h1⟩ ?_
    exact ⟨Heap.get?_push_of_some _ h1,z,y,vs,r,o,es,ep,Heap.get?_push_of_some _ h1,h2,h3,h4,h5,h6⟩
  refine ⟨s1.heap.objs.size,[s1.heap.objs.size],_,_,_,rfl,I2,wI d _ o kvs es ep h3,⟨_,Heap.get?_push_size _ rfl,rfl,rfl⟩,fun b hb=>?_,q o⟩
  have e:b = s1.heap.objs.size:=by simpa using hb
  subst e
  refine I1.fpOk (Nat.le_refl _) ?_
  rw [zi (Ne.symm (zf hd (I1.hok.fresh (Nat.le_refl _))))]
  exact I1.hok.fresh (Nat.le_refl _)
end
theorem QA {d:Addr} {o:Obj} {kvs:List (Key × V)} {n:Nat} {g:TG} {tf:TT} {te:TE} {σ0:St} {R:List V -> Hp -> Prop} {H:Hp} (Pv:Nat -> List V -> Hp -> Prop) (h0:Pv 0 [] H)
    (h1:∀ i zs H,Pv i zs H -> H d = some (.frz o (.dK kvs)))
    (hs:∀ i k v zs H,kvs[i]? = some (k,v) -> Pv i zs H -> g (kV k) σ0 H fun σ4 H4=>σ4.drop n = σ0.drop n /\ tf σ4 H4 fun b H5=>if b = true then te σ4 H5 fun v H6=>zs.length < sizeLine /\ Pv (i + 1) (zs ++ [v]) H6 else Pv (i + 1) zs H5)
    (hd:∀ zs H,Pv kvs.length zs H -> zs.length <= sizeLine /\ R zs H) :
    ∃ W:Nat -> Nat -> List V -> Hp -> Prop,(∃ m,W 0 m [] H) /\ ∀ i m zs H2,W i m zs H2 ->
      ((VI d o kvs).stop i H2 /\ zs.length <= sizeLine /\ R zs H2) \/
      ((VI d o kvs).go i H2 /\ ∃ M:List V -> Hp -> Prop,(∀ zs H',M zs H' -> ∃ m',m' < m /\ W (i + 1) m' zs H') /\ ∀ x H3,(VI d o kvs).yld i H2 x H3 -> g x σ0 H3 fun σ4 H4=>σ4.drop n = σ0.drop n /\ tf σ4 H4 fun b H5=>
        if b = true then te σ4 H5 fun y H6=>zs.length < sizeLine /\ M (zs ++ [y]) H6 else M zs H5):=by
  refine ⟨fun i m zs H2=>m = kvs.length - i /\ i <= kvs.length /\ Pv i zs H2,⟨_,rfl,Nat.zero_le _,h0⟩,?_⟩
  rintro i m zs H2 ⟨rfl,hi,p⟩
  by_cases hlt:i < kvs.length
  · refine .inr ⟨⟨h1 i zs H2 p,hlt⟩,Pv (i + 1),fun zs' H' p'=>⟨_,by omega,rfl,hlt,p'⟩,fun x H3 y=>?_⟩
    obtain ⟨e,k,v,hk,rfl⟩:=y
    subst e
    exact hs i k v zs _ hk p
  · have e:i = kvs.length:=by omega
    subst e
    obtain ⟨z1,z2⟩:=hd zs H2 p
    exact .inl ⟨⟨h1 _ zs H2 p,Nat.le_refl _⟩,z1,z2⟩
section
variable {X:Cx} {tg:Expr}
def zcz (K:PySem.W.Frag) (tl:TE):TI:=fun σ H R=>tl σ H fun x H1=>∃ a,x = .ref a /\ (((∃ xs,SqL K H1 a xs) /\ R (Itl K a) H1) \/ ((∃ xs,SqT K H1 a xs) /\ R (Itt K a) H1))
theorem Wp {l:Expr} {tl:TE} (hl:PE X l tl):PI X tg l (zcz X.K tl):=by
  intro pins s σ H R I h
  refine thn (hl pins s σ H _ I h) fun v s1 ⟨x,H1,I1,r1,q1⟩=>?_
  obtain ⟨a,e,q⟩:=q1
  subst e
  cases r1
  have fp:∀ b ∈ [s1.heap.objs.size],_:=fun b hb=>by
    have e:b = s1.heap.objs.size:=by simpa using hb
    subst e
    exact I1.fpOk (Nat.le_refl _) (I1.hok.fresh (Nat.le_refl _))
  rcases q with ⟨⟨xs,hq⟩,q⟩ | ⟨⟨xs,hq⟩,q⟩
  · obtain ⟨its,rv,p,hz⟩:=I1.list hq
    refine wpAny_pyIter_list p.isList ⟨s1.heap.objs.size,[s1.heap.objs.size],_,_,H1,rfl,I1.kept (t':=s1.toks) fun b o e=>Heap.get?_push_of_some _ e,yI a _,⟨_,Heap.get?_push_size _ rfl,rfl,rfl⟩,?_,q⟩
    exact fp
  · obtain ⟨its,rv,p,hz⟩:=I1.tuple hq
    refine wpAny_pyIter_tuple (show s1.heap.IsTuple a its.toArray from p) ⟨s1.heap.objs.size,[s1.heap.objs.size],_,_,H1,rfl,I1.kept (t':=s1.toks) fun b o e=>Heap.get?_push_of_some _ e,wH a _,⟨_,Heap.get?_push_size _ rfl,rfl,rfl⟩,?_,q⟩
    exact fp
end
open Sem (wp)
theorem ZK:typeLookup (.type "list") "keys" = pure none:=by rw [typeLookup_type,builtinLookup_eq_fast];kernel_rfl
theorem ZL:typeLookup (.type "list") "__getattr__" = pure none:=by rw [typeLookup_type,builtinLookup_eq_fast];kernel_rfl
theorem vQ:isSubtype (.type "AttributeError") (.type "AttributeError") = pure true:=by rw [isSubtype_type];kernel_rfl
section
variable {prog:Program} {w:World} {A:Around} {E:Value -> Shared -> Prop} {s:Shared}
theorem Q8 {α:Type} {M:Model} {o:Value} {name msg:Str} {Q:α -> Shared -> Prop} (hh:A.handled = none) (hm:msg.length <= sizeLine)
   (hq:∀ h' t' e,(∀ b p,s.heap.get? b = some p -> h'.get? b = some p) -> (∃ ob,h'.get? e = some ob /\ ob.cls = .type "AttributeError") -> E (.ref e) { s with heap:=h',toks:=t' }) :
    wpAny M A (raiseAttrError o name msg:Sem α) Q E s:=by
  unfold raiseAttrError newExc newTuple
  refine wpAny_bind (wpAny_mkStr (wpAny_bind (wpAny_bind (wpAny_newObj_type (wpAny_bind (m:=firstArgMember _ _) (wpAny_of_eq (a:=Value.none) (by simp only [firstArgMember];rfl) (wpAny_newObj_type ?_)))))) hm)
  refine wpAny_bind (wpAny_mkText (wpAny_bind (show wpAny _ _ (noteAttr _ _ _) _ _ _ from ?_)))
  unfold noteAttr
  dsimp only
  unfold lacksNameAndObj
  refine wpAny_bind (wpAny_bind (wpAny_isInstance (T:= "AttributeError") ⟨_,Heap.get?_push_size _ rfl,rfl⟩ vQ ?_))
  refine wpAny_bind (wpAny_load (Heap.get?_push_size _ rfl) ?_)
  refine wpAny_pure ?_
  refine wpAny_bind (wpAny_rule (wpAny_bind (wpAny_typeOf (T:= "AttributeError") ⟨_,Heap.get?_push_size _ rfl,rfl⟩ ?_)))
  refine wpAny_layMembers (Heap.get?_push_size _ rfl) rfl ?_
  unfold raiseNew;refine wpAny_bind (wpAny_handled ?_);rw [hh];refine wpAny_bind (wpAny_pure (wpAny_throw ?_))
  refine hq _ _ _ (fun b p e=>?_) ⟨_,Heap.get?_update_self _ (Heap.get?_push_size _ rfl) (Obj.isFreed_of_fields (Obj.data_mapFields rfl _)),Obj.cls_mapFields _ _⟩
  rw [Heap.get?_update_other _ _ (Nat.ne_of_gt (Nat.lt_of_lt_of_le (Heap.lt_size e) (by simp)))]
  exact Heap.get?_push_of_some _ (Heap.get?_push_of_some _ e)
end
section
variable {prog:Program} {w:World} {A:Around} {E:Value -> Shared -> Prop} {h:Heap} {g:Array GenState} {d:Drawn} {t:Nat} {os:OsState} {a:Addr} {n:Nat} {its:Array Value}
theorem wv {tk:Tok} {Q:Fin -> Shared -> Prop} (hh:A.handled = none) (hx:h.get? a = some { cls:=.type "list",data:=.seq its n })
   (hq:∀ h' t' e,(∀ b p,h.get? b = some p -> h'.get? b = some p) -> (∃ ob,h'.get? e = some ob /\ ob.cls = .type "AttributeError") -> E (.ref e) ⟨h',g,d,t',os⟩) :
    wpAny (model prog w) A (Builtin.«object.__getattribute__» ⟨[.ref a,.str "keys" tk],[]⟩) Q E ⟨h,g,d,t,os⟩:=by
  have hT:(⟨h,g,d,t,os⟩:Shared).TypeIs (.ref a) "list" :=⟨_,hx,rfl⟩
  have f4:=ZK
  repeat (any_goals (first | assumption | wp_step))
  refine Q8 hh ?_ hq
  rw [sizeLine_eq]
  decide +kernel
theorem ya {tk:Tok} {R:Result -> Shared -> Prop} (hh:A.handled = none) (hx:h.get? a = some { cls:=.type "list",data:=.seq its n })
   (hq:∀ h' t' e,(∀ b p,h.get? b = some p -> h'.get? b = some p) -> (∃ ob,h'.get? e = some ob /\ ob.cls = .type "AttributeError") -> R (.error (.ref e)) ⟨h',g,d,t',os⟩) :
    codeAny (model prog w) A (.call (.builtin "list.__getattribute__") ⟨[.ref a,.str "keys" tk],[]⟩) R ⟨h,g,d,t,os⟩:=
  codeAny_call_builtin F.slot_list_getattribute.plain F.entry_list_ga (F.slot_list_getattribute.check _ _ _ _ _ _ _ _ (show (⟨h,g,d,t,os⟩:Shared).TypeIs (.ref a) "list" from ⟨_,hx,rfl⟩) (F.args_list_getattribute_2 _ _) (wv hh hx hq))
theorem ZM {tk:Tok} {Q:Value -> Shared -> Prop} (hh:A.handled = none) (hx:h.get? a = some { cls:=.type "list",data:=.seq its n })
   (hq:∀ h' t' e,(∀ b p,h.get? b = some p -> h'.get? b = some p) -> (∃ ob,h'.get? e = some ob /\ ob.cls = .type "AttributeError") -> E (.ref e) ⟨h',g,d,t',os⟩):wpAny (model prog w) A (getAttrBy (.ref a) (.str "keys" tk) false) Q E ⟨h,g,d,t,os⟩:=by
  have hT:(⟨h,g,d,t,os⟩:Shared).TypeIs (.ref a) "list" :=⟨_,hx,rfl⟩
  have f2:=F.slot_list_getattribute.lookup
  have f3:=F.slot_list_getattribute.bind (.ref a)
  repeat (any_goals (first | assumption | wp_step))
  refine ya hh hx fun h' t' e k ⟨ob,ho,hc⟩=>?_
  dsimp only
  unfold getattributeRaised
  refine wpAny_bind (wpAny_isInstance (T:= "AttributeError") ⟨_,ho,hc⟩ vQ ?_)
  rw [if_pos rfl]
  unfold hookBehind
  refine wpAny_bind ?_
  rw [if_neg (by decide)]
  refine wpAny_of_eq ZL ?_
  unfold hookOrError attributeErrorLeaves
  dsimp only
  rw [if_pos (show (!false) = true from rfl)]
  first
    | exact wpAny_throw (hq h' t' e k ⟨ob,ho,hc⟩)
    | exact wpAny_bind (wpAny_throw (hq h' t' e k ⟨ob,ho,hc⟩))
theorem yb {Q:Option Value -> Shared -> Prop} (hh:A.handled = none) (hx:h.get? a = some { cls:=.type "list",data:=.seq its n })
   (hq:∀ h' t',(∀ b p,h.get? b = some p -> h'.get? b = some p) -> Q none ⟨h',g,d,t',os⟩):wpAny (model prog w) A (getAttr? (.ref a) "keys") Q E ⟨h,g,d,t,os⟩:=by
  unfold getAttr? getAttrBy?
  refine wpAny_bind (wpAny_mkText (wpAny_bind (wpAny_attempt (ZM hh hx fun h' t' e k ⟨ob,ho,hc⟩=>?_))))
  dsimp only
  refine wpAny_bind (wpAny_isInstance (T:= "AttributeError") ⟨_,ho,hc⟩ vQ ?_)
  rw [if_pos rfl]
  exact wpAny_pure (hq h' t' k)
end
end L2
namespace L2
open PySem PySem.Spec PyProof.Rows
theorem xY:entryFor table "dict.update.loop" = some Builtin.«dict.update.loop»:=entryFor_of_tree (by kernel_rfl)
theorem jv:plainId "dict.update.loop" = true:=by decide +kernel
theorem Qu {K:Type} [DecidableEq K] (kvs more:List (K × Value)) (i:Nat) (kv:K × Value) (h:more[i]? = some kv):merged (stored kvs kv.1 kv.2) (more.drop (i + 1)) = merged kvs (more.drop i):=by
  obtain ⟨h1,h2⟩:=List.getElem?_eq_some_iff.mp h
  rw [List.drop_eq_getElem_cons h1,h2]
  rfl
section
variable {prog:Program} {w:World} {K:Type} [DecidableEq K] {knd:KeyKind prog w K} {A:Around} {R:Result -> Shared -> Prop} {it l D:Addr} {items:Array Value} {pairs:List (K × Value)} {res:Value}
theorem Y9 (hh:A.handled = none) (hil:l ≠ it) (hlD:l ≠ D) (hiD:it ≠ D) (hlen:pairs.length = items.size) :
    ∀ (m:Nat) (s:Shared) (i:Nat) (kvs:List (K × Value)),items.size - i = m -> i <= items.size -> s.heap.IsListIter it l i -> s.heap.IsList l items -> s.heap.DictOf knd D kvs -> kvs.length + m <= sizeLine ->
      (∀ (j:Nat) (u:Value),items[j]? = some u -> ∃ (T:Addr) (k:K) (key v:Value),u = .ref T /\ T ≠ it /\ T ≠ D /\ IsTup s.heap T #[key,v] /\ knd.is k key = true /\ pairs[j]? = some (k,v)) ->
      (∀ h' tk,h'.DictOf knd D (merged kvs (pairs.drop i)) -> (∀ b o,b ≠ it -> b ≠ D -> s.heap.get? b = some o -> h'.get? b = some o) -> R (.ok (.ret res)) { s with heap:=h',toks:=tk }) ->
      codeAny (model prog w) A (.builtin "dict.update.loop" ⟨[.ref D,.ref it,.int i 0,res],[]⟩) R s:=by
  intro m
  induction m with
  | zero=>
    intro s i kvs hm hi ii il dd hz ht q
    have hend:items[i]? = none:=by simp;omega
    refine codeAny_builtin xY ?_
    rw [Around.under_plainId jv _]
    show wpAny _ A.in1 (pyNext (.ref it) >>= _) _ _ s
    refine wpAny_bind (wpAny_pyNext_list_end hh ii il hend fun h' hx=>?_)
    show wpAny _ _ (Builtin.Dict.addKeywords D [] >>= _) _ _ _
    refine wpAny_bind (wpAny_pure (wpAny_pure ?_))
    have e0:merged kvs (pairs.drop i) = kvs:=by rw [List.drop_eq_nil_of_le (by omega)];rfl
    have:=q h' s.toks (by rw [e0];exact dd.extBut hx (Ne.symm hiD)) (fun b o hb _ e=>?_)
    · exact this
    · exact hx b o hb e
  | succ m ih=>
    intro s i kvs hm hi ii il dd hz ht q
    have hlt:i < items.size:=by omega
    obtain ⟨u,hu⟩:∃ u,items[i]? = some u:=⟨_,Array.getElem?_eq_getElem hlt⟩
    obtain ⟨T,k,key,v,rfl,nT,nD,tT,kk,ep⟩:=ht i u hu
    refine codeAny_builtin xY ?_
    rw [Around.under_plainId jv _]
    show wpAny _ A.in1 (pyNext (.ref it) >>= _) _ _ s
    refine wpAny_bind (wpAny_pyNext_list_item ii il hu fun h1 i1 s1=>?_)
    dsimp only
    refine wpAny_bind (wpAny_holding (wpAny_bind ?_))
    obtain ⟨oT,eT,cT,nn,dT⟩:=tT
    have k1:∀ b o,b ≠ it -> s.heap.get? b = some o -> h1.get? b = some o:=fun b o hb e=>(s1.2 b hb).trans e
    have hT1:({ s with heap:=h1 }:Shared).TypeIs (.ref T) "tuple" :=⟨_,k1 _ _ nT eT,cT⟩
    show wpAny _ _ (tryCatch (Builtin.Dict.pairItems (.ref T)) _) _ _ _
    refine wpAny_tryCatch ?_
    unfold Builtin.Dict.pairItems
    refine wpAny_bind (wpAny_typeOf hT1 ?_)
    rw [if_pos (show (Value.type "tuple" == Value.type "list" || Value.type "tuple" == Value.type "tuple") = true by decide)]
    refine wpAny_bind (wpAny_seqItems (k1 _ _ nT eT) dT (wpAny_pure ?_))
    show wpAny _ _ (holding [key,v] (dictSet D key v)) _ _ _
    refine wpAny_holding (wpAny_dictSet_pairs kk (dd.sameBut s1 (Ne.symm hiD)) (hsz:=by omega) fun h2 d2 s2=>?_)
    refine wpAny_pure ⟨plainId_quiet jv _,?_⟩
    have k2:∀ b o,b ≠ it -> b ≠ D -> s.heap.get? b = some o -> h2.get? b = some o:=fun b o hb hb' e=>(s2.2 b hb').trans (k1 b o hb e)
    have lst:(stored kvs k v).length <= kvs.length + 1:=stored_length_le kvs k v
    have:=ih { s with heap:=h2,toks:=s.toks + 1 } (i + 1) (stored kvs k v) (by omega) hlt (i1.at fun o e=>(s2.2 it hiD).trans e) (il.at fun o e=>k2 l o hil hlD e) d2 (by omega)
      (fun j u hj=>by
        obtain ⟨T',k',key',v',z1,z2,z3,z4,z5,z6⟩:=ht j u hj
        obtain ⟨o',e',r'⟩:=z4
        exact ⟨T',k',key',v',z1,z2,z3,⟨o',k2 _ _ z2 z3 e',r'⟩,z5,z6⟩)
      (fun h' tk d' kp=>q h' tk (by rw [<- Qu kvs pairs i (k,v) ep];exact d') fun b o hb hb' e=>kp b o hb hb' (k2 b o hb hb' e))
    exact this
end
def zbD:Obj:={ cls:=.type "dict",data:=.dict #[] }
theorem yA:(Value.type "list" != Value.type "dict") = true:=by decide
section
variable {prog:Program} {w:World} {K:Type} [DecidableEq K] {knd:KeyKind prog w K} {A:Around} {E:Value -> Shared -> Prop} {s:Shared}
theorem wx {l:Addr} {items:Array Value} {n:Nat} {pairs:List (K × Value)} {Q:Value -> Shared -> Prop} (hh:A.handled = none) (hl:s.heap.get? l = some { cls:=.type "list",data:=.seq items n }) (hlen:pairs.length = items.size) (hsz:items.size <= sizeLine)
    (ht:∀ (j:Nat) (u:Value),items[j]? = some u -> ∃ (T:Addr) (k:K) (key v:Value),u = .ref T /\ IsTup s.heap T #[key,v] /\ knd.is k key = true /\ pairs[j]? = some (k,v))
    (h:∀ h' tk,h'.DictOf knd s.heap.objs.size (merged [] pairs) -> (∀ b o,s.heap.get? b = some o -> h'.get? b = some o) -> Q (.ref s.heap.objs.size) { s with heap:=h',toks:=tk }) :
    wpAny (model prog w) A (call (.type "dict") [.ref l]) Q E s:=by
  have dk:(s.heap.push zbD).DictOf knd s.heap.objs.size []:=.new s.heap
  have hl':=Heap.get?_push_of_some zbD hl
  refine callType_codes (Q₁:=fun u s1=>u = .ref s.heap.objs.size /\ s1 = { s with heap:=s.heap.push zbD }) F.kt_called_dict (F.kt_typeCall_dict_1 _) F.entry_dict_init (kt_code_dict_new _ ⟨rfl,rfl⟩) fun u s1 e=>?_
  obtain ⟨eu,es⟩:=e
  subst eu es
  refine ⟨dk.typeIs,F.args_dict_init_2 _ _,?_⟩
  show wpAny _ _ (Builtin.Dict.selfAndRest _ _ >>= fun x=>Builtin.Dict.updateCommon _ _ x.1 x.2 _) _ _ _
  refine wpAny_bind (wpAny_bind (wpAny_notOrdered_dict dk.typeIs ?_))
  refine wpAny_pure (show wpAny _ _ (Builtin.Dict.updateFrom "dict.__init__" s.heap.objs.size (.ref l) [] .none) _ _ _ from ?_)
  refine wpAny_bind (wpAny_typeOf (T:= "list") ⟨_,hl',rfl⟩ ?_)
  rw [if_pos yA]
  refine wpAny_bind (yb hh hl' fun h1 t1 k1=>?_)
  rw [if_pos (show (none:Option Value).isNone = true from rfl)]
  refine wpAny_bind (wpAny_rule (wpAny_bind (wpAny_pyIter_list ⟨_,k1 _ _ hl',rfl,n,rfl⟩ ?_)))
  have dD:=dk.keep k1
  have ltl:=Heap.lt_size hl
  obtain ⟨oD,_,_,eD,_⟩:=id dD
  have ltD:=Heap.lt_size eD
  have kk:∀ b o,s.heap.get? b = some o -> (h1.push { cls:=.type "list_iterator",data:=.fields #[.ref l,.int 0 0] }).get? b = some o:=fun b o e=>Heap.get?_push_of_some _ (k1 _ _ (Heap.get?_push_of_some _ e))
  have lt1:∀ b o,s.heap.get? b = some o -> b < h1.objs.size:=fun b o e=>Heap.lt_size (k1 _ _ (Heap.get?_push_of_some _ e))
  refine wpAny_pure ⟨plainId_quiet jv _,?_⟩
  refine Y9 (knd:=knd) (s:=⟨h1.push { cls:=.type "list_iterator",data:=.fields #[.ref l,.int 0 0] },s.gens,s.drawn,t1,s.os⟩) (l:=l) (it:=h1.objs.size) (D:=s.heap.objs.size) (items:=items) (pairs:=pairs) (A:=A.in1) (res:=.none) hh (Nat.ne_of_lt (lt1 _ _ hl)) (Nat.ne_of_lt ltl) (Nat.ne_of_gt ltD) hlen items.size 0 [] rfl (Nat.zero_le _) ⟨_,Heap.get?_push_size _ rfl,rfl,rfl⟩ ⟨_,kk _ _ hl,rfl,n,rfl⟩ (dD.push _) (by simpa using hsz) (fun j u hj=>?_) (fun h' tk d' kp=>?_)
  · obtain ⟨T,k,key,v,rfl,⟨o,e,r⟩,z,y⟩:=ht j u hj
    exact ⟨T,k,key,v,rfl,Nat.ne_of_lt (lt1 _ _ e),Nat.ne_of_lt (Heap.lt_size e),⟨o,kk _ _ e,r⟩,z,y⟩
  · exact ⟨rfl,h h' tk (by simpa using d') fun b o e=>kp b o (Nat.ne_of_lt (lt1 _ _ e)) (Nat.ne_of_lt (Heap.lt_size e)) (kk _ _ e)⟩
end
def PrsL (H:Hp) (xs:List V) (kps:List (Key × V)):Prop:=xs.length = kps.length /\ ∀ (j:Nat) (x:V),xs[j]? = some x -> ∃ (T:Addr) (k:Key) (v:V),x = .ref T /\ H T = some (.tup [kV k,v]) /\ kps[j]? = some (k,v)
theorem PrsL.nil {H:Hp}:PrsL H [] []:=⟨rfl,fun j x e=>by simp at e⟩
theorem PrsL.same {H H':Hp} {xs:List V} {kps:List (Key × V)} (h:PrsL H xs kps) (s:Same H H'):PrsL H' xs kps:=⟨h.1,fun j x e=>let ⟨T,k,v,a,b,c⟩:=h.2 j x e;⟨T,k,v,a,s _ _ b,c⟩⟩
theorem PrsL.snoc {H:Hp} {xs:List V} {kps:List (Key × V)} {T:Addr} {k:Key} {v:V} (h:PrsL H xs kps) (e:H T = some (.tup [kV k,v])):PrsL H (xs ++ [.ref T]) (kps ++ [(k,v)]):=by
  refine ⟨by rw [List.length_append,List.length_append,h.1];rfl,fun j x ex=>?_⟩
  have l:=h.1
  by_cases hj:j < xs.length
  · rw [List.getElem?_append_left hj] at ex
    obtain ⟨T',k',v',a,b,c⟩:=h.2 j x ex
    exact ⟨T',k',v',a,b,by rw [List.getElem?_append_left (by omega)];exact c⟩
  · rw [List.getElem?_append_right (by omega)] at ex
    have:j = xs.length:=by
      have:=(List.getElem?_eq_some_iff.mp ex).1
      simp at this;omega
    subst this
    simp at ex
    subst ex
    exact ⟨T,k,v,rfl,e,by rw [l,List.getElem?_append_right (Nat.le_refl _)];simp⟩
theorem zaD:∀ {kps:List (Key × V)} {ps:List (Key × Value)},kps.length = ps.length -> (∀ (j:Nat) p,ps[j]? = some p -> ∃ q,kps[j]? = some q /\ q.1 = p.1 /\ RelV q.2 p.2) -> KV kps ps
  | [],[],_,_=>.nil
  | [],_ :: _,h,_=>by simp at h
  | _ :: _,[],h,_=>by simp at h
  | x :: xs,u :: us,h,f=>by
    refine .cons ?_ (zaD (by simpa using h) fun j v e=>?_)
    · obtain ⟨y,e1,r⟩:=f 0 u rfl
      cases e1
      exact r
    · obtain ⟨y,e1,r⟩:=f (j + 1) v (by simpa using e)
      exact ⟨y,by simpa using e1,r⟩
theorem wj {α β:Type}:∀ (P:Nat -> α -> β -> Prop) (l:List α),(∀ j u,l[j]? = some u -> ∃ b,P j u b) -> ∃ bs:List β,bs.length = l.length /\ ∀ j u,l[j]? = some u -> ∃ b,bs[j]? = some b /\ P j u b
  | _,[],_=>⟨[],rfl,fun j u e=>by simp at e⟩
  | P,x :: l,f=>by
    obtain ⟨b,hb⟩:=f 0 x rfl
    obtain ⟨bs,h1,h2⟩:=wj (fun j=>P (j + 1)) l fun j u e=>f (j + 1) u (by simpa using e)
    refine ⟨b :: bs,by simp [h1],fun j u e=>?_⟩
    cases j with
    | zero=>simp at e;subst e;exact ⟨b,rfl,hb⟩
    | succ j=>
      obtain ⟨c,h3,h4⟩:=h2 j u (by simpa using e)
      exact ⟨c,by simpa using h3,h4⟩
theorem Vals.at:∀ {xs:List V} {us:List Value} {i:Nat} {u:Value},Vals xs us -> us[i]? = some u -> ∃ x,xs[i]? = some x /\ RelV x u:=fun {xs us i u} r e=>by
  have l:=Vals.length r
  have h:=(List.getElem?_eq_some_iff.mp e).1
  obtain ⟨v,e1,r1⟩:=r.get (i:=i) (x:=xs[i]'(by omega)) (List.getElem?_eq_getElem _)
  rw [e] at e1
  cases e1
  exact ⟨_,List.getElem?_eq_getElem _,r1⟩
section
variable {X:Cx}
inductive vM (xs:List V) (H:Hp) (Q:VK):Prop
  | mk (a:Addr) (ys:List V) (kps:List (Key × V)) (_:xs = [.ref a]) (_:H a = some (.lst ys)) (_:PrsL H ys kps) (_:∀ p,H p = none -> Q (.ref p) (upd H p (.dK (qG [] kps)))):vM xs H Q
theorem yj (hh:X.A.handled = none):ja X (.type "dict") (vM):=by
  intro pins s σ H xs us Q I r h
  obtain ⟨a,ys,kps,rfl,hx,pr,q⟩:=h
  obtain ⟨u,rfl,ru⟩:=Vals.one r
  cases (show u = Value.ref a from ru)
  obtain ⟨zz,its,n,rel,hl⟩:=(show ObjOk X.prog X.w H s.heap a (.lst ys) from I.hok a _ hx)
  have ln:=rel.length
  have kn:=pr.1
  have at_:∀ (j:Nat) (u:Value),its[j]? = some u -> ∃ (T:Addr) (k:Key) (key v:Value) (y:V),u = .ref T /\ IsTup s.heap T #[key,v] /\ (zC X.prog X.w).is k key = true /\ kps[j]? = some (k,y) /\ RelV y v:=fun j u hj=>by
    obtain ⟨x,ex,rx⟩:=Vals.at rel hj
    obtain ⟨T,k,v,rfl,eT,ek⟩:=pr.2 j x ex
    cases (show u = Value.ref T from rx)
    obtain ⟨_,ts,rt,it,_⟩:=(show ObjOk X.prog X.w H s.heap T (.tup [kV k,v]) from I.hok T _ eT)
    obtain ⟨u1,u2,rfl,r1,r2⟩:=Vals.two rt
    exact ⟨T,k,u1,u2,v,rfl,it,xW r1,ek,r2⟩
  obtain ⟨ps,lp,hp⟩:=wj (fun j u (p:Key × Value)=>∃ (T:Addr) (key:Value) (y:V),u = .ref T /\ IsTup s.heap T #[key,p.2] /\ (zC X.prog X.w).is p.1 key = true /\ kps[j]? = some (p.1,y) /\ RelV y p.2) its fun j u e=>by
    obtain ⟨T,k,key,v,y,a,b,c,d,f⟩:=at_ j u e
    exact ⟨(k,v),T,key,y,a,b,c,d,f⟩
  have kv:KV kps ps:=zaD (by omega) fun j p e=>by
    have hj:=(List.getElem?_eq_some_iff.mp e).1
    obtain ⟨b,e1,T,key,y,_,_,_,e2,r2⟩:=hp j _ (List.getElem?_eq_getElem (by omega))
    rw [e] at e1
    cases e1
    exact ⟨_,e2,rfl,r2⟩
  have mg:(qG [] kps).length <= sizeLine:=by
    have:=jw kps []
    rw [List.length_nil] at this
    omega
  have hn:H s.heap.objs.size = none:=I.hok.fresh (Nat.le_refl _)
  refine wx (knd:=zC X.prog X.w) (pairs:=ps) (items:=its.toArray) hh hl (by simp [lp]) (by simp;omega) (fun j u e=>?_) fun h' tk d' kp=>?_
  · rw [List.getElem?_toArray] at e
    obtain ⟨p,e1,T,key,y,a,b,c,d,f⟩:=hp j u e
    exact ⟨T,p.1,key,p.2,a,b,c,e1⟩
  · have ns:(s.heap.objs.size == sysModules) = false:=beq_eq_false_iff_ne.mpr (Nat.ne_of_gt I.big)
    exact ⟨.ref s.heap.objs.size,_,I.laid (a:=s.heap.objs.size) (o:=.dK (qG [] kps)) (t':=tk) kp (Nat.le_refl _) (ye mg ns (KV.merge kv .nil) d'),rfl,q _ hn⟩
end
section
variable {X:Cx}
theorem Yz {K:PySem.W.Frag} (h:X.K = K) {tg l:Expr} {tl:TE} (hl:PE X l tl):PI X tg l (zcz K tl):=by rw [<- h];exact Wp hl
end
section
variable {X:Cx} {elt tg iter:Expr} {ifs:List Expr} {scope:Scope} {pos:Pos} {wi:TI} {g:TG} {tf:TT} {te:TE} {x:Str}
theorem za9 {yt:Str} {py spos:Pos} {g2:TG} (fr:List Str) (js:List Nat) (hc:X.calm = true) (hk:scope.kind = .function) (hb:ZR scope.names X.env.scope.names X.N x fr js = true) (hi:PI X tg iter wi)
    (hg:∀ C s H ex,PG (qX X ([x] ++ fr) scope x C s H ex) tg g) (hf:∀ C s H ex,PF (qX X ([x] ++ fr) scope x C s H ex) ifs tf) (he:∀ C s H ex,PE (qX X ([x] ++ fr) scope x C s H ex) elt te)
    (hg2:PG X (.Name yt py) g2) (hsw:swapsWith (.ListComp elt [⟨tg,iter,ifs,0⟩] scope pos) (some (.Name yt py)) spos.line X.env = pure true:=by rfl)
    (hs:∀ x,foldedSetIterable iter X.env x = pure x:=by intro _;rfl):PS X (.Assign [.Name yt py] (.ListComp elt [⟨tg,iter,ifs,0⟩] scope pos) spos) (Q0 (tLC wi 1 js g tf te) g2):=by
  intro pins s σ H Dn I h
  have B:=Zm hb
  have hasF:∀ y ∈ scope.names,y.2 = NameKind.free -> ∃ c,X.env.cells.lookup y.1 = some c:=fun y hy e=>I.ok.has y.1 (B.free y hy e)
  rw [exec_Assign_Name_used _ _ _ _ hsw]
  refine wpAny_bind (wpAny_standAt (wpAny_bind ?_))
  show wpAny _ X.A (do let _ <- comprehension (.ListComp elt [⟨tg,iter,ifs,0⟩] scope pos) scope X.env _ (newList []) false (eval iter X.env) (some (assign (.Name yt py) X.env))) _ _ s
  refine wpAny_bind (wpAny_mono (wpAny_comprehension_free (use:=some (assign (.Name yt py) X.env)) (Q:=fun _ s'=>∃ σ' H',Inv X pins σ' H' s' /\ Dn.nx σ' H') rfl hs (Xv hasF) hk (fun y hy e=>B.loc y hy e) (thn (hi pins s σ H _ I h) fun v s1 h1=>thn h1 fun itv s2 h2=>?_)) (fun _ s' hq=>wpAny_pure (wpAny_pure hq)) fun _ _ e=>e)
  obtain ⟨it,fp,tn,J,H2,e,I2,T,st2,f2,W,⟨m0,w0⟩,turn⟩:=h2
  subst e
  have fl:∀ b ∈ fp,b < s2.heap.objs.size:=fun b hb=>let ⟨o,e,_⟩:=T.obj _ _ st2 b hb;Heap.lt_size e
  refine wpAny_newObj_type (Jg B.one ?_)
  dsimp only
  generalize e3:s2.heap.push { cls:=.type "list",dict:=none,data:=.seq ([]:List Value).toArray } = h3
  have hns:((h3.push { cls:=.type "dict",data:=.dict #[] }).push { cls:=.type "cell",data:=.cell none }).Ns h3.objs.size (fun _=>none):=(Heap.Ns.new h3 (.type "dict")).keeps fun b o e=>Heap.get?_push_of_some _ e
  have hcell:((h3.push { cls:=.type "dict",data:=.dict #[] }).push { cls:=.type "cell",data:=.cell none }).IsCell (h3.objs.size + 1) none:=⟨_,by have:=Heap.get?_push_size (h3.push { cls:=.type "dict",data:=.dict #[] }) (o:={ cls:=.type "cell",data:=.cell none }) rfl;rwa [Heap.size_push] at this,rfl⟩
  have k4:∀ b o,h3.get? b = some o -> ((h3.push { cls:=.type "dict",data:=.dict #[] }).push { cls:=.type "cell",data:=.cell none }).get? b = some o:=fun b o e=>Heap.get?_push_of_some _ (Heap.get?_push_of_some _ e)
  generalize (h3.push { cls:=.type "dict",data:=.dict #[] }).push { cls:=.type "cell",data:=.cell none } = h1 at hns hcell k4
  have k3:∀ b o,s2.heap.get? b = some o -> h3.get? b = some o:=fun b o e=>by rw [<- e3];exact Heap.get?_push_of_some _ e
  have I4:Inv (qX X ([x] ++ fr) scope x h3.objs.size { s2 with heap:=h3 } H2 (s2.heap.objs.size :: fp)) [] (upS 1 js σ) H2 { s2 with heap:=h1 }:=
    Jr fr js I2 B hk f2 fl rfl e3.symm rfl hns hcell k4
  have I3:Inv X pins σ H2 { s2 with heap:=h3 }:=I2.kept (t':=s2.toks) k3
  have hz:h3.objs.size = s2.heap.objs.size + 1:=by rw [<- e3,Heap.size_push]
  have hDl:s2.heap.objs.size ≠ h3.objs.size:=by rw [hz];exact Nat.ne_of_lt (Nat.lt_succ_self _)
  have hacc:h1.get? s2.heap.objs.size = some { cls:=.type "list",data:=.seq ([]:List Value).toArray }:=k4 _ _ (by rw [<- e3];exact Heap.get?_push_size _ rfl)
  have fpC:=(I3.fpOk (b:=h3.objs.size) (Nat.le_refl _) (I3.hok.fresh (Nat.le_refl _))).2
  generalize eD:s2.heap.objs.size = D at *
  generalize eC:h3.objs.size = C at *
  have fD:∀ b ∈ fp,D ≠ b:=fun b hb=>Nat.ne_of_gt (fl b hb)
  have look:∀ y c,((x,C + 1) :: qw X.env.cells scope.names []).lookup y = some c -> c = C + 1 \/ X.env.cells.lookup y = some c:=fun y c e=>by
    rw [List.lookup_cons] at e
    by_cases q:(y == x) = true
    · rw [q] at e
      exact .inl (Option.some.inj e).symm
    · rw [(Bool.not_eq_true _).mp q] at e
      exact .inr (zT e hasF)
  have hx:∀ y c,((x,C + 1) :: qw X.env.cells scope.names []).lookup y = some c -> c ≠ D:=fun y c e=>by
    rcases look y c e with z | z
    · rw [z,hz];exact Nat.ne_of_gt (Nat.lt_succ_of_lt (Nat.lt_succ_self _))
    · obtain ⟨v,q⟩:=I2.cell y c z
      rw [<- eD];exact Nat.ne_of_lt q.lt
  have hx2:∀ b ∈ fp,∀ y c,((x,C + 1) :: qw X.env.cells scope.names []).lookup y = some c -> c ≠ b:=fun b hb y c e=>by
    rcases look y c e with z | z
    · rw [z,hz];exact Nat.ne_of_gt (Nat.lt_succ_of_lt (Nat.lt_succ_of_lt (fl b hb)))
    · exact (f2 b hb).2.2.2.2.1 y c z
  have nfs:∀ b ∈ D :: fp,b ∉ frs X.stack:=I4.ok.exfs
  have fpB:∀ {pins':List (Addr × Obj)} {H':Hp} {b:Addr},b ∈ fp -> H' b = none -> (∀ p ∈ pins',p.1 ≠ b) -> jk (qX X ([x] ++ fr) scope x C { s2 with heap:=h3 } H2 (D :: fp)) pins' H' b:=fun {pins' H' b} hb hn hp=>
    ⟨hn,(I4.ok.exf b (List.mem_cons_of_mem _ hb)).1,nfs b (List.mem_cons_of_mem _ hb),.inl (List.mem_cons_of_mem _ hb),fun x c e=>hx2 b hb x c e,fun p h=>hp p (by simpa using h)⟩
  have fpD:∀ {pins':List (Addr × Obj)} {H':Hp},H' D = none -> (∀ p ∈ pins',p.1 ≠ D) -> jk (qX X ([x] ++ fr) scope x C { s2 with heap:=h3 } H2 (D :: fp)) pins' H' D:=fun {pins' H'} hn hp=>
    ⟨hn,hDl,nfs D List.mem_cons_self,.inl List.mem_cons_self,fun x c e=>hx x c e,fun p h=>hp p (by simpa using h)⟩
  have loop:∀ s4:Shared,s4 = { s2 with heap:=h1 } ->
      codeAny (model X.prog X.w) X.A (.compLoop (.ListComp elt [⟨tg,iter,ifs,0⟩] scope pos) 0 (.ref it) (.ref D) (compEnvC scope ((x,C + 1) :: qw X.env.cells scope.names []) C X.env))
        (compPost (model X.prog X.w) X.A X.xe (some (assign (.Name yt py) X.env)) (fun _ s'=>∃ σ' H',Inv X pins σ' H' s' /\ Dn.nx σ' H') (.ref D) C) s4:=by
    intro s4 e4
    refine QT (fun n s'=>∃ i ys its H',∃ z:Nat,Inv (qX X ([x] ++ fr) scope x C { s2 with heap:=h3 } H2 (D :: fp)) [] (upS 1 js σ) H' s' /\ tn i s'.heap /\ (∀ b ∈ fp,H' b = none) /\ H' D = none /\
      s'.heap.get? D = some { cls:=.type "list",data:=.seq (its:List Value).toArray z } /\ Vals ys its /\ W i n ys H') ?_ m0 ?_
    · rintro n s5 ⟨i,ys,its,H5,z5,I5,st5,fr5,hD5,ho5,rv5,w5⟩
      have I5':=I5.pinned (fp:=[D]) (fun b hb=>by rw [List.mem_singleton.mp hb];exact fpD hD5 (fun p hp=>absurd hp (by simp))) (fun b hb=>by
        rw [List.mem_singleton.mp hb];exact ⟨_,ho5,fun v q=>nomatch q⟩)
      have pD:∀ p ∈ [] ++ zR [D] s5.heap,p.1 = D:=fun p hp=>by
        rw [List.nil_append] at hp
        exact List.mem_singleton.mp (j9 hp).1
      have mD:(D,({ cls:=.type "list",data:=.seq its.toArray z5 }:Obj)) ∈ [] ++ zR [D] s5.heap:=by
        rw [List.nil_append];exact qy (List.mem_singleton.mpr rfl) ho5
      have fp5:∀ {H':Hp},(∀ b ∈ fp,H' b = none) -> ∀ b ∈ fp,jk (qX X ([x] ++ fr) scope x C { s2 with heap:=h3 } H2 (D :: fp)) ([] ++ zR [D] s5.heap) H' b:=fun hn b hb=>fpB hb (hn b hb) fun p hp=>by
        rw [pD p hp];exact fD b hb
      rcases turn i n ys H5 w5 with ⟨stop,hlen,q⟩ | ⟨go,N,hN,step⟩
      · refine thn (T.done (qX X ([x] ++ fr) scope x C { s2 with heap:=h3 } H2 (D :: fp)) rfl rfl rfl hc i _ s5 _ H5 _ I5' (fp5 fr5) st5 stop) fun r s6 ⟨hr,I6⟩=>?_
        subst hr
        obtain ⟨m6,hn6,_⟩:=I6.loc
        obtain ⟨o6,nD6,_⟩:=I6.pin (D,_) (List.mem_append_right _ mD)
        have k7:∀ b o,b ≠ C -> s6.heap.get? b = some o -> s6.heap.get? b = some o:=fun b o _ e=>e
        have J0:Inv X pins σ (upd H5 D (.lst ys)) s6:=by
          refine I3.call' (s':=s6) (ch:=D :: fp) I6.os (Z2 (VN I6.base (Nat.le_of_eq eC) k7) List.mem_cons_self (I2.hok.fresh ?_)) (y8 (Xi I6.hok I6.free k7) nD6 ⟨hlen,its,z5,rv5,k7 D _ hDl o6⟩) I6.bare fun b hb=>?_
          · rw [<- eD];exact Nat.le_refl _
          · rcases List.mem_cons.mp hb with y | hb
            · subst y
              refine ⟨.inr (by rw [<- eD];exact I2.sz),by rw [<- eD];exact Nat.ne_of_gt I2.lt,fun x c e=>?_,fun p hp=>?_⟩
              · obtain ⟨v,q⟩:=I2.cell x c e
                rw [<- eD];exact Nat.ne_of_lt q.lt
              · rw [<- eD];exact Nat.ne_of_lt (Heap.lt_size (I2.pin p hp).1)
            · obtain ⟨_,g1,_,g3,g4,g5⟩:=f2 b hb
              exact ⟨g3,g1,g4,g5⟩
        obtain ⟨oC,eoC,dC⟩:∃ o,s6.heap.get? C = some o /\ ∀ v,o.data ≠ .cell v:=by
          obtain ⟨o,es,ep,ho,hd,_⟩:=hn6
          exact ⟨o,ho,fun v z=>by rw [hd] at z;cases z⟩
        have hC0:(upd H5 D (.lst ys)) C = none:=by
          rw [zi (Ne.symm hDl)];exact I6.free
        have J1:=J0.pinned (fp:=[C]) (fun b hb=>by rw [List.mem_singleton.mp hb];exact ⟨hC0,fpC⟩) (fun b hb=>by rw [List.mem_singleton.mp hb];exact ⟨oC,eoC,dC⟩)
        have mC:(C,oC) ∈ pins ++ zR [C] s6.heap:=List.mem_append_right _ (qy (List.mem_singleton.mpr rfl) eoC)
        refine thn (hg2 _ s6 σ _ (.ref D) (.ref D) _ J1 rfl (q D nD6)) fun _ s8 ⟨σ8,H8,I8,q8⟩=>?_
        obtain ⟨e8,n8,_⟩:=I8.pin (C,oC) (List.mem_append_right _ mC)
        refine ⟨m6,?_,fun h9 hs9=>⟨σ8,H8,?_,q8⟩⟩
        · obtain ⟨o,es,ep,ho,r⟩:=hn6
          have ho':s6.heap.get? C = some o:=ho
          rw [eoC] at ho';cases ho'
          exact ⟨oC,es,ep,e8,r⟩
        · obtain ⟨g1,_,g3,g4,g5⟩:=fpC
          exact (I8.unpinned).turned (t':=s8.toks) (it:=C) (fun b o hb e=>hs9.extBut b o hb e) n8 g1 g3 g4 g5
      · refine thn (T.item (qX X ([x] ++ fr) scope x C { s2 with heap:=h3 } H2 (D :: fp)) rfl rfl rfl hc i _ s5 _ H5 _ I5' (fp5 fr5) st5 go) fun r s6 ⟨u,hr,h6⟩=>?_
        subst hr
        refine thn h6 fun _ s7 ⟨x7,H7,I7,r7,y7,st7,fr7⟩=>?_
        have I7':=I7.pinned (fp5 fr7) (T.obj _ _ st7)
        refine thn (hg _ _ _ _ _ s7 _ H7 x7 u _ I7' r7 (step x7 H7 y7)) fun _ s8 ⟨σ8,H8,I8,hd8,q8⟩=>?_
        refine thn (hf _ _ _ _ _ s8 σ8 H8 _ I8 q8) fun ok s9 ⟨H9,I9,q9⟩=>?_
        have weak:∀ {H':Hp} {s':Shared},Inv (qX X ([x] ++ fr) scope x C { s2 with heap:=h3 } H2 (D :: fp)) (([] ++ zR [D] s5.heap) ++ zR fp s7.heap) σ8 H' s' ->
            Inv (qX X ([x] ++ fr) scope x C { s2 with heap:=h3 } H2 (D :: fp)) [] (upS 1 js σ) H' s':=fun {H' s'} J=>by
          refine (J.unpinned).unpinned.weak (I5.len.trans J.len.symm) fun k v e=>?_
          obtain ⟨hn,e1,_⟩:=vg e
          rw [<- hd8,List.getElem?_drop] at e1
          rw [<- e1]
          congr 1
          omega
        have mF:∀ b ∈ fp,∀ o,s7.heap.get? b = some o -> (b,o) ∈ ([] ++ zR [D] s5.heap) ++ zR fp s7.heap:=fun b hb o e=>List.mem_append_right _ (qy hb e)
        have mD':=List.mem_append_left (zR fp s7.heap) mD
        have frB:∀ {H':Hp} {s':Shared},Inv (qX X ([x] ++ fr) scope x C { s2 with heap:=h3 } H2 (D :: fp)) (([] ++ zR [D] s5.heap) ++ zR fp s7.heap) σ8 H' s' -> ∀ b ∈ fp,H' b = none:=fun {H' s'} J b hb=>by
          obtain ⟨o,e,_⟩:=T.obj _ _ st7 b hb
          exact (J.pin (b,o) (List.mem_append_right _ (mF b hb o e))).2.1
        cases ok with
        | false=>
          have q9':N ys H9:=by simpa using q9
          obtain ⟨m',hm,w'⟩:=hN _ _ q9'
          obtain ⟨o9,nD9,_⟩:=I9.pin (D,_) (List.mem_append_right _ mD')
          exact ⟨m',hm,i + 1,ys,its,H9,z5,weak I9,T.keep _ _ _ st7 fun b hb o e=>(I9.pin (b,o) (List.mem_append_right _ (mF b hb o e))).1,frB I9,nD9,o9,rv5,w'⟩
        | true=>
          have q9':te σ8 H9 fun y H6=>ys.length < sizeLine /\ N (ys ++ [y]) H6:=by simpa using q9
          refine thn (he _ _ _ _ _ s9 σ8 H9 _ I9 q9') fun yv s10 ⟨y,H10,I10,r10,hlt,w10⟩=>?_
          obtain ⟨m',hm,w'⟩:=hN _ _ w10
          obtain ⟨o10,nD10,_⟩:=I10.pin (D,_) (List.mem_append_right _ mD')
          refine wpAny_list_append_plain (l:=D) (items:=its.toArray) (hsz:=by rw [List.size_toArray,<- rv5.length];exact Nat.le_of_lt hlt) ⟨_,o10⟩ fun h11 hl11 hs11=>?_
          obtain ⟨z11,e11⟩:=hl11
          refine ⟨m',hm,i + 1,ys ++ [y],its ++ [yv],H10,z11,?_,T.keep _ _ _ st7 fun b hb o e=>hs11.extBut b o (Ne.symm (fD b hb)) (I10.pin (b,o) (List.mem_append_right _ (mF b hb o e))).1,frB I10,nD10,?_,rv5.append (.cons r10 .nil),w'⟩
          · exact (weak I10).turned (t':=s10.toks) (it:=D) (fun b o hb e=>hs11.extBut b o hb e) nD10 hDl (.inl List.mem_cons_self) (fun x c e=>hx x c e) fun p hp=>absurd (show p ∈ ([]:List (Addr × Obj)) from hp) (by simp)
          · rw [e11];simp
    · subst e4
      exact ⟨0,[],[],H2,0,I4,T.keep _ _ _ st2 fun b hb o e=>k4 b o (k3 b o e),fun b hb=>(f2 b hb).1,I2.hok.fresh (by rw [<- eD];exact Nat.le_refl _),hacc,.nil,w0⟩
  exact codeAny_compStart_list (loop _ rfl) (T.self X.A 0 _ _ _ (T.keep _ _ _ st2 fun b hb o e=>k4 b o (k3 b o e)) (loop _ rfl))
theorem za8 {px:Pos} {yt:Str} {py spos:Pos} {g2:TG} (fr:List Str) (js:List Nat) (hc:X.calm = true) (hk:scope.kind = .function) (hb:ZR scope.names X.env.scope.names X.N x fr js = true) (hi:PI X (.Name x px) iter wi)
    (hf:∀ C s H ex,PF (qX X ([x] ++ fr) scope x C s H ex) ifs tf) (he:∀ C s H ex,PE (qX X ([x] ++ fr) scope x C s H ex) elt te)
    (hg2:PG X (.Name yt py) g2) (hsw:swapsWith (.ListComp elt [⟨.Name x px,iter,ifs,0⟩] scope pos) (some (.Name yt py)) spos.line X.env = pure true:=by rfl)
    (hs:∀ x,foldedSetIterable iter X.env x = pure x:=by intro _;rfl):PS X (.Assign [.Name yt py] (.ListComp elt [⟨.Name x px,iter,ifs,0⟩] scope pos) spos) (Q0 (tLC wi 1 js (jR 0) tf te) g2):=by
  have B:=Zm hb
  refine za9 fr js hc hk hb hi (fun C s H ex=>?_) hf he hg2 hsw hs
  have lk:(compEnvC scope ((x,C + 1) :: qw X.env.cells scope.names []) C X.env).scope.names.lookup x = some .cell:=va B.lk
  exact zn (X:=qX X ([x] ++ fr) scope x C s H ex) B.nd rfl (.inr lk) (.inl (by show (x == x) = true;simp))
variable {y:Str} {px py tp:Pos} {kk:Nat}
theorem YB {K:PySem.W.Frag} (hK:X.K = K) (fr:List Str) (js:List Nat) (hc:X.calm = true) (hk:scope.kind = .function) (hb:xK scope.names X.env.scope.names X.N [x,y] fr js = true) (hi:PI X (.Tuple [.Name x px,.Name y py] kk tp) iter wi)
    (hf:∀ C s H ex,PF (zF X ([x,y] ++ fr) scope C s H ex) ifs tf) (he:∀ C s H ex,PE (zF X ([x,y] ++ fr) scope C s H ex) elt te)
    (hs:∀ x,foldedSetIterable iter X.env x = pure x:=by intro _;rfl):PE X (.ListComp elt [⟨.Tuple [.Name x px,.Name y py] kk tp,iter,ifs,0⟩] scope pos) (tLC wi 2 js (Vw K 2 (xX (jR 0) (xX (jR 1) WY))) tf te):=by
  subst hK
  exact jF fr js hc hk hb hi hf he hs
end
def Up (xs:Array Nat):Prop:=xs.toList.Pairwise (· < ·)
structure zcH (b:Bool) (t:SetTable):Prop where
  up:Up t.place
  no:t.dummies = #[]
  led:t.led = b
section
variable {prog:Program} {w:World} {K:Type} [DecidableEq K] (knd:KeyKind prog w K)
def ElX (es:List (Int × Value)) (ks:List K):Prop:=ElemsOf knd es /\ ∃ ks',ks'.Perm ks /\ Paired (fun k (e:Int × Value)=>knd.is k e.2 = true) ks' es
def ObX (b:Bool) (o:Obj) (ks:List K):Prop:=∃ es ep t,o.ExactSet /\ o.data = .set es ep t /\ ElX knd es.toList ks /\ ks.Nodup /\ es.size < scanBound /\ t.fits es.size = true /\ zcH b t
def SetX (b:Bool) (h:Heap) (a:Addr) (ks:List K):Prop:=∃ o,h.get? a = some o /\ ObX knd b o ks
variable {knd}
theorem SetX.at {b:Bool} {h h':Heap} {a:Addr} {ks:List K} (x:SetX knd b h a ks) (k:∀ o,h.get? a = some o -> h'.get? a = some o):SetX knd b h' a ks:=let ⟨o,e,r⟩:=x;⟨o,k o e,r⟩
variable {A:Around} {E:Value -> Shared -> Prop} {s:Shared}
end
section
variable {K:Type} [DecidableEq K]
variable {prog:Program} {w:World} {knd:KeyKind prog w K} {A:Around} {R:Result -> Shared -> Prop} {it l S:Addr} {items:Array Value} {keys:List K} {b:Bool}
end
section
variable {prog:Program} {w:World} {A:Around} {E:Value -> Shared -> Prop} {s:Shared}
end
section
variable {prog:Program} {w:World} {K:Type} [DecidableEq K] {knd:KeyKind prog w K} {A:Around} {E:Value -> Shared -> Prop} {s:Shared}
end
section
variable {M:Model} {A:Around} {E:Value -> Shared -> Prop} {s:Shared}
end
section
variable {prog:Program} {w:World} {A:Around} {E:Value -> Shared -> Prop} {h:Heap} {g:Array GenState} {d:Drawn} {tk:Nat} {os:OsState} {it a:Addr} {o:Obj} {es:Array (Int × Value)} {ep:Nat} {t:SetTable} {i:Nat}
end
section
variable {prog:Program} {w:World} {A:Around} {E:Value -> Shared -> Prop} {s:Shared} {a:Addr} {o:Obj} {es:Array (Int × Value)} {ep:Nat} {t:SetTable} {i sl:Nat}
end
section
variable {prog:Program} {w:World} {A:Around} {E:Value -> Shared -> Prop} {h:Heap} {g:Array GenState} {d:Drawn} {tk:Nat} {os:OsState} {it a T:Addr} {o oT:Obj} {es:Array (Int × Value)} {ep:Nat} {t:SetTable} {i n c:Nat} {ps:Array Value}
end
section
variable {prog:Program} {w:World} {A:Around} {E:Value -> Shared -> Prop} {s:Shared} {it:Addr} {oi:Obj}
end
section
variable {prog:Program} {w:World} {A:Around}
variable {it a T:Addr} {o oT:Obj} {es:Array (Int × Value)} {ep c:Nat} {t:SetTable}
end
section
variable {prog:Program} {w:World} {A:Around} {E:Value -> Shared -> Prop} {s:Shared} {a:Addr} {o:Obj} {es:Array (Int × Value)} {ep:Nat} {t:SetTable}
end
section
variable {prog:Program} {w:World} {A:Around} {E:Value -> Shared -> Prop} {s:Shared} {a:Addr} {o:Obj} {es:Array (Int × Value)} {ep:Nat} {t:SetTable}
end
section
variable {prog:Program} {w:World} {A:Around} {E:Value -> Shared -> Prop} {s:Shared} {a:Addr} {o:Obj} {es:Array (Int × Value)} {ep:Nat} {t:SetTable}
end
section
variable {X:Cx}
end
section
variable {X:Cx}
end
theorem Y8 (l:Addr) (items:Array Value) (n:Nat) (b:Addr) (items2:Array Value) (h0:¬(!items.isEmpty && Builtin.List.listTooLong (items.size + items2.size)) = true) (h1:items.size <= sizeLine) (h2:items.size + items2.size <= sizeLine + 1) :
    Meets (Builtin.«list.extend» ⟨[.ref l,.ref b],[]⟩) (fun _ R s=>s.heap.get? l = some { cls:=.type "list",dict:=none,data:=.seq items n,slots:=#[] } /\ IsTup s.heap b items2 /\ R (.ok (.ret Value.none)) { s with heap:=s.heap.update l (Obj.mapSeq fun x=>x ++ items2),toks:=s.toks }):=
  .of_wp fun prog w A R s h=>by
    obtain ⟨hp,g,d,tk,os⟩:=s
    obtain ⟨hl,⟨⟨cls,dd,data,sl⟩,hb,hc,n2,hd⟩,h⟩:=h
    simp only at hc hd
    subst hc hd
    have f1:=AutoSeq1.idx_int;have f2:=AutoSeq1.sub_tuple_tuple;have f3:=AutoSeq1.sub_list_list;have f4:=AutoSeq1.sub_tuple_list;have f5:=AutoSeq1.sub_list_tuple
    have hz:(items ++ items2).size <= sizeLine + 1:=by rw [Array.size_append];exact h2
    wp_walk using (wpAny_updateSeq hl rfl (hz:=h1) (_hz':=hz)),AutoSeq1.wpAny_loadPart' hl,AutoSeq1.wpAny_loadPart' hb
    exact ⟨_,rfl,h⟩
section
variable {X:Cx} {elt iter1 iter:Expr} {ifs1 ifs:List Expr} {scope:Scope} {pos:Pos} {wi wi1:TI} {tf tf1:TT} {te:TE} {x y z u:Str} {px py pz pu tp tp2:Pos} {kk kk2:Nat}
inductive Zs (K:PySem.W.Frag) (x:V) (y:V) (H:Hp) (Q:VK):Prop
  | mk (a b:Addr) (xs:List V) (_:x = .ref a) (_:y = .ref b) (_:SqT K H a xs) (_:SqT K H b []) (_:Q (.bl (!xs.isEmpty)) H):Zs K x y H Q
theorem YG (hu:X.A.units < cLine):OpR X (compareOp .NotEq) (Zs X.K):=by
  intro pins s σ H x y v u Q I rx ry h
  obtain ⟨a,b,xs,rfl,rfl,hx,hy,q⟩:=h
  cases rx
  cases ry
  obtain ⟨its1,r1,p1,z1⟩:=I.tuple hx
  obtain ⟨its2,r2,p2,z2⟩:=I.tuple hy
  cases r2
  refine SeqAt.RcNeAt.tuples (e:=fun _=>true) p1 p2 hu (fun j h1 h2=>by simp at h2) _ _ _ _ ⟨.bl _,H,I,rfl,?_⟩
  have e:(!((List.range (min its1.toArray.size ([]:List Value).toArray.size)).all (fun _=>true) && its1.toArray.size == ([]:List Value).toArray.size)) = !xs.isEmpty:=by
    cases r1 with
    | nil=>rfl
    | cons r t=>simp
  rw [e]
  exact q
inductive zaz (K:PySem.W.Frag) (x:V) (vs:List V) (H:Hp) (Q:VK):Prop
  | mk (l b xs zs:_) (_:x = .ref l) (_:vs = [.ref b]) (_:H l = some (.lst xs)) (_:SqT K H b zs) (_:xs.length + zs.length <= sizeLine) (_:Q .non (upd H l (.lst (xs ++ zs)))):zaz K x vs H Q
theorem YU:MtM X "list.extend" (zaz X.K):=by
  intro pins s σ H x vs v us Q I rx rv h
  obtain ⟨l,b,xs,zs,rfl,rfl,hH,hB,hz,q⟩:=h
  cases rx
  obtain ⟨u,rfl,ru⟩:=rv.one
  cases ru
  obtain ⟨z,its,n,r,hl,e⟩:=I.lstM hH
  obtain ⟨its2,r2,p2,z2⟩:=I.tuple hB
  have l2:=r2.length
  have sz:its.toArray.size + its2.toArray.size <= sizeLine:=by rw [List.size_toArray,List.size_toArray];omega
  refine call_meets F.slot_list_extend ⟨_,e,rfl⟩ F.entry_list_extend (F.args_list_extend_2 _ _) (Y8 l its.toArray n b its2.toArray (by rw [Qo sz,Bool.and_false];exact Bool.false_ne_true) (by rw [List.size_toArray];omega) (by omega)) ⟨e,p2,?_⟩
  exact ⟨.non,_,I.lset (its':=its ++ its2) hH e (by simp) (r.append r2) (by rw [List.length_append];omega),rfl,q⟩
variable {oo e:Expr} {ees:List Expr} {to:TE} {tt:TA} {name:Str} {apos cpos:Pos} {T id:String} {r:V -> List V -> Hp -> VK -> Prop}
theorem zbf {K:PySem.W.Frag} (hK:X.K = K) (pa:PlainAttrs T) (slot:Slot T name id) (hty:typeOf (.builtin id) = pure (.type "method_descriptor")) (hm:MtR X id r) (ho:PE X oo to) (ha:PA X (e :: ees) tt)
    (hbase:attributeBase oo name X.env (eval oo X.env) = eval oo X.env:=by rfl)
    (hfew:((backTo cpos (starEach (e :: ees) X.env)).all (fun x=>!x.1) && (backToKw cpos (keywordEach [] X.env)).all (fun x=>x.1.isSome) && decide ((e :: ees).length + ([]:List Keyword).length + (if ([]:List Keyword).isEmpty then 0 else 1) < 30)) = true:=by rfl)
    (hline:(apos.endLine == cpos.line) = true:=by rfl) (hs:starEach (e :: ees) X.env = (false,eval e X.env) :: starEach ees X.env:=by rfl) (hplain:(backTo cpos (starEach ees X.env)).any (·.1) = false:=by rfl) :
    PE X (.Call (.Attribute oo name apos) (e :: ees) [] cpos) (tBM K T r to tt):=by
  subst hK
  exact jn pa slot hty hm ho ha hbase hfew hline hs hplain
end
end L2
namespace L2
open PySem PySem.Spec PyProof.Rows PySem.W
section
variable {n:Nat} {r:Nat -> Nat}
def vA (r:Nat -> Nat) (p:Array Nat) (k:Nat):Nat:=r (p.getD k 0)
structure Gd (n:Nat) (p:Array Nat):Prop where
  pm:p.toList.Perm (List.range n)
theorem Gd.sz {p:Array Nat} (g:Gd n p):p.size = n:=by have:=g.pm.length_eq;rwa [Array.length_toList,List.length_range] at this
theorem Gd.at {p:Array Nat} (g:Gd n p) {k:Nat} (h:k < n):p[k]? = some (p.getD k 0):=by
  rw [Array.getD_eq_getD_getElem?,Array.getElem?_eq_getElem (by rw [g.sz];exact h)]
  rfl
variable {bt:Nat -> Nat -> Bool} (ri:∀ i j,i < n -> j < n -> r i = r j -> i = j) (hb:∀ i j,i < n -> j < n -> bt i j = decide (r i < r j))
include ri hb
end
end L2
namespace L2
open PySem PySem.Spec PyProof.Rows PySem.W
section
variable {prog:Program} {w:World} {A:Around} {E:Value -> Shared -> Prop} {s:Shared}
end
end L2
namespace L2
open PySem PySem.Spec PyProof.Rows PySem.W
section
variable {X:Cx} {pins:List (Addr × Obj)} {σ:St} {s:Shared}
end
end L2
namespace L2
open PySem PySem.Spec PyProof.Rows PySem.W
section
variable {X:Cx}
def Jw (p d:Addr):HO:=.ext fun h=>h.IsItemsView p d
end
end L2
namespace L2
open PySem PySem.Spec PyProof.Rows
section
variable {X:Cx}
variable {elt iter:Expr} {ifs:List Expr} {scope:Scope} {pos:Pos} {wi:TI} {tf:TT} {te:TE} {x y z:Str} {px py pz tp:Pos} {kk:Nat}
end
section
variable {X:Cx}
end
section
variable {X:Cx} {elt tg iter:Expr} {ifs:List Expr} {scope:Scope} {pos:Pos} {wi:TI} {g:TG} {tf:TT} {te:TE} {x:Str}
end
end L2
namespace L2
open PySem PySem.Spec PyProof.Rows PySem.W
section
variable {prog:Program} {w:World} {A:Around} {E:Value -> Shared -> Prop} {s:Shared}
end
end L2
namespace L2
open PySem PySem.Spec PyProof.Rows PySem.W
def PrR (H:Hp) (zs:List V) (ps:List (Int × Int)):Prop:=zs.length = ps.length /\ ∀ (j:Nat) q,ps[j]? = some q -> ∃ T,zs[j]? = some (.ref T) /\ H T = some (.tup [.int q.1,.int q.2])
section
variable {X:Cx}
def zaH (X:Cx) (f:Value) (kw:List (Str × Value)) (r:List V -> Hp -> VK -> Prop):Prop:=
  ∀ (pins:List (Addr × Obj)) (s:Shared) (σ:St) (H:Hp) (xs:List V) (us:List Value) (Q:VK),Inv X pins σ H s -> Vals xs us -> r xs H Q -> wpAny (model X.prog X.w) X.A (call f us kw) (EP X pins σ Q) X.xe s
end
end L2
namespace L2
open PySem PySem.Spec PyProof.Rows
section
variable {X:Cx}
end
section
variable {X:Cx}
end
section
variable {X:Cx}
theorem yk {K:PySem.W.Frag} (h:X.K = K) (hc:X.calm = true):ja X (.builtin "any") (xN K):=by subst h;exact Zh hc
end
section
variable {X:Cx}
end
section
variable {X:Cx}
end
section
variable {X:Cx}
end
section
variable {X:Cx}
end
section
variable {X:Cx}
end
end L2
namespace PySem
section
variable {prog:Program} {w:World} {A:Around} {d:Addr} {es:Array DictEntry} {ep:Nat}
end
end PySem
namespace L2
open PySem PySem.Spec PyProof.Rows
section
variable {X:Cx}
end
section
variable {X:Cx}
variable {o e:Expr} {es:List Expr} {to:TE} {t:TA} {name:Str} {apos cpos:Pos} {id:String} {r:V -> List V -> Hp -> VK -> Prop}
end
end L2
namespace L2
open PySem PySem.Spec PyProof.Rows PySem.W
section
variable {X:Cx}
def zcZ (te:TE):TE:=fun σ H R=>te σ H fun x H1=>∃ d kvs,x = .ref d /\ H1 d = some (.dK kvs) /\ ∀ o,R x (upd H1 d (.frz o (.dK kvs)))
theorem Wu {e:Expr} {te:TE} (he:PE X e te):PE X e (zcZ te):=by
  intro pins s σ H R I h
  refine thn (he pins s σ H _ I h) fun v s1 ⟨x,H1,I1,r1,q1⟩=>?_
  obtain ⟨d,kvs,e,hd,q⟩:=q1
  subst e
  obtain ⟨z,y,vs,r,o,es,ep,h1,h2⟩:=(show ObjOk X.prog X.w H1 s1.heap d (.dK kvs) from I1.hok d _ hd)
  refine ⟨.ref d,_,I1.write (s:=s1) (t':=s1.toks) (h':=s1.heap) (x:=d) (e:=d) (o:=.frz o (.dK kvs)) (by rw [hd];exact True.intro) (.inl rfl) (fun b u _ e=>e) ⟨o,h1⟩ ?_,r1,q o⟩
  exact ⟨h1,z,y,vs,r,o,es,ep,h1,h2⟩
inductive JQ (x:V) (vs:List V) (H:Hp) (Q:VK):Prop
  | mk (d o kvs:_) (_:x = .ref d) (_:vs = []) (_:H d = some (.frz o (.dK kvs))) (_:∀ p,H p = none -> Q (.ref p) (upd H p (Jw p d))):JQ  x vs H Q
theorem Vn:MtM X "dict.items" JQ:=by
  intro pins s σ H x vs v us Q I rx rv h
  obtain ⟨d,o,kvs,rfl,rfl,hd,q⟩:=h
  cases rx
  cases rv
  obtain ⟨zz,lo,vs,rel,dd⟩:=xH I.hok (.inr ⟨o,hd⟩)
  have hn:H s.heap.objs.size = none:=I.hok.fresh (Nat.le_refl _)
  refine call_meetsIn PySem.F.slot_dict_items dd.typeIs PySem.F.entry_dict_items (PySem.F.args_dict_items_1 _) (meets_dict_items (zC X.prog X.w) d lo) ⟨⟨vs,dd⟩,?_⟩
  exact ⟨.ref s.heap.objs.size,_,I.laid (a:=s.heap.objs.size) (o:=Jw s.heap.objs.size d) (t':=s.toks) (fun b u e=>Heap.get?_push_of_some _ e) (Nat.le_refl _) ⟨⟨_,Heap.get?_push_size _ rfl,rfl,rfl⟩,⟨_,Heap.get?_push_size _ rfl⟩,fun h1 h2 x e=>let ⟨o,ho,r⟩:=x;⟨o,e o ho,r⟩⟩,rfl,q _ hn⟩
end
def ItV (d:Addr) (o:Obj) (kvs:List (Key × V)):It:=
  ⟨fun i H=>H d = some (.frz o (.dK kvs)) /\ i < kvs.length,fun i H x H'=>∃ T k v,x = .ref T /\ H T = none /\ H' = upd H T (.tup [kV k,v]) /\ kvs[i]? = some (k,v),fun i H=>H d = some (.frz o (.dK kvs)) /\ kvs.length <= i⟩
theorem W0 {P:Program} {w:World} {H:Hp} {h:Heap} {d:Addr} {o:Obj} {kvs:List (Key × V)} {es:Array DictEntry} {ep:Nat} (ok:HOk P w H h) (e:H d = some (.frz o (.dK kvs))) (he:o.data = .dict es ep) :
    (d == sysModules) = false /\ ∃ vs,KV kvs vs /\ h.DictAt (zC P w) d vs ep:=by
  obtain ⟨e1,z,y,vs,r,o',es',ep',h1,h2,h3,h4,h5,h6⟩:=(show ObjOk P w H h d (.frz o (.dK kvs)) from ok d _ e)
  rw [e1] at h1
  cases h1
  rw [he] at h3
  cases h3
  exact ⟨y,vs,r,o,es,e1,h2,he,h4,h5,h6⟩
theorem X9 {P:Program} {w:World} {K:PySem.W.Frag} {elts:List Expr} {kk:Nat} {pos:Pos} (d it:Addr) (o:Obj) (kvs:List (Key × V)) (es:Array DictEntry) (ep:Nat) (he:o.data = .dict es ep) :
    vf P w K (.Tuple elts kk pos) (ItV d o kvs) [it] it (fun i h=>∃ ok ov,IsItemIter h it d i kvs.length ep ok ov) where
  mem:=by simp
  obj:=fun i h st b hb=>by
    have e:b = it:=by simpa using hb
    subst e
    obtain ⟨_,_,st⟩:=st
    exact ⟨_,st,fun v z=>nomatch z⟩
  keep:=fun i h h' st k=>let ⟨a,b,st⟩:=st;⟨a,b,k it (by simp) _ st⟩
  item:=by
    intro X hP hw hK hc i pins s σ H E I hf st hg
    subst hP hw hK
    obtain ⟨hd,hi⟩:=hg
    obtain ⟨ok,ov,st⟩:=st
    obtain ⟨lo,vs,r,da⟩:=W0 I.hok hd he
    have ln:=r.length
    obtain ⟨⟨k,v⟩,hx⟩:∃ p,kvs[i]? = some p:=⟨kvs[i],by simp [hi]⟩
    obtain ⟨⟨k',u⟩,hy⟩:∃ p,vs[i]? = some p:=⟨vs[i]'(by omega),by simp⟩
    obtain ⟨p',e6,e7,e8⟩:=KV.get r hy
    rw [hx] at e6
    cases e6
    have e7:k = k':=e7
    subst e7
    have e8:RelV v u:=e8
    rw [ln] at st
    refine wpAny_pyNext_items_item st da hy fun key h' hk hout hT hsz hkeep=>?_
    refine ⟨_,rfl,wpAny_letOwnedTupleGo_items hout fun h2 he2 hs2=>?_⟩
    have eT:s.heap.objs.size ≠ it:=Nat.ne_of_gt (Heap.lt_size st)
    have k2:∀ b o,b ∉ [it] -> s.heap.get? b = some o -> h2.get? b = some o:=fun b o hb q=>by
      have n1:b ≠ it:=fun z=>hb (by simp [z])
      exact (hs2.2 b n1).trans (hkeep b o n1 q)
    refine ⟨.ref s.heap.objs.size,upd H s.heap.objs.size (.tup [kV k,v]),?_,rfl,⟨_,k,v,rfl,I.hok.fresh (Nat.le_refl _),rfl,hx⟩,⟨_,_,by rw [ln];exact he2⟩,fun b hb=>?_⟩
    · exact wA (s:=s) (h':=h2) (t':=s.toks) (its:=[key,u]) I hf (Nat.le_refl _) k2 (by rw [sizeLine_eq];exact (by decide:2 <= 16777216)) (.cons (Xf hk) (.cons e8 .nil)) (TupX.by ((hs2.2 _ eT).trans hT))
    · have hb':b < s.heap.objs.size:=by
        rw [List.mem_singleton.mp hb];exact Heap.lt_size st
      rw [zi (Nat.ne_of_lt hb')]
      exact (hf b hb).1
  done:=by
    intro X hP hw hK hc i pins s σ H E I hf st hg
    subst hP hw hK
    obtain ⟨hd,hi⟩:=hg
    obtain ⟨ok,ov,st⟩:=st
    obtain ⟨lo,vs,r,da⟩:=W0 I.hok hd he
    have ln:=r.length
    obtain ⟨f0,f1,f2,f3,f4,f5⟩:=hf it (by simp)
    rw [ln] at st
    exact wpAny_pyNext_items_end (I.ok.hd hc) st da (by simp;omega) fun h' eb=>⟨rfl,I.turned (t':=s.toks) (fun b o hb e=>eb b o hb e) f0 f1 f3 f4 f5⟩
  self:=fun _ _ _ _ _ st h=>let ⟨_,_,st⟩:=st;kcp_self st h
section
variable {X:Cx}
def zcx (tl:TE):TI:=fun σ H R=>tl σ H fun x H1=>∃ p d o kvs,x = .ref p /\ H1 p = some (Jw p d) /\ H1 d = some (.frz o (.dK kvs)) /\ R (ItV d o kvs) H1
theorem Yy {l:Expr} {tl:TE} {elts:List Expr} {kk:Nat} {tp:Pos} (hl:PE X l tl):PI X (.Tuple elts kk tp) l (zcx tl):=by
  intro pins s σ H R I h
  refine thn (hl pins s σ H _ I h) fun v s1 ⟨x,H1,I1,r1,q1⟩=>?_
  obtain ⟨p,d,o,kvs,e,hp,hd,q⟩:=q1
  subst e
  cases r1
  obtain ⟨hv,_,_⟩:=(show ObjOk X.prog X.w H1 s1.heap p (Jw p d) from I1.hok p _ hp)
  obtain ⟨e1,z,y,vs,r,o',es,ep,h1,h2,h3,h4,h5,h6⟩:=(show ObjOk X.prog X.w H1 s1.heap d (.frz o (.dK kvs)) from I1.hok d _ hd)
  rw [e1] at h1
  cases h1
  have ln:=r.length
  refine wpAny_pyIter_items (knd:=zC X.prog X.w) (kvs:=vs) (ep:=ep) hv ⟨o,es,e1,h2,h3,h4,h5,h6⟩ ?_
  refine ⟨s1.heap.objs.size,[s1.heap.objs.size],_,_,H1,rfl,I1.kept (t':=s1.toks) (fun b o e=>Heap.get?_push_of_some _ e),X9 d _ o kvs es ep h3,⟨.none,.none,by rw [ln];exact Heap.get?_push_size _ rfl⟩,fun b hb=>?_,q⟩
  have e:b = s1.heap.objs.size:=by simpa using hb
  subst e
  exact I1.fpOk (Nat.le_refl _) (I1.hok.fresh (Nat.le_refl _))
end
theorem Y0 {d:Addr} {o:Obj} {kvs:List (Key × V)} {n:Nat} {g:TG} {tf:TT} {te:TE} {σ0:St} {R:List V -> Hp -> Prop} {H:Hp} (Pv:Nat -> List V -> Hp -> Prop) (h0:Pv 0 [] H)
    (h1:∀ i zs H,Pv i zs H -> H d = some (.frz o (.dK kvs)))
    (hs:∀ i k v zs H T,kvs[i]? = some (k,v) -> Pv i zs H -> H T = none -> g (.ref T) σ0 (upd H T (.tup [kV k,v])) fun σ4 H4=>σ4.drop n = σ0.drop n /\ tf σ4 H4 fun b H5=>if b = true then te σ4 H5 fun v H6=>zs.length < sizeLine /\ Pv (i + 1) (zs ++ [v]) H6 else Pv (i + 1) zs H5)
    (hd:∀ zs H,Pv kvs.length zs H -> zs.length <= sizeLine /\ R zs H) :
    ∃ W:Nat -> Nat -> List V -> Hp -> Prop,(∃ m,W 0 m [] H) /\ ∀ i m zs H2,W i m zs H2 ->
      ((ItV d o kvs).stop i H2 /\ zs.length <= sizeLine /\ R zs H2) \/
      ((ItV d o kvs).go i H2 /\ ∃ M:List V -> Hp -> Prop,(∀ zs H',M zs H' -> ∃ m',m' < m /\ W (i + 1) m' zs H') /\ ∀ x H3,(ItV d o kvs).yld i H2 x H3 -> g x σ0 H3 fun σ4 H4=>σ4.drop n = σ0.drop n /\ tf σ4 H4 fun b H5=>
        if b = true then te σ4 H5 fun y H6=>zs.length < sizeLine /\ M (zs ++ [y]) H6 else M zs H5):=by
  refine ⟨fun i m zs H2=>m = kvs.length - i /\ i <= kvs.length /\ Pv i zs H2,⟨_,rfl,Nat.zero_le _,h0⟩,?_⟩
  rintro i m zs H2 ⟨rfl,hi,p⟩
  by_cases hlt:i < kvs.length
  · refine .inr ⟨⟨h1 i zs H2 p,hlt⟩,Pv (i + 1),fun zs' H' p'=>⟨_,by omega,rfl,hlt,p'⟩,fun x H3 y=>?_⟩
    obtain ⟨T,k,v,e1,hT,e2,y⟩:=y
    subst e1 e2
    exact hs i k v zs H2 T y p hT
  · have e:i = kvs.length:=by omega
    subst e
    obtain ⟨z1,z2⟩:=hd zs H2 p
    exact .inl ⟨⟨h1 _ zs H2 p,Nat.le_refl _⟩,z1,z2⟩
end L2
namespace L2
open PySem PySem.Spec PyProof.Rows PySem.W
section
variable {X:Cx}
end
end L2
namespace L2
open PySem PySem.Spec PyProof.Rows PySem.W
section
variable {X:Cx}
def wF (p d:Addr):HO:=.ext fun h=>h.IsValuesView p d
inductive zaw (x:V) (vs:List V) (H:Hp) (Q:VK):Prop
  | mk (d kvs:_) (_:x = .ref d) (_:vs = []) (_:Rd H d (.dK kvs)) (_:∀ p,H p = none -> Q (.ref p) (upd H p (wF p d))):zaw  x vs H Q
theorem Vm:MtM X "dict.values" zaw:=by
  intro pins s σ H x vs v us Q I rx rv h
  obtain ⟨d,kvs,rfl,rfl,hd,q⟩:=h
  cases rx
  cases rv
  obtain ⟨zz,lo,vs,rel,dd⟩:=xH I.hok hd
  have hn:H s.heap.objs.size = none:=I.hok.fresh (Nat.le_refl _)
  refine call_meetsIn PySem.F.slot_dict_values dd.typeIs PySem.F.entry_dict_values (PySem.F.args_dict_values_1 _) (meets_dict_values (zC X.prog X.w) d lo) ⟨⟨vs,dd⟩,?_⟩
  exact ⟨.ref s.heap.objs.size,_,I.laid (a:=s.heap.objs.size) (o:=wF s.heap.objs.size d) (t':=s.toks) (fun b u e=>Heap.get?_push_of_some _ e) (Nat.le_refl _) ⟨⟨_,Heap.get?_push_size _ rfl,rfl,rfl⟩,⟨_,Heap.get?_push_size _ rfl⟩,fun h1 h2 x e=>let ⟨o,ho,r⟩:=x;⟨o,e o ho,r⟩⟩,rfl,q _ hn⟩
inductive vL (xs:List V) (H:Hp) (Q:VK):Prop
  | mk (a d:Addr) (kvs:List (Key × V)) (_:xs = [.ref a]) (_:H a = some (wF a d)) (_:Rd H d (.dK kvs)) (_:∀ p,H p = none -> Q (.ref p) (upd H p (.lst (kvs.map (·.2))))):vL xs H Q
theorem Jq (hh:X.A.handled = none):ja X (.type "list") (vL):=by
  intro pins s σ H xs us Q I r h
  obtain ⟨a,d,kvs,rfl,ha,hx,q⟩:=h
  obtain ⟨u,rfl,ru⟩:=Vals.one r
  cases (show u = Value.ref a from ru)
  obtain ⟨hv,_,_⟩:=(show ObjOk X.prog X.w H s.heap a (wF a d) from I.hok a _ ha)
  obtain ⟨zz,hd,vs,rel,dd⟩:=xH I.hok hx
  obtain ⟨ep,da⟩:=dd.dictAt
  have ln:=rel.length
  refine PySem.W.kdl_call (PySem.W.kdl_values (prog:=X.prog) (w:=X.w) (knd:=zC X.prog X.w) (r:=a) (d:=d) (kvs:=vs) (ep:=ep)) hh ⟨hv,da⟩ (by omega) fun h' tk acc c keep at_ its=>?_
  have hn:H s.heap.objs.size = none:=I.hok.fresh (Nat.le_refl _)
  refine ⟨.ref s.heap.objs.size,_,I.laid (a:=s.heap.objs.size) (o:=.lst (kvs.map (·.2))) (t':=tk) keep (Nat.le_refl _) ⟨by rw [List.length_map];exact zz,acc.toList,c,Zu ?_ ?_,by rw [at_]⟩,rfl,q _ hn⟩
  · have z:=its.1
    have y:acc.toList.length = acc.size:=Array.length_toList
    rw [List.length_map]
    omega
  · intro j u e
    rw [Array.getElem?_toList] at e
    obtain ⟨k,e1⟩:=its.2 j u e
    obtain ⟨p,e3,_,e4⟩:=KV.get rel e1
    exact ⟨p.2,by rw [List.getElem?_map,e3];rfl,e4⟩
end
end L2
namespace L2
open PySem PySem.Spec PyProof.Rows PySem.W
section
variable {prog:Program} {w:World} {A:Around} {E:Value -> Shared -> Prop} {s:Shared}
inductive VH (prog:Program) (w:World) (A:Around) (s:Shared):List Value -> List Value -> Bool -> Prop
  | nil:VH prog w A s [] [] false
  | nl {y ys}:VH prog w A s [] (y :: ys) true
  | ln {x xs}:VH prog w A s (x :: xs) [] false
  | eq {x y xs ys b} (h:∀ (Q:Bool -> Shared -> Prop) E,Q true s -> wpAny (model prog w) A (eqBool x y) Q E s) (t:VH prog w A s xs ys b):VH prog w A s (x :: xs) (y :: ys) b
  | ne {x y xs ys b} (h:∀ (Q:Bool -> Shared -> Prop) E,Q false s -> wpAny (model prog w) A (eqBool x y) Q E s) (g:∀ (Q:Value -> Shared -> Prop) E,Q (.bool b) s -> wpAny (model prog w) A (richCompare .Lt x y) Q E s):VH prog w A s (x :: xs) (y :: ys) b
theorem eq_int (x y:Int) (t u:Tok) {Q:Bool -> Shared -> Prop} (h:Q (decide (x = y)) s):wpAny (model prog w) A (eqBool (.int x t) (.int y u)) Q E s:=by
  refine (zC prog w).eqBool (a:=Sum.inl x) (b:=Sum.inl y) (xW ⟨t,rfl⟩) (xW ⟨u,rfl⟩) ?_
  rw [show decide ((Sum.inl x:Key) = Sum.inl y) = decide (x = y) from decide_eq_decide.mpr ⟨fun z=>Sum.inl.inj z,fun z=>by rw [z]⟩]
  exact h
theorem YW (x y:Int) (t u:Tok) {Q:Value -> Shared -> Prop} (h:Q (.bool (decide (x < y))) s):wpAny (model prog w) A (richCompare .Lt (.int x t) (.int y u)) Q E s:=
  richCompare_gives (op:=.Lt) (typeIs_int s _ t) (typeIs_int s _ u) F.slot_int_lt F.entry_int_lt (F.args_int_lt_2 _ _) (gives_int_lt _ _ t u) (fun x=>nomatch x) h
end
section
variable {prog:Program} {w:World} {A:Around} {R:Result -> Shared -> Prop} {I S:Addr} {fp wr:List Addr} {n:Nat} {P:Nat -> Value -> Prop} {St:Nat -> Heap -> Prop}
end
end L2
namespace L2
open PySem PySem.Spec PyProof.Rows PySem.W
def WkR (H:Hp) (zs:List V) (ps:List (Int × List Int)):Prop:=zs.length = ps.length /\ ∀ (j:Nat) q,ps[j]? = some q -> ∃ T U,zs[j]? = some (.ref T) /\ H T = some (.tup [.int q.1,.ref U]) /\ H U = some (.tup (q.2.map V.int))
section
variable {X:Cx}
end
end L2
namespace L2
open PySem PySem.Spec PyProof.Rows PySem.W
section
variable {X:Cx}
def zc2 (r:V -> List V -> Hp -> VK -> Prop) (to:TE):TE:=fun σ H Q=>to σ H fun x H1=>∃ d,x = .ref d /\ IsD H1 d /\ r x [] H1 Q
theorem Ww {o:Expr} {to:TE} {name:Str} {apos cpos:Pos} {id:String} {r:V -> List V -> Hp -> VK -> Prop} (slot:Slot "dict" name id) (hty:typeOf (.builtin id) = pure (.type "method_descriptor")) (hm:MtM X id r) (ho:PE X o to)
    (hbase:attributeBase o name X.env (eval o X.env) = eval o X.env:=by rfl) (hline:(apos.endLine == cpos.line) = true:=by rfl):PE X (.Call (.Attribute o name apos) [] [] cpos) (zc2 r to):=by
  intro pins s σ H Q I h
  refine wpAny_Call_method0_late hbase hline (thn (ho pins s σ H _ I h) fun v s1 ⟨x,H1,I1,r1,d,e,hd,q1⟩=>?_)
  subst e
  cases r1
  obtain ⟨h1,h2⟩:=ZN I1 hd
  exact ⟨"dict",id,PySem.F.plainAttrs_dict,slot,hty,h1,h2.1,Calls.callWith_builtin rfl (PySem.evalArgs_none (hm pins s1 σ H1 (.ref d) [] _ [] Q I1 rfl .nil q1))⟩
end
end L2
namespace L2
open PySem PySem.Spec PyProof.Rows
section
variable {X:Cx}
end
section
variable {prog:Program} {w:World} {K:Type} [DecidableEq K] {knd:KeyKind prog w K} {A:Around} {E:Value -> Shared -> Prop} {s:Shared}
end
section
variable {X:Cx}
end
end L2
namespace L2
open PySem PySem.Spec PyProof.Rows PySem.W
theorem VF (a:Value):argsOk "min" ⟨[a],[(Str.ofString "default",.none)]⟩:=by unfold argsOk;kernel_rfl
section
variable {prog:Program} {w:World} {A:Around} {R:Result -> Shared -> Prop} {I S:Addr} {fp wr:List Addr} {n:Nat} {P:Nat -> Value -> Prop} {St:Nat -> Heap -> Prop}
theorem Jj (W:Walks prog w A.in1 I fp wr n P St) (bt:Nat -> Nat -> Bool) (J:Heap -> Prop) (hJ:∀ h h',J h -> (∀ b o,b ∉ wr -> b ≠ S -> h.get? b = some o -> h'.get? b = some o) -> J h')
    (hc:∀ i j vi vj (s:Shared) (Q:Value -> Shared -> Prop) (E:Value -> Shared -> Prop),J s.heap -> P i vi -> P j vj -> Q (.bool (bt i j)) s -> wpAny (model prog w) A.in1 (richCompare .Lt vi vj) Q E s) (hSf:S ∉ fp) :
    ∀ (k j:Nat) (s:Shared) (vb:Value) (c:Nat),n = j + 1 + k -> St (j + 1) s.heap -> J s.heap -> P (argBest bt j) vb -> s.heap.get? S = some (seqObj "list" #[vb,vb] c) ->
      (∀ v h' tk,P (argBest bt (n - 1)) v -> (∀ b o,b ∉ wr -> b ≠ S -> s.heap.get? b = some o -> h'.get? b = some o) -> R (.ok (.ret v)) { s with heap:=h',toks:=tk }) ->
      codeAny (model prog w) A (.builtin "min.loop" ⟨[.ref I,.none,.ref S],[("default",.none)]⟩) R s:=by
  have nw:S ∉ wr:=fun h=>hSf (W.sub _ h)
  have nm:(toString "min" ++ toString ".loop" : String) = "min.loop" :=by decide
  intro k
  induction k with
  | zero=>
    intro j s vb c hn st j0 pb hS hR
    refine codeAny_builtin F.entry_min_loop ?_
    rw [Around.under_plainId F.plain_min_loop _]
    show wpAny _ A.in1 (seqItems? (.ref S) >>= _) _ _ s
    refine wpAny_bind (wpAny_seqItems hS rfl ?_)
    show wpAny _ A.in1 (tryCatch (pyNext (.ref I)) _ >>= _) _ _ s
    have st':St n s.heap:=by rw [hn];exact st
    refine wpAny_bind (wpAny_tryCatch (W.done s _ _ st' fun h' tk kk=>?_))
    show wpAny _ A.in1 (updateSeq S (fun _=>#[]) >>= _) _ _ _
    refine wpAny_bind (wpAny_updateSeq (kk S _ nw hS) rfl (wpAny_bind (wpAny_letGo (wpAny_pure ?_))))
    exact hR vb _ tk (by rw [hn];exact pb) fun b o b1 b2 e=>(Heap.get?_update_other _ _ (Ne.symm b2)).trans (kk b o b1 e)
  | succ k ih=>
    intro j s vb c hn st j0 pb hS hR
    refine codeAny_builtin F.entry_min_loop ?_
    rw [Around.under_plainId F.plain_min_loop _]
    show wpAny _ A.in1 (seqItems? (.ref S) >>= _) _ _ s
    refine wpAny_bind (wpAny_seqItems hS rfl ?_)
    show wpAny _ A.in1 (tryCatch (pyNext (.ref I)) _ >>= _) _ _ s
    refine wpAny_bind (wpAny_tryCatch (W.item (j + 1) s _ _ (by omega) st fun v h' tk pv st2 kk=>?_))
    have hS2:=kk S _ nw hS
    have j2:J h':=hJ _ _ j0 fun b o b1 _ e=>kk b o b1 e
    show wpAny _ A.in1 (tryCatch (holding [v,v] (richCompare .Lt v vb >>= _)) _ >>= _) _ _ _
    refine wpAny_bind (wpAny_tryCatch (wpAny_holding (wpAny_bind (hc (j + 1) (argBest bt j) v vb { s with heap:=h',toks:=tk } _ _ j2 pv pb ?_))))
    refine wpAny_bind (wpAny_holding (wpAny_truthy_bool (wpAny_bind (wpAny_letGo (wpAny_pure ?_)))))
    cases hb:bt (j + 1) (argBest bt j) with
    | true=>
      simp only [if_true]
      refine wpAny_bind (wpAny_updateSeq hS2 rfl (wpAny_bind (wpAny_letGo ?_)))
      rw [nm]
      have oth:∀ b o,b ≠ S -> h'.get? b = some o -> (h'.update S (Obj.mapSeq fun _=>#[v,v])).get? b = some o:=fun b o b2 e=>(Heap.get?_update_other _ _ (Ne.symm b2)).trans e
      refine wpAny_pure ⟨plainId_quiet F.plain_min_loop _,ih (j + 1) _ v _ (by omega) (W.frame _ _ _ st2 fun b bf o e=>oth b o (fun z=>hSf (by rw [<- z];exact bf)) e) (hJ _ _ j2 fun b o _ b2 e=>oth b o b2 e) (by simp only [argBest,hb,if_true];exact pv) (Heap.get?_update_self _ hS2 rfl) fun v' h2 tk2 p2 k2=>?_⟩
      exact hR v' h2 tk2 p2 fun b o b1 b2 e=>k2 b o b1 b2 (oth b o b2 (kk b o b1 e))
    | false=>
      simp only [Bool.false_eq_true,if_false]
      refine wpAny_bind (wpAny_letGo ?_)
      rw [nm]
      refine wpAny_pure ⟨plainId_quiet F.plain_min_loop _,ih (j + 1) _ vb c (by omega) st2 j2 (by simp only [argBest,hb,Bool.false_eq_true,if_false];exact pb) hS2 fun v' h2 tk2 p2 k2=>?_⟩
      exact hR v' h2 tk2 p2 fun b o b1 b2 e=>k2 b o b1 b2 (kk b o b1 e)
end
section
variable {X:Cx}
theorem Jd {id:String} {r:List V -> Hp -> VK -> Prop} {x:Str} {p pos kp:Pos} {e kv:Expr} {es:List Expr} {t:TA} (hc:zaH X (.builtin id) [(Str.ofString "default",.none)] r) (hg:Gl X x) (hm:X.mg x = none) (hv:bootBuiltins x = some (.builtin id)) (ha:PA X (e :: es) t) (hk:PE X kv (tC .non))
    (hn:x ≠ "__name__" :=by decide) (hdb:(x == ("__debug__" : Str)) = false:=by decide)
    (he:backTo pos (starEach (e :: es) X.env) = (false,eval e X.env) :: backTo pos (starEach es X.env):=by rfl)
    (hplain:(backTo pos (starEach (e :: es) X.env)).any (·.1) = false:=by rfl) :
    PE X (.Call (.Name x p) (e :: es) [⟨some (Str.ofString "default"),kv,kp⟩] pos) (tCB r t):=by
  intro pins s σ H Q I h
  refine wpAny_Call_Name_kw (jY I hg hm hv ?_ hn hdb)
  refine callWith_kw (thn (ha pos pins s σ H _ I h) fun us s1 ⟨vs,H1,I1,r1,q1⟩=>kws_cons (thn (hk pins s1 σ H1 (fun u H2=>u = .non /\ r vs H2 Q) I1 ⟨rfl,q1⟩) fun v s2 ⟨u,H2,I2,ru,eu,q2⟩=>kws_nil ?_)) he hplain rfl rfl
  subst eu
  cases (show v = Value.none from ru)
  exact hc pins s2 σ H2 vs us Q I2 r1 q2
end
end L2
namespace L2
open PySem PySem.Spec PyProof.Rows
section
variable {X:Cx}
end
end L2
namespace L2
open PySem PySem.Spec PyProof.Rows PySem.W
theorem XA (f:Nat -> Int):∀ n,argBest (fun i j=>decide (f i < f j)) n <= n /\ ∀ j,j <= n -> f (argBest (fun i j=>decide (f i < f j)) n) <= f j
  | 0=>⟨Nat.le_refl _,fun j hj=>by rw [show j = 0 by omega];exact Int.le_refl _⟩
  | n + 1=>by
    obtain ⟨h1,h2⟩:=XA f n
    cases hb:decide (f (n + 1) < f (argBest (fun i j=>decide (f i < f j)) n)) with
    | true=>
      have e:argBest (fun i j=>decide (f i < f j)) (n + 1) = n + 1:=by simp only [argBest,hb,if_true]
      rw [e]
      refine ⟨Nat.le_refl _,fun j hj=>?_⟩
      have b:=of_decide_eq_true hb
      rcases Nat.lt_or_ge j (n + 1) with z | z
      · have a:=h2 j (by omega)
        omega
      · rw [show j = n + 1 by omega];exact Int.le_refl _
    | false=>
      have e:argBest (fun i j=>decide (f i < f j)) (n + 1) = argBest (fun i j=>decide (f i < f j)) n:=by simp only [argBest,hb,Bool.false_eq_true,if_false]
      rw [e]
      refine ⟨by omega,fun j hj=>?_⟩
      have b:=of_decide_eq_false hb
      rcases Nat.lt_or_ge j (n + 1) with z | z
      · exact h2 j (by omega)
      · rw [show j = n + 1 by omega];omega
section
variable {X:Cx}
inductive vK (K:PySem.W.Frag) (xs:List V) (H:Hp) (Q:VK):Prop
  | mk (p:Addr) (ps:List Int) (_:xs = [.ref p]) (_:SqL K H p (ps.map V.int)) (_:(ps = [] -> Q .non H)) (_:∀ m,m ∈ ps -> (∀ k ∈ ps,m <= k) -> Q (.int m) H):vK K xs H Q
theorem Jp (hc:X.calm = true) (hu:X.A.units + 64 < cLine):zaH X (.builtin "min") [(Str.ofString "default",.none)] (vK X.K):=by
  intro pins s σ H xs us Q I r h
  obtain ⟨p,ps,rfl,hq,qn,q⟩:=h
  obtain ⟨u,rfl,ru⟩:=j5 r
  cases (show u = _ from ru)
  obtain ⟨its,rv,pl,hz⟩:=I.list hq
  have hl:=pl.isList
  have len:=rv.length
  have wl:(ps.map V.int).length = ps.length:=List.length_map ..
  have il0:its.length = ps.length:=by rw [<- wl];first | exact len | exact len.symm
  have hplt:p < s.heap.objs.size:=let ⟨_,e,_⟩:=hl;Heap.lt_size e
  have nm:(toString "min" ++ toString ".loop" : String) = "min.loop" :=by decide
  have hu':X.A.in1.in1.units < cLine:=Nat.lt_of_le_of_lt (Nat.add_le_add_left (by decide:2 <= 64) _) hu
  have hu2:X.A.in1.units < cLine:=Nat.lt_of_le_of_lt (Nat.add_le_add_left (by decide:1 <= 64) _) hu
  have tup:∀ (j:Nat) v,its[j]? = some v -> ∃ q t,v = Value.int q t /\ ps[j]? = some q:=fun j v hj=>by
    have hjl:=(List.getElem?_eq_some_iff.mp hj).1
    have ek:ps[j]? = some (ps[j]'(by omega)):=List.getElem?_eq_getElem _
    generalize ps[j]'(by omega) = k at ek
    obtain ⟨v',e4,e5⟩:=rv.get (show (ps.map V.int)[j]? = some (.int k) by rw [List.getElem?_map,ek];rfl)
    rw [hj] at e4
    cases e4
    obtain ⟨t,rfl⟩:=e5
    exact ⟨k,t,rfl,ek⟩
  refine kmk_tree F.kind_min F.plain_min F.entry_min (VF _) ?_
  show wpAny _ X.A.in1 (Builtin.Builtins.bindParams "min" ["key", "default"] 0 ⟨[],[(Str.ofString "default",.none)]⟩ >>= _) _ _ s
  refine wpAny_bind (wpAny_of_eq (show Builtin.Builtins.bindParams "min" ["key", "default"] 0 ⟨[],[(Str.ofString "default",.none)]⟩ = pure [none,some .none] from rfl) (wpAny_bind (wpAny_pure (wpAny_bind (wpAny_pyIter_list hl ?_)))))
  refine wpAny_bind (wpAny_newObj_type ?_)
  rw [nm]
  have hI:s.heap.objs.size < (s.heap.push { cls:=.type "list_iterator",data:=.fields #[.ref p,.int 0 0] }).objs.size:=by rw [Heap.size_push];exact Nat.lt_succ_self _
  have it0:(s.heap.push { cls:=.type "list_iterator",data:=.fields #[.ref p,.int 0 0] }).IsListIter s.heap.objs.size p 0:=⟨_,Heap.get?_push_size _ rfl,rfl,rfl⟩
  have hl1:(s.heap.push { cls:=.type "list_iterator",data:=.fields #[.ref p,.int 0 0] }).IsList p its.toArray:=hl.push _
  have k1:∀ b o,s.heap.get? b = some o -> (s.heap.push { cls:=.type "list_iterator",data:=.fields #[.ref p,.int 0 0] }).get? b = some o:=fun b o e=>Heap.get?_push_of_some _ e
  generalize s.heap.push { cls:=.type "list_iterator",data:=.fields #[.ref p,.int 0 0] } = h1 at hI it0 hl1 k1
  have W:=Walks.list (prog:=X.prog) (w:=X.w) (A:=X.A.in1.in1) (I.ok.hd hc) s.heap.objs.size p (Nat.ne_of_lt hplt) its.toArray
  have W':=Walks.list (prog:=X.prog) (w:=X.w) (A:=X.A.in1) (I.ok.hd hc) s.heap.objs.size p (Nat.ne_of_lt hplt) its.toArray
  have hSf:h1.objs.size ∉ [s.heap.objs.size,p]:=by
    intro z
    rcases List.mem_cons.mp z with z | z
    · omega
    · exact Nat.lt_irrefl _ (Nat.lt_trans hplt (List.mem_singleton.mp z ▸ hI))
  have hS:(h1.push { cls:=.type "list",data:=.seq ([]:List Value).toArray }).get? h1.objs.size = some (seqObj "list" #[] 0):=Heap.get?_push_size _ rfl
  refine wpAny_pure ⟨plainId_quiet F.plain_min_loop _,codeAny_builtin F.entry_min_loop ?_⟩
  rw [Around.under_plainId F.plain_min_loop _]
  show wpAny _ _ (seqItems? (.ref h1.objs.size) >>= _) _ _ _
  refine wpAny_bind (wpAny_seqItems hS rfl ?_)
  show wpAny _ _ (tryCatch (pyNext (.ref s.heap.objs.size)) _ >>= _) _ _ _
  by_cases hne:ps = []
  · have il:its.length = 0:=by rw [il0,hne];rfl
    have e0:its.toArray.size = 0:=by rw [List.size_toArray];exact il
    refine wpAny_bind (wpAny_tryCatch (W'.done { s with heap:=h1.push { cls:=.type "list",data:=.seq ([]:List Value).toArray } } _ _ (by rw [e0];exact ⟨it0.at fun o e=>Heap.get?_push_of_some _ e,hl1.push _⟩) fun h' tk kk=>?_))
    show wpAny _ _ (rule _ >>= _) _ _ _
    refine wpAny_bind (wpAny_rule ?_)
    refine wpAny_pure ?_
    exact ⟨.non,H,I.kept (h':=h') (t':=tk) (fun b o e=>kk b o (fun z=>Nat.ne_of_lt (Heap.lt_size e) (List.mem_singleton.mp z)) (Heap.get?_push_of_some _ (k1 b o e))),rfl,qn hne⟩
  · have h0:0 < ps.length:=List.length_pos_iff.mpr hne
    refine wpAny_bind (wpAny_tryCatch (W'.item 0 { s with heap:=h1.push { cls:=.type "list",data:=.seq ([]:List Value).toArray } } _ _ (by rw [List.size_toArray];omega) ⟨it0.at fun o e=>Heap.get?_push_of_some _ e,hl1.push _⟩ fun v h' tk pv st' kk=>?_))
    have nw:h1.objs.size ∉ [s.heap.objs.size]:=fun z=>hSf (by simp at z;omega)
    have hS':=kk _ _ nw hS
    show wpAny _ _ (updateSeq h1.objs.size (fun _=>#[v,v]) >>= _) _ _ _
    refine wpAny_bind (wpAny_updateSeq hS' rfl ?_)
    rw [nm]
    have oth:∀ b o,b ≠ h1.objs.size -> h'.get? b = some o -> (h'.update h1.objs.size (Obj.mapSeq fun _=>#[v,v])).get? b = some o:=fun b o b2 e=>(Heap.get?_update_other _ _ (Ne.symm b2)).trans e
    have all:∀ b o,s.heap.get? b = some o -> b ≠ s.heap.objs.size /\ b ≠ h1.objs.size:=fun b o e=>⟨Nat.ne_of_lt (Heap.lt_size e),Nat.ne_of_lt (Nat.lt_trans (Heap.lt_size e) hI)⟩
    have j0:∀ b o,s.heap.get? b = some o -> (h'.update h1.objs.size (Obj.mapSeq fun _=>#[v,v])).get? b = some o:=fun b o e=>
      oth b o (all b o e).2 (kk b o (fun z=>(all b o e).1 (List.mem_singleton.mp z)) (Heap.get?_push_of_some _ (k1 b o e)))
    refine wpAny_pure ⟨plainId_quiet F.plain_min_loop _,Jj (S:=h1.objs.size) W' (fun i j=>decide (ps.getD i 0 < ps.getD j 0)) (fun h=>∀ b o,s.heap.get? b = some o -> h.get? b = some o) (fun h h2 a b c o e=>b c o (fun z=>(all c o e).1 (List.mem_singleton.mp z)) (all c o e).2 (a c o e)) ?_ hSf (its.length - 1) 0 _ v _ (by rw [List.size_toArray];omega) (W'.frame _ _ _ st' fun b bf o e=>oth b o (fun z=>hSf (by rw [<- z];exact bf)) e) j0 pv (Heap.get?_update_self _ hS' rfl) fun v' h2 tk2 p2 k2=>?_⟩
    · intro i j vi vj s2 Q2 E2 jj hi hj hq2
      have ei:its[i]? = some vi:=by simpa using hi
      have ej:its[j]? = some vj:=by simpa using hj
      obtain ⟨qi,ti,rfl,fi⟩:=tup i vi ei
      obtain ⟨qj,tj,rfl,fj⟩:=tup j vj ej
      rw [List.getD_eq_getElem?_getD,fi,List.getD_eq_getElem?_getD,fj] at hq2
      exact YW _ _ _ _ hq2
    · rw [List.size_toArray] at p2
      have hl2:its.length = ps.length:=by omega
      have e2:its[argBest (fun i j=>decide (ps.getD i 0 < ps.getD j 0)) (ps.length - 1)]? = some v':=by
        rw [<- hl2]
        simpa using p2
      obtain ⟨hm,hle⟩:=XA (fun i=>ps.getD i 0) (ps.length - 1)
      obtain ⟨m,t,rfl,em⟩:=tup _ _ e2
      have eg:ps.getD (argBest (fun i j=>decide (ps.getD i 0 < ps.getD j 0)) (ps.length - 1)) 0 = m:=by rw [List.getD_eq_getElem?_getD,em];rfl
      refine ⟨.int m,H,I.kept (h':=h2) (t':=tk2) (fun b o e=>k2 b o (fun z=>(all b o e).1 (List.mem_singleton.mp z)) (all b o e).2 (j0 b o e)),⟨t,rfl⟩,q m (List.mem_of_getElem? em) fun k hk=>?_⟩
      obtain ⟨j,hj,ej⟩:=List.getElem_of_mem hk
      have:=hle j (by omega)
      rw [eg,List.getD_eq_getElem?_getD,List.getElem?_eq_getElem hj,ej] at this
      exact this
end
end L2
namespace L2
open PySem PySem.Spec PyProof.Rows
section
variable {X:Cx}
end
section
variable {X:Cx}
end
section
variable {prog:Program} {w:World} {A:Around} {E:Value -> Shared -> Prop} {s:Shared}
end
section
variable {X:Cx}
end
section
variable {prog:Program} {w:World} {A:Around} {E:Value -> Shared -> Prop} {R:Result -> Shared -> Prop} {s:Shared}
variable {K:Type} [DecidableEq K] {knd:KeyKind prog w K}
end
section
variable {X:Cx} {elt tg iter:Expr} {ifs:List Expr} {scope:Scope} {pos:Pos} {wi:TI} {g:TG} {tf:TT} {te:TE}
end
section
variable {X:Cx} {x y:Str} {px py tp:Pos} {kk:Nat} {elt iter:Expr} {ifs:List Expr} {scope:Scope} {pos:Pos} {wi:TI} {tf:TT} {te:TE}
end
section
variable {X:Cx}
end
section
variable {X:Cx}
end
section
variable {X:Cx}
end
section
variable {X:Cx}
end
open Sem (wp)
section
variable {X:Cx}
end
end L2
namespace L2
open PySem PySem.Spec PyProof.Rows
section
variable {X:Cx} {pos:Pos}
end
end L2
namespace L2
open PySem PySem.Spec PyProof.Rows PySem.W
def xV:Option Int -> V
  | some i=>.int i
  | none=>.non
theorem Xl {k:Int} {t:Tok}:∀ {ns:List (Option Int)} {its:List Value},Vals (ns.map xV) its -> ∀ y ∈ its,MeetsSeq.EqGives y (.int k t) (isInt k y)
  | [],its,h=>by cases h;intro y hy;cases hy
  | n :: ns,its,h=>by
    cases h with
    | cons r q=>
      intro y hy
      rcases List.mem_cons.mp hy with z | z
      · subst z
        cases n with
        | some i=>
          obtain ⟨u,rfl⟩:=r
          exact MeetsSeq.EqGives.int i k u t
        | none=>
          cases r
          exact fun prog w A E s Q h=>PySem.SeqAt.EqAt.none_int (A:=A) (s:=s) k t prog w E Q h
      · exact Xl q y z
theorem yf {k:Int}:∀ {ns:List (Option Int)} {its:List Value},Vals (ns.map xV) its -> its.countP (isInt k) = ns.count (some k)
  | [],its,h=>by cases h;rfl
  | n :: ns,its,h=>by
    cases h with
    | cons r q=>
      rw [List.countP_cons,List.count_cons,yf q]
      cases n with
      | some i=>
        obtain ⟨u,rfl⟩:=r
        rfl
      | none=>
        cases r
        rfl
section
variable {X:Cx}
inductive JS (x:V) (vs:List V) (H:Hp) (Q:VK):Prop
  | mk (l:Addr) (ns:List (Option Int)) (k:Int) (_:x = .ref l) (_:vs = [.int k]) (_:H l = some (.lst (ns.map xV))) (_:Q (.int (ns.count (some k))) H):JS  x vs H Q
theorem Vp:MtM X "list.count" JS:=by
  intro pins s σ H x vs v us Q I rx rv h
  obtain ⟨l,ns,k,rfl,rfl,hH,q⟩:=h
  cases rx
  obtain ⟨u,rfl,ru⟩:=rv.one
  obtain ⟨t,rfl⟩:=ru
  obtain ⟨z,its,n,r,hl,e⟩:=I.lstM hH
  refine call_meets F.slot_list_count ⟨_,e,rfl⟩ F.entry_list_count (F.args_list_count_2 _ _) (MeetsSeq.list_count l its.toArray n (.int k t) (isInt k) (fun y hy=>Xl r y (by simpa using hy))) ⟨e,?_⟩
  refine ⟨.int (ns.count (some k)),H,I.tok _,⟨s.toks,?_⟩,q⟩
  show Value.int ((its.toArray.toList.countP (isInt k):Nat):Int) s.toks = _
  rw [show its.toArray.toList = its by simp,yf r]
theorem JH (hu:X.A.units + 1 < cLine):zaj X (fun o i v H Q=>∃ (a:Addr) (H':Hp),o = .ref a /\ DPut H a i v H' /\ Q H'):=by
  intro pins s σ H o i v ov iv u Q I ro ri rv h
  obtain ⟨a,H',rfl,g,q⟩:=h
  cases ro
  exact Zd hu I g ri rv fun s' I'=>⟨H',I',q⟩
inductive zay (K:PySem.W.Frag) (o:V) (i:V) (H:Hp) (Q:VK):Prop
  | mk (p:Addr) (xs:List V) (j:Nat) (z:V) (_:o = .ref p) (_:i = .int (j:Int)) (_:SqL K H p xs) (_:xs[j]? = some z) (_:Q z H):zay K o i H Q
theorem WW:zcI X (zay X.K):=by
  intro pins s σ H o i ov iv Q I ro ri h
  obtain ⟨p,xs,j,z,rfl,rfl,hq,he,q⟩:=h
  cases ro
  obtain ⟨t,rfl⟩:=ri
  obtain ⟨its,r,pl,hz⟩:=I.list hq
  obtain ⟨w,ew,rw'⟩:=r.get he
  have hl:=r.length
  have hn:=vY
  have hj:=(List.getElem?_eq_some_iff.mp he).1
  exact wpAny_getItem_list pl.isList (by omega) (by omega) (by simpa using ew) ⟨z,H,I,rw',q⟩
def tTT (K:PySem.W.Frag) (t:TE):TT:=fun σ H Q=>t σ H fun x H1=>∃ a xs,x = .ref a /\ SqT K H1 a xs /\ Q (!xs.isEmpty) H1
theorem za7 {e:Expr} {t:TE} (h:PE X e t) (he:∀ whole,isTrue e X.env whole = (do let v <- whole;standAt e.pos;holding [v] (truthy v)):=by intro _;rfl):PT X e (tTT X.K t):=by
  intro pins s σ H Q I hw
  refine isTrue_plain (thn (h pins s σ H _ I hw) fun v s1 ⟨x,H1,I1,r1,q1⟩=>?_) (he _)
  obtain ⟨a,xs,rfl,hq,q⟩:=q1
  cases (show v = _ from r1)
  obtain ⟨its,rv,pl,hz⟩:=I1.tuple hq
  have hl:=rv.length
  refine truthy_tuple pl (by rw [List.size_toArray,<- hl];rw [sizeLine_eq] at hz;omega) ?_
  have e:(!xs.isEmpty) = (!its.toArray.isEmpty):=by
    cases xs with
    | nil=>cases rv;rfl
    | cons x xs=>cases rv with | cons r q=>rfl
  exact ⟨H1,I1.tok _,by rw [<- e];exact q⟩
theorem Yt {K:PySem.W.Frag} (hK:X.K = K) {e:Expr} {t:TE} (h:PE X e t) (he:∀ whole,isTrue e X.env whole = (do let v <- whole;standAt e.pos;holding [v] (truthy v)):=by intro _;rfl):PT X e (tTT K t):=by
  subst hK
  exact za7 h he
variable {tg:Expr}
def zbB (td:TE):TI:=fun σ H R=>td σ H fun x H1=>∃ d o kvs,x = .ref d /\ H1 d = some (.frz o (.dK kvs)) /\ R (VI d o kvs) H1
theorem Wr {l:Expr} {tl:TE} (hl:PE X l tl):PI X tg l (zbB tl):=by
  intro pins s σ H R I h
  refine thn (hl pins s σ H _ I h) fun v s1 ⟨x,H1,I1,r1,q1⟩=>?_
  obtain ⟨d,o,kvs,e,hd,q⟩:=q1
  subst e
  cases r1
  obtain ⟨e1,z,y,vs,r,o',es,ep,h1,h2,h3,h4,h5,h6⟩:=(show ObjOk X.prog X.w H1 s1.heap d (.frz o (.dK kvs)) from I1.hok d _ hd)
  rw [e1] at h1
  cases h1
  refine Qg y ⟨o,e1,h2,h3⟩ ?_
  refine ⟨s1.heap.objs.size,[s1.heap.objs.size],_,_,_,rfl,I1.kept (t':=s1.toks) fun b u e=>Heap.get?_push_of_some _ e,wI d _ o kvs es ep h3,⟨_,Heap.get?_push_size _ rfl,rfl,rfl⟩,fun b hb=>?_,q⟩
  have e:b = s1.heap.objs.size:=by simpa using hb
  subst e
  exact I1.fpOk (Nat.le_refl _) (I1.hok.fresh (Nat.le_refl _))
end
end L2
namespace L2
open PySem PySem.Spec PyProof.Rows
def zp (i:Nat):Stmt:=PySem.Challenge.pw_pickboard_k42_mended_pick_by_pick.main.body.getD i (.Pass ⟨0,0,0,0⟩)
structure Blt (mg:Str -> Option Value):Prop where
  abs:mg "abs" = none
  all:mg "all" = none
  any:mg "any" = none
  bool:mg "bool" = none
  dict:mg "dict" = none
  divmod:mg "divmod" = none
  enumerate:mg "enumerate" = none
  int:mg "int" = none
  isinstance:mg "isinstance" = none
  len:mg "len" = none
  list:mg "list" = none
  max:mg "max" = none
  min:mg "min" = none
  range:mg "range" = none
  repr:mg "repr" = none
  sorted:mg "sorted" = none
  str:mg "str" = none
  sum:mg "sum" = none
  tuple:mg "tuple" = none
  zip:mg "zip" = none
theorem QS:bootBuiltins "abs" = some (.builtin "abs"):=by decide +kernel
theorem QQ:bootBuiltins "max" = some (.builtin "max"):=by decide +kernel
theorem Ye:bootBuiltins "min" = some (.builtin "min"):=by decide +kernel
theorem QR:bootBuiltins "divmod" = some (.builtin "divmod"):=by decide +kernel
theorem vF:bootBuiltins "int" = some (.type "int"):=by decide +kernel
theorem qQ:bootBuiltins "list" = some (.type "list"):=by decide +kernel
theorem qz:bootBuiltins "tuple" = some (.type "tuple"):=by decide +kernel
theorem ym:bootBuiltins "str" = some (.type "str"):=by decide +kernel
theorem Zl:bootBuiltins "bool" = some (.type "bool"):=by decide +kernel
theorem ji:bootBuiltins "sorted" = some (.builtin "sorted"):=by decide +kernel
theorem Zk:bootBuiltins "dict" = some (.type "dict"):=by decide +kernel
def VG (i:Int):Int:=if i < 0 then -i else i
def zb9:Str:= "abcdefghijklmnopqrstuvwxyz"
def Qz (c:Nat):Bool:=decide (97 <= c) && decide (c <= 122)
theorem WO:zb9.cps.toList = List.range' 97 26:=by decide +kernel
def BoxAt (H:Hp) (b:Addr) (n:Int):Prop:=∃ b0 b1 b2:Int,H b = some (.lst [.int b0,.int b1,.int b2]) /\ 0 <= b0 /\ 0 <= b1 /\ b1 < 2147483648 /\ 0 <= b2 /\ b2 <= n
def SameB (b:Addr) (H H':Hp):Prop:=∀ c o,H c = some o -> c ≠ b -> H' c = some o
theorem wg {i j:Int} (h1:0 <= i) (h2:i < 18446744073709551616):CMul i j:=by
  have e1:(-(2 ^ 64):Int) = -18446744073709551616:=by decide
  have e2:((2 ^ 64):Int) = 18446744073709551616:=by decide
  refine .inl ⟨?_,?_⟩
  · rw [e1];omega
  · rw [e2];exact h2
theorem zaG {a m j:Int} (h:0 < m) (h2:m < 18446744073709551616):CMul (a % m) j:=wg (Int.emod_nonneg _ (by omega)) (Int.lt_trans (Int.emod_lt_of_pos _ h) h2)
section
variable {P:Program} {w:World} {K:PySem.W.Frag} {mg:Str -> Option Value} {base:Heap}
inductive Z7 (vs:List V) (H:Hp) (Q:VK):Prop
  | mk (b:Addr) (size n:Int) (_:vs = [.ref b,.int size]) (_:BoxAt H b n) (_:n < 1099511627776) (_:0 < size) (_:size < 1073741824) (_:∀ (r:Int) H',0 <= r -> r < size -> BoxAt H' b (n + 1) -> SameB b H H' -> Q (.int r) H'):Z7  vs H Q
def jE:Sp:=fun vs H Q _=>Z7  vs H Q
theorem Wa:zy ["_law_box_here", "_law_size", "_law_found", "_law_step", "_law_once", "_law_twice"] ["_law_box_here", "_law_size"] (zt (zp 16)):=⟨rfl,rfl,rfl,by decide +kernel,rfl,by decide +kernel,by decide +kernel⟩
theorem YJ {f:Addr} {fd:FuncData} (F:Fun K "_law_take" "_law_take" (zp 16) f fd) (B:Blt mg):qA P w K mg base CX0 1 f fd ["_law_box_here", "_law_size"] jE:=by
  have nd:=Wa.nd
  refine F.ok Wa (fun vs H Q E h=>?_) (fun cdv A outer s H vs Q E hr h=>?_)
  · obtain ⟨b,size,n,rfl,_⟩:=h
    rfl
  · obtain ⟨b,size,n,rfl,⟨b0,b1,b2,hb,p0,p1,p1',p2,p2'⟩,hn,hs0,hs1,k⟩:=h
    refine ⟨_,(ze (jz (zw yY (zx zD (pv 0) zg (fun _ _=>rfl)) zg (zB _))
      (ze (jm (zr QO rfl B.divmod QR (za (zx zD (pv 0) zg (fun _ _=>rfl)) (za (pv 1) zd))) (qx rfl (zq (xB (pv 0) zg jM) (zq (zn (i:=2) nd rfl (Or.inl rfl)) zS))))
        (zm (zE (pv 2))))
      qM)
      (ze (jm (zA qh (zx zD (pv 0) zg (fun _ _=>rfl)) zg) (xB (pv 0) zg jM))
      (ze (zv (i:=3) nd rfl (Or.inl rfl) (zA qh zg (zA jO (zx zD (pv 0) zg (fun _ _=>rfl)) (zx zD (pv 0) zg (fun _ _=>rfl)))))
      (ze (zv (i:=4) nd rfl (Or.inl rfl) (zA jG (zA jO (zA qh (zx zD (pv 0) zg (fun _ _=>rfl)) (zA jO zg (zx zD (pv 0) zg (fun _ _=>rfl)))) (pv 3)) zg))
      (ze (zv (i:=5) nd rfl (Or.inl rfl) (zA jG (zA qh (zA jO (pv 4) (zA qh (zA jG (pv 4) zg) zg)) (zx zD (pv 0) zg (fun _ _=>rfl))) zg))
      (zm (zE (zA jG (zA J3 (zA jG (zA jO (pv 5) (zA qh (zA jG (pv 5) zg) zg)) zg) zg) (pv 1))))))))),?_⟩
    refine ⟨_,rfl,b,_,_,_,rfl,rfl,SqL.of hb,rfl,_,_,rfl,rfl,_,rfl,?_⟩
    refine qO (fun c=>?_) (fun c=>?_)
    · refine ⟨_,rfl,b,_,_,_,rfl,rfl,SqL.of hb,rfl,_,rfl,_,_,rfl,⟨hs0,hs1⟩,fun p hp=>?_⟩
      have hbp:b ≠ p:=zf hb hp
      refine ⟨p,_,rfl,SqT.of zb,rfl,_,_,rfl,_,rfl,b,_,_,_,rfl,rfl,(by rw [zi hbp];exact hb),rfl,_,_,rfl,rfl,_,rfl,?_⟩
      refine k _ _ (Int.emod_nonneg _ (by omega)) (Int.emod_lt_of_pos _ hs0) ⟨_,b1,b2,zb,Int.ediv_nonneg p0 (by omega),p1,p1',p2,by omega⟩ fun d o e hd=>?_
      rw [zi hd,zi (zf e hp)]
      exact e
    · refine ⟨_,rfl,b,_,_,_,rfl,rfl,SqL.of hb,rfl,_,_,rfl,rfl,_,rfl,b,_,_,_,rfl,rfl,hb,rfl,?_⟩
      have hb1:upd H b (.lst [.int b0,.int b1,.int (b2 + 1)]) b = some (.lst [.int b0,.int b1,.int (b2 + 1)]):=zb
      refine ⟨_,rfl,b,_,_,_,rfl,rfl,SqL.of hb1,rfl,_,rfl,b,_,_,_,rfl,rfl,SqL.of hb1,rfl,_,_,rfl,rfl,wg (by omega) (by omega),_,_,rfl,rfl,?_⟩
      refine ⟨_,rfl,b,_,_,_,rfl,rfl,SqL.of hb1,rfl,_,rfl,b,_,_,_,rfl,rfl,SqL.of hb1,rfl,_,_,rfl,rfl,wg (by omega) (by omega),_,_,rfl,rfl,_,rfl,_,_,rfl,rfl,wg (by omega) (by omega),_,_,rfl,rfl,(by show (0:Int) < _;decide),?_⟩
      refine ⟨_,rfl,_,rfl,_,_,rfl,rfl,(by show (0:Int) < _;decide),_,_,rfl,rfl,_,_,rfl,rfl,zaG (by decide) (by decide),_,rfl,b,_,_,_,rfl,rfl,SqL.of hb1,rfl,_,_,rfl,rfl,_,_,rfl,rfl,(by show (0:Int) < _;decide),?_⟩
      refine ⟨_,rfl,_,rfl,_,_,rfl,rfl,(by show (0:Int) < _;decide),_,_,rfl,rfl,_,_,rfl,rfl,zaG (by decide) (by decide),_,_,rfl,rfl,(by show (0:Int) < _;decide),_,_,rfl,rfl,⟨by decide,by decide⟩,_,rfl,_,_,rfl,rfl,hs0,?_⟩
      refine k _ _ (Int.emod_nonneg _ (by omega)) (Int.emod_lt_of_pos _ hs0) ⟨b0,b1,b2 + 1,hb1,p0,p1,p1',by omega,by omega⟩ fun d o e hd=>?_
      rw [zi hd]
      exact e
inductive JF (K:PySem.W.Frag) (vs:List V) (H:Hp) (Q:VK):Prop
  | mk (a:Addr) (ns:List Int) (j:Nat) (_:vs = [.ref a,.int j]) (_:SqL K H a (ns.map V.int)) (_:j <= 100) (_:∀ p o,H p = none -> BoxAt (upd H p o) p 0 -> Q (.ref p) (upd H p o)):JF K vs H Q
def V4 (K:PySem.W.Frag):Sp:=fun vs H Q _=>JF K vs H Q
theorem zat:zy ["_law_script", "_law_k", "_law_cell"] ["_law_script", "_law_k"] (zt (zp 15)):=⟨rfl,rfl,rfl,by decide +kernel,rfl,by decide +kernel,by decide +kernel⟩
theorem Xw {c:Int} {j:Nat} (hj:j <= 100):CMul (VG c) (if decide (10 ^ 18 <= VG c) = true then 1 else 0):=by
  refine .inr ?_
  split
  · exact ⟨by decide,by decide⟩
  · exact ⟨by decide,by decide⟩
theorem Yd {c:Int}:0 <= VG c * (if decide (10 ^ 18 <= VG c) = true then 1 else 0):=by
  have h:0 <= VG c:=by unfold VG;split <;> omega
  split
  · rw [Int.mul_one];exact h
  · rw [Int.mul_zero];exact Int.le_refl 0
theorem zbn {f:Addr} {fd:FuncData} (F:Fun K "_law_box" "_law_box" (zp 15) f fd) (B:Blt mg):qA P w K mg base CX0 1 f fd ["_law_script", "_law_k"] (V4 K):=by
  have nd:=zat.nd
  refine F.ok zat (fun vs H Q E h=>?_) (fun cdv A outer s H vs Q E hr h=>?_)
  · obtain ⟨a,ns,j,rfl,_⟩:=h
    rfl
  · obtain ⟨a,ns,j,rfl,hS,hj,k⟩:=h
    refine ⟨_,(ze (zv (i:=2) nd rfl (Or.inl rfl) (j8 (zw JZ (pv 1) (zr zI rfl B.len boot_len (za (pv 0) zd)) (zB _)) (zx zD (pv 0) (pv 1) (fun _ _=>rfl)) zg))
      (zm (zE (zJ (za (zA jO (zr QP rfl B.abs QS (za (pv 2) zd)) (zM wb rfl B.int vF (za (qN zcj (zr QP rfl B.abs QS (za (pv 2) zd)) (zA zbh zg zg) (zB _)) zd))) (za (zA jG (zA jO (zA qh (zA qh (zA jG (pv 2) zg) (zA jO zg (pv 1))) zg) zg) zg) (za zg zd))))))),?_⟩
    refine ⟨_,rfl,_,rfl,a,_,rfl,.inl hS,_,_,rfl,rfl,_,rfl,?_⟩
    refine qO (fun c=>?_) (fun c=>?_)
    · have hl:j < ns.length:=by
        have:=of_decide_eq_true c
        rw [List.length_map] at this
        omega
      refine ⟨_,rfl,_,rfl,a,_,_,.int ns[j],rfl,rfl,hS,qm (by simp [hl]),?_⟩
      generalize ns[j] = z
      refine ⟨_,rfl,_,rfl,_,rfl,_,rfl,_,_,rfl,rfl,⟨by decide,by decide,by decide⟩,_,_,rfl,rfl,.inr ⟨_,rfl,_,_,rfl,rfl,Xw hj,_,rfl,_,_,rfl,rfl,(by show (0:Int) < _;decide),_,rfl,_,_,rfl,rfl,wg (by decide) (by decide),_,_,rfl,rfl,_,_,rfl,rfl,_,_,rfl,rfl,?_,_,_,rfl,rfl,(by show (0:Int) < _;decide),(by rw [sizeLine_eq];exact (by decide:3 <= 16777216)),fun p hp=>k p _ hp ⟨_,_,_,zb,?_,?_,?_,by decide,by decide⟩⟩⟩
      · refine wg ?_ ?_
        · have:=Int.emod_nonneg z (show (2147483629:Int) ≠ 0 by decide)
          omega
        · have:=Int.emod_lt_of_pos z (show (0:Int) < 2147483629 by decide)
          omega
      · exact Yd
      · exact Int.emod_nonneg _ (by decide)
      · exact Int.lt_trans (Int.emod_lt_of_pos _ (by decide)) (by decide)
    · refine ⟨_,rfl,_,rfl,_,rfl,_,rfl,_,_,rfl,rfl,⟨by decide,by decide,by decide⟩,_,_,rfl,rfl,.inr ⟨_,rfl,_,_,rfl,rfl,Xw hj,_,rfl,_,_,rfl,rfl,(by show (0:Int) < _;decide),_,rfl,_,_,rfl,rfl,wg (by decide) (by decide),_,_,rfl,rfl,_,_,rfl,rfl,_,_,rfl,rfl,?_,_,_,rfl,rfl,(by show (0:Int) < _;decide),(by rw [sizeLine_eq];exact (by decide:3 <= 16777216)),fun p hp=>k p _ hp ⟨_,_,_,zb,?_,?_,?_,by decide,by decide⟩⟩⟩
      · refine wg ?_ ?_
        · have:=Int.emod_nonneg 0 (show (2147483629:Int) ≠ 0 by decide)
          omega
        · have:=Int.emod_lt_of_pos 0 (show (0:Int) < 2147483629 by decide)
          omega
      · exact Yd
      · exact Int.emod_nonneg _ (by decide)
      · exact Int.lt_trans (Int.emod_lt_of_pos _ (by decide)) (by decide)
end
theorem W8 {xs:List V} {lo hi:Option Int} {x:V} (h:x ∈ j3 xs lo hi):x ∈ xs:=List.mem_of_mem_drop (List.mem_of_mem_take h)
theorem vB {n j:Nat} (h:j < n):ixN n (j:Int) = some j:=by
  unfold ixN
  rw [if_pos (by omega),if_pos (by omega)];simp
theorem W9 (ns:List Int) (lo hi:Option Int):∃ ms:List Int,j3 (ns.map V.int) lo hi = ms.map V.int:=by
  refine ⟨(ns.drop (HT.sIx ns.length 0 lo)).take (HT.sIx ns.length ns.length hi - HT.sIx ns.length 0 lo),?_⟩
  unfold j3
  rw [List.length_map,List.map_take,List.map_drop]
theorem zad (ns:List Int) (z:Nat):(j3 (ns.map V.int) none (some (z:Int))).length = min z ns.length:=by
  unfold j3
  rw [HT.sIx_nat,HT.sIx_none,List.length_take,List.length_drop,List.length_map]
  omega
theorem zae (ns:List Int) (z:Nat) (hi:Option Int):(j3 (ns.map V.int) (some (z:Int)) hi).length <= ns.length - min z ns.length:=by
  unfold j3
  rw [HT.sIx_nat,List.length_take,List.length_drop,List.length_map]
  omega
section
variable {P:Program} {w:World} {K:PySem.W.Frag} {mg:Str -> Option Value} {base:Heap}
inductive Qc (K:PySem.W.Frag) (vs:List V) (H:Hp) (Q:VK):Prop
  | mk (a:Addr) (ns:List Int) (z:Nat) (_:vs = [.ref a,.int z]) (_:SqL K H a (ns.map V.int)) (_:ns.length <= 63) (_:1 <= z) (_:z <= 63) (_:∀ (p:Addr) (ms:List Int) H',Same H H' -> SqL K H' p (ms.map V.int) -> ms.length <= z -> Q (.ref p) H'):Qc K vs H Q
def Q6 (K:PySem.W.Frag):Sp:=fun vs H Q _=>Qc K vs H Q
theorem Wg:zy ["_law_script", "_law_size", "_law_cells", "_law_k", "_law_cell"] ["_law_script", "_law_size"] (zt (zp 17)):=⟨rfl,rfl,rfl,by decide +kernel,rfl,by decide +kernel,by decide +kernel⟩
def XW (a:_) (z:Nat) (p:_) (H:_) (q:_) (ns:List Int):=fun (i:Nat) (σ:St) (H2:Hp)=>(Ex3 fun (ms:List Int) (v3 v4:Option V)=>An5 (σ = [some (.ref a),some (.int z),some (.ref p),v3,v4]) (Same H H2) (H2 p = some (.lst (ms.map V.int))) (H2 q = some (.lst (j3 (ns.map V.int) (some (z:Int)) (some 63)))) (ms.length = min z ns.length):Prop)
theorem YO {f:Addr} {fd:FuncData} (F:Fun K "_law_folded" "_law_folded" (zp 17) f fd) (B:Blt mg):qA P w K mg base CX0 1 f fd ["_law_script", "_law_size"] (Q6 K):=by
  have nd:=Wg.nd
  refine F.ok Wg (fun vs H Q E h=>?_) (fun cdv A outer s H vs Q E hr h=>?_)
  · obtain ⟨a,ns,z,rfl,_⟩:=h
    rfl
  · obtain ⟨a,ns,z,rfl,hS,hlen,hz1,hz2,k⟩:=h
    refine ⟨_,(ze (zv (i:=2) nd rfl (Or.inl rfl) (zM vE rfl B.list qQ (za (wQ ZF (pv 0) JW (wz (pv 1))) zd)))
      (ze (zU PassesOwn.never rfl (YA rfl B.enumerate (za (wQ ZF (pv 0) (wz (pv 1)) (wz zg)) zd)) (qx rfl (zq (zn (i:=3) nd rfl (Or.inl rfl)) (zq (zn (i:=4) nd rfl (Or.inl rfl)) zS)))
      (zm (jm (zA qh (zx zD (pv 2) (zA jG (pv 3) (pv 1)) (fun _ _=>rfl)) (zA jO (pv 4) (zA qh (pv 3) zg))) (xB (pv 2) (zA jG (pv 3) (pv 1)) jM))))
      (zm (zE (pv 2))))),?_⟩
    refine ⟨_,rfl,_,rfl,_,rfl,a,_,rfl,hS,fun l hl=>⟨l,_,rfl,.inl (SqL.of zb),fun p hp=>?_⟩⟩
    have s1:Same H (upd (upd H l (.lst (j3 (ns.map V.int) none (some (z:Int))))) p (.lst (j3 (ns.map V.int) none (some (z:Int))))):=(zc hl).trans (zc hp)
    generalize hH1:upd (upd H l (.lst (j3 (ns.map V.int) none (some (z:Int))))) p (.lst (j3 (ns.map V.int) none (some (z:Int)))) = H1 at s1
    have hp1:H1 p = some (.lst (j3 (ns.map V.int) none (some (z:Int)))):=by rw [<- hH1];exact zb
    have np:H p = none:=(zc hl).free hp
    refine ⟨_,rfl,_,rfl,_,rfl,_,rfl,a,_,rfl,s1.seq hS,fun q hq=>⟨q,rfl,⟨_,SqL.of zb⟩,?_⟩⟩
    have npq:p ≠ q:=zf hp1 hq
    obtain ⟨ms0,hms0⟩:=W9 ns none (some (z:Int))
    have lo:=zad ns z
    have hi:=zae ns z (some 63)
    refine W1 (K:=K) (a:=q) (xs:=j3 (ns.map V.int) (some (z:Int)) (some 63)) (XW a z p H q ns)
      ⟨ms0,none,none,rfl,s1.trans (zc hq),by rw [zi npq,hp1,hms0],zb,by rw [<- lo,hms0,List.length_map]⟩ (fun i σ H2 _ ⟨_,_,_,_,_,_,h,_⟩=>SqL.of h) ?_ ?_
    · rintro i x σ H2 T hx ⟨ms,v3,v4,rfl,sm,hp2,hq2,hml⟩ hT
      have hil:i < (j3 (ns.map V.int) (some (z:Int)) (some 63)).length:=(List.getElem?_eq_some_iff.mp hx).1
      obtain ⟨c,rfl⟩:∃ c,x = V.int c:=by
        have:=W8 (List.mem_of_getElem? hx)
        obtain ⟨c,_,e⟩:=List.mem_map.mp this
        exact ⟨c,e.symm⟩
      have hj:i % z < ms.length:=by
        have:=Nat.mod_lt i (show 0 < z by omega)
        omega
      have npT:p ≠ T:=zf hp2 hT
      have nqT:q ≠ T:=zf hq2 hT
      have hp3:upd H2 T (.tup [.int i,.int c]) p = some (.lst (ms.map V.int)):=by rw [zi npT];exact hp2
      have em:((i % z:Nat):Int) = (i:Int) % (z:Int):=Int.natCast_emod i z
      have hz0:(0:Int) < (z:Int):=by omega
      refine ⟨T,_,rfl,SqT.of zb,rfl,_,_,rfl,_,_,rfl,rfl,?_⟩
      refine ⟨_,rfl,_,rfl,_,rfl,_,_,rfl,rfl,hz0,p,_,_,.int ms[i % z],rfl,rfl,SqL.of hp3,(by rw [<- em];exact qm (by simp [hj])),?_⟩
      refine ⟨_,rfl,_,rfl,_,_,rfl,rfl,_,_,rfl,rfl,.inr ⟨?_,?_⟩,_,_,rfl,rfl,?_⟩
      · have e1:(-(2 ^ 64):Int) = -18446744073709551616:=by decide
        rw [e1];omega
      · have e2:((2 ^ 64):Int) = 18446744073709551616:=by decide
        rw [e2];omega
      refine ⟨_,rfl,_,rfl,_,rfl,_,_,rfl,rfl,hz0,p,_,_,i % z,rfl,rfl,hp3,(by rw [<- em,List.length_map];exact vB hj),?_⟩
      refine ⟨ms.set (i % z) (ms[i % z] + c * ((i:Int) + 2)),_,_,rfl,fun d o e=>?_,by rw [zb,List.map_set],?_,by rw [List.length_set];exact hml⟩
      · rw [zi (zf e np),zi (zf (sm d o e) hT)]
        exact sm d o e
      · rw [zi (Ne.symm npq),zi nqT]
        exact hq2
    · rintro σ H2 ⟨ms,v3,v4,rfl,sm,hp2,hq2,hml⟩
      exact ⟨_,rfl,k p ms H2 sm (SqL.of hp2) (by omega)⟩
end
theorem QW:[V.ty "list",V.ty "tuple"].length <= sizeLine:=by rw [sizeLine_eq];exact (by decide:2 <= 16777216)
section
variable {P:Program} {w:World} {K:PySem.W.Frag} {mg:Str -> Option Value} {base:Heap}
def spS (K:PySem.W.Frag):Nat -> Sp
  | 0=>fun _ _ _ _=>False
  | n + 1=>fun vs H Q _=>∃ d f v,vs = [f,v] /\ Rep K H d f /\ Rep K H d v /\ Dat.ok n d /\ ∀ H',Same H H' -> Q (.bl true) H'
theorem Wc:zy ["_law_found", "_law_due"] ["_law_found", "_law_due"] (zt (zp 18)):=⟨rfl,rfl,rfl,by decide +kernel,rfl,by decide +kernel,by decide +kernel⟩
theorem J4 {f:Addr} {fd:FuncData} (F:Fun K "_law_same" "_law_same" (zp 18) f fd) (B:Blt mg) (hm:mg "_law_same" = some (.ref f)) (hb:Binds K fd ["_law_found", "_law_due"] []) :
    ∀ n:Nat,qA P w K mg base CX0 n f fd ["_law_found", "_law_due"] (spS K n)
  | 0=>⟨fun _ _ _ _ h=>h.elim,fun _ _ _ _ _ _ _ _ _ _ _ _ _ h=>h.elim⟩
  | n + 1=>by
    have D_same:Dfn P w K mg base "_law_same" n ["_law_found", "_law_due"] (spS K n):=⟨f,fd,J4 F B hm hb n,hm,F.kp,hb⟩
    have nd:=Wc.nd
    refine F.ok Wc (fun vs H Q E h=>?_) (fun cdv A outer s H vs Q E hr h=>?_)
    · obtain ⟨d,g,v,rfl,_⟩:=h
      rfl
    · obtain ⟨d,g,v,rfl,rg,rv,ok,k⟩:=h
      refine ⟨_,(ze (jz (xi (zr Zg rfl B.isinstance boot_isinstance (za (pv 1) (za (zO (za (jb (v:=.ty "list") rfl B.list qQ rfl) (za (jb (v:=.ty "tuple") rfl B.tuple qz rfl) zd))) zd))))
      (ze (jz (PW.pt (yV (Wl (xi (zr Zg rfl B.isinstance boot_isinstance (za (pv 0) (za (zO (za (jb (v:=.ty "list") rfl B.list qQ rfl) (za (jb (v:=.ty "tuple") rfl B.tuple qz rfl) zd))) zd))))) (vR (zw Qm (zr jC rfl B.isinstance boot_isinstance (za (pv 0) (za (jb (v:=.ty "list") rfl B.list qQ rfl) zd))) (zr jC rfl B.isinstance boot_isinstance (za (pv 1) (za (jb (v:=.ty "list") rfl B.list qQ rfl) zd))) (zB _)))))
        (zm (zE JY))
        qM)
        (zm (zE (wS (qN jg (zr zI rfl B.len boot_len (za (pv 0) zd)) (zr zI rfl B.len boot_len (za (pv 1) zd)) (zB _)) (wR (zr (Zi rfl) rfl B.all boot_all (za (jF [] [] rfl rfl (by kernel_rfl) (zbb rfl B.zip (za (pv 0) (za (pv 1) zd))) (fun _ _ _ _=>qR) (fun _ _ _ _=>(zj D_same (hr.mono (by omega)) rfl (za (pv 0) (za (pv 1) zd))))) zd)))))))
      qM)
      (ze (jz (PW.pt (yV (zw Wy (pv 1) Jc (zB _)) (vR (xi (zr jC rfl B.isinstance boot_isinstance (za (pv 1) (za (jb (v:=.ty "str") rfl B.str ym rfl) zd)))))))
      (zm (zE (wS (qN jg (pv 0) (pv 1) (zB _)) (wR (qN jg (zr jC rfl B.isinstance boot_isinstance (za (pv 0) (za (jb (v:=.ty "str") rfl B.str ym rfl) zd))) (zr jC rfl B.isinstance boot_isinstance (za (pv 1) (za (jb (v:=.ty "str") rfl B.str ym rfl) zd))) (zB _))))))
      qM)
      (zm (zE (wS (zr jC rfl B.isinstance boot_isinstance (za (pv 0) (za (jb (v:=.ty "int") rfl B.int vF rfl) zd))) (wS (qN jg (zr jC rfl B.isinstance boot_isinstance (za (pv 0) (za (jb (v:=.ty "bool") rfl B.bool Zl rfl) zd))) (zr jC rfl B.isinstance boot_isinstance (za (pv 1) (za (jb (v:=.ty "bool") rfl B.bool Zl rfl) zd))) (zB _)) (wR (qN jg (pv 0) (pv 1) (zB _))))))))),?_⟩
      refine ⟨_,rfl,QW,fun p hp=>⟨v,d.tyN,p,["list", "tuple"],rfl,(rv.same (zc hp)).ty,zb,(by decide),_,rfl,?_⟩⟩
      have s1:Same H (upd H p (.tup [V.ty "list",V.ty "tuple"])):=zc hp
      have rg1:=rg.same s1
      have rv1:=rv.same s1
      generalize upd H p (.tup [V.ty "list",V.ty "tuple"]) = H1 at s1 rg1 rv1
      cases d with
      | non=>
        cases (show g = _ from rg);cases (show v = _ from rv)
        refine ifF rfl ⟨_,rfl,rfl,_,rfl,ifT (by simp) (ifT rfl ?_)⟩
        refine ⟨_,rfl,_,rfl,rfl,_,rfl,ifT (by simp) ⟨_,rfl,_, "NoneType", "str",rfl,rg1.ty,(by decide),_,rfl,_, "NoneType", "str",rfl,rv1.ty,(by decide),rfl,?_⟩⟩
        have:=k H1 s1
        simpa using this
      | str x=>
        cases (show g = _ from rg);cases (show v = _ from rv)
        refine ifF rfl ⟨_,rfl,rfl,_,rfl,ifF (by simp) ⟨_,rfl,_, "str", "str",rfl,rv1.ty,(by decide),_,rfl,ifT (by decide) ?_⟩⟩
        refine ⟨_,rfl,_,rfl,rfl,_,rfl,ifT (by simp) ⟨_,rfl,_, "str", "str",rfl,rg1.ty,(by decide),_,rfl,_, "str", "str",rfl,rv1.ty,(by decide),rfl,?_⟩⟩
        have:=k H1 s1
        simpa using this
      | bl b=>
        cases (show g = _ from rg);cases (show v = _ from rv)
        refine ifF rfl ⟨_,rfl,rfl,_,rfl,ifF (by simp) ⟨_,rfl,_, "bool", "str",rfl,rv1.ty,(by decide),_,rfl,ifF (by decide) ?_⟩⟩
        refine ⟨_,rfl,_, "bool", "int",rfl,rg1.ty,(by decide),_,rfl,ifT (by decide) ⟨_,rfl,_, "bool", "bool",rfl,rg1.ty,(by decide),_,rfl,_, "bool", "bool",rfl,rv1.ty,(by decide),rfl,_,rfl,ifT (by simp) ⟨_,rfl,_,rfl,rfl,?_⟩⟩⟩
        have:=k H1 s1
        simpa using this
      | int b=>
        cases (show g = _ from rg);cases (show v = _ from rv)
        refine ifF rfl ⟨_,rfl,rfl,_,rfl,ifF (by simp) ⟨_,rfl,_, "int", "str",rfl,rv1.ty,(by decide),_,rfl,ifF (by decide) ?_⟩⟩
        refine ⟨_,rfl,_, "int", "int",rfl,rg1.ty,(by decide),_,rfl,ifT (by decide) ⟨_,rfl,_, "int", "bool",rfl,rg1.ty,(by decide),_,rfl,_, "int", "bool",rfl,rv1.ty,(by decide),rfl,_,rfl,ifT (by simp) ⟨_,rfl,_,rfl,rfl,?_⟩⟩⟩
        have:=k H1 s1
        simpa using this
      | lst ds=>
        obtain ⟨a,xs,rfl,hx,rx⟩:=rg1
        obtain ⟨b,ys,rfl,hy,ry⟩:=rv1
        cases n with
        | zero=>exact (show False from ok).elim
        | succ n=>
          obtain ⟨hlen,hall⟩:ds.length <= 1000000 /\ ∀ d ∈ ds,Dat.ok n d:=ok
          have lx:=rx.len
          have ly:=ry.len
          have hbig:1000000 < sizeLine:=by rw [sizeLine_eq];decide
          refine ifT rfl ?_
          refine ⟨_,rfl,QW,fun p2 hp2=>⟨.ref a, "list",p2,["list", "tuple"],rfl,(.inl ⟨rfl,xs,(zc hp2).seq hx⟩),zb,(by decide),_,rfl,ifF rfl ?_⟩⟩
          have s2:Same H1 (upd H1 p2 (.tup [V.ty "list",V.ty "tuple"])):=zc hp2
          have hx2:=s2.seq hx
          have hy2:=s2.seq hy
          have rx2:=rx.same s2
          have ry2:=ry.same s2
          have s3:=s1.trans s2
          generalize upd H1 p2 (.tup [V.ty "list",V.ty "tuple"]) = H2 at s2 s3 hx2 hy2 rx2 ry2
          refine ⟨_,rfl,.ref a, "list", "list",rfl,(.inl ⟨rfl,xs,hx2⟩),(by decide),_,rfl,.ref b, "list", "list",rfl,(.inl ⟨rfl,ys,hy2⟩),(by decide),rfl,_,rfl,ifF (by decide) ?_⟩
          refine ⟨_,rfl,a,xs,rfl,(.inl hx2),_,rfl,b,ys,rfl,(.inl hy2),rfl,_,rfl,ifT (by simp [lx,ly]) ?_⟩
          refine ⟨_,rfl,_,rfl,true,true,a,b,rfl,⟨xs,hx2⟩,⟨ys,hy2⟩,?_⟩
          refine WQ (K:=K) (k1:=true) (k2:=true) (xs:=xs) (ys:=ys) (fun i zs H3=>zs = List.replicate i (V.bl true) /\ Same H2 H3) ⟨rfl,Same.refl _⟩ (fun i zs H3 ⟨_,sm⟩=>⟨sm.seq hx2,sm.seq hy2⟩) ?_ ?_
          · rintro i x y zs H3 T e1 e2 ⟨rfl,sm⟩ hT
            have hi:i < ds.length:=by have:=(List.getElem?_eq_some_iff.mp e1).1;omega
            obtain ⟨d1,q1,r1⟩:=rx2.get e1
            obtain ⟨d2,q2,r2⟩:=ry2.get e2
            rw [q1] at q2;cases q2
            have s4:=sm.trans (zc (o:=.tup [x,y]) hT)
            refine ⟨T,_,rfl,SqT.of zb,rfl,_,_,rfl,_,_,rfl,rfl,rfl,?_⟩
            refine ⟨_,rfl,_,rfl,d1,x,y,rfl,r1.same s4,r2.same s4,hall d1 (List.mem_of_getElem? q1),fun H5 s5=>⟨?_,?_,s4.trans s5⟩⟩
            · rw [List.length_replicate];omega
            · rw [List.replicate_succ']
          · rintro zs H3 ⟨rfl,sm⟩
            refine ⟨by rw [List.length_replicate];omega,fun D hD=>⟨D,List.replicate (min xs.length ys.length) true,rfl,?_,?_⟩⟩
            · refine SqL.of ?_
              rw [zb,List.map_replicate]
            · have:=k _ (s3.trans (sm.trans (zc (o:=.lst (List.replicate (min xs.length ys.length) (V.bl true))) hD)))
              simpa using this
      | tup ds=>
        obtain ⟨a,xs,rfl,hx,rx⟩:=rg1
        obtain ⟨b,ys,rfl,hy,ry⟩:=rv1
        cases n with
        | zero=>exact (show False from ok).elim
        | succ n=>
          obtain ⟨hlen,hall⟩:ds.length <= 1000000 /\ ∀ d ∈ ds,Dat.ok n d:=ok
          have lx:=rx.len
          have ly:=ry.len
          have hbig:1000000 < sizeLine:=by rw [sizeLine_eq];decide
          refine ifT rfl ?_
          refine ⟨_,rfl,QW,fun p2 hp2=>⟨.ref a, "tuple",p2,["list", "tuple"],rfl,(.inr ⟨rfl,xs,(zc hp2).sqT hx⟩),zb,(by decide),_,rfl,ifF rfl ?_⟩⟩
          have s2:Same H1 (upd H1 p2 (.tup [V.ty "list",V.ty "tuple"])):=zc hp2
          have hx2:=s2.sqT hx
          have hy2:=s2.sqT hy
          have rx2:=rx.same s2
          have ry2:=ry.same s2
          have s3:=s1.trans s2
          generalize upd H1 p2 (.tup [V.ty "list",V.ty "tuple"]) = H2 at s2 s3 hx2 hy2 rx2 ry2
          refine ⟨_,rfl,.ref a, "tuple", "list",rfl,(.inr ⟨rfl,xs,hx2⟩),(by decide),_,rfl,.ref b, "tuple", "list",rfl,(.inr ⟨rfl,ys,hy2⟩),(by decide),rfl,_,rfl,ifF (by decide) ?_⟩
          refine ⟨_,rfl,a,xs,rfl,(.inr hx2),_,rfl,b,ys,rfl,(.inr hy2),rfl,_,rfl,ifT (by simp [lx,ly]) ?_⟩
          refine ⟨_,rfl,_,rfl,false,false,a,b,rfl,⟨xs,hx2⟩,⟨ys,hy2⟩,?_⟩
          refine WQ (K:=K) (k1:=false) (k2:=false) (xs:=xs) (ys:=ys) (fun i zs H3=>zs = List.replicate i (V.bl true) /\ Same H2 H3) ⟨rfl,Same.refl _⟩ (fun i zs H3 ⟨_,sm⟩=>⟨sm.sqT hx2,sm.sqT hy2⟩) ?_ ?_
          · rintro i x y zs H3 T e1 e2 ⟨rfl,sm⟩ hT
            have hi:i < ds.length:=by have:=(List.getElem?_eq_some_iff.mp e1).1;omega
            obtain ⟨d1,q1,r1⟩:=rx2.get e1
            obtain ⟨d2,q2,r2⟩:=ry2.get e2
            rw [q1] at q2;cases q2
            have s4:=sm.trans (zc (o:=.tup [x,y]) hT)
            refine ⟨T,_,rfl,SqT.of zb,rfl,_,_,rfl,_,_,rfl,rfl,rfl,?_⟩
            refine ⟨_,rfl,_,rfl,d1,x,y,rfl,r1.same s4,r2.same s4,hall d1 (List.mem_of_getElem? q1),fun H5 s5=>⟨?_,?_,s4.trans s5⟩⟩
            · rw [List.length_replicate];omega
            · rw [List.replicate_succ']
          · rintro zs H3 ⟨rfl,sm⟩
            refine ⟨by rw [List.length_replicate];omega,fun D hD=>⟨D,List.replicate (min xs.length ys.length) true,rfl,?_,?_⟩⟩
            · refine SqL.of ?_
              rw [zb,List.map_replicate]
            · have:=k _ (s3.trans (sm.trans (zc (o:=.lst (List.replicate (min xs.length ys.length) (V.bl true))) hD)))
              simpa using this
end
theorem le0:([]:List V).length <= sizeLine:=Nat.zero_le _
theorem le2 {x y:V}:[x,y].length <= sizeLine:=by rw [sizeLine_eq];exact (by decide:2 <= 16777216)
theorem SameB.refl (b:Addr) (H:Hp):SameB b H H:=fun _ _ e _=>e
theorem SameB.trans {b:Addr} {H H1 H2:Hp} (a:SameB b H H1) (c:SameB b H1 H2):SameB b H H2:=fun d o e hd=>c d o (a d o e hd) hd
theorem SameB.of {b:Addr} {H H1:Hp} (a:Same H H1):SameB b H H1:=fun d o e _=>a d o e
theorem SameB.new {b p:Addr} {o:HO} {H H1:Hp} (a:SameB b H H1) (h:H1 p = none):SameB b H (upd H1 p o):=a.trans (.of (zc h))
theorem BoxAt.new {b p:Addr} {o:HO} {H:Hp} {n:Int} (a:BoxAt H b n) (h:H p = none):BoxAt (upd H p o) b n:=by
  obtain ⟨b0,b1,b2,e,r⟩:=a
  exact ⟨b0,b1,b2,by rw [zi (zf e h)];exact e,r⟩
theorem BoxAt.same {b:Addr} {H H':Hp} {n:Int} (a:BoxAt H b n) (s:Same H H'):BoxAt H' b n:=by
  obtain ⟨b0,b1,b2,e,r⟩:=a
  exact ⟨b0,b1,b2,s _ _ e,r⟩
theorem BoxAt.ne {b t:Addr} {H:Hp} {n:Int} {o:HO} (a:BoxAt H b n) (h:H t = some o) (hl:∀ x y z,o ≠ .lst [x,y,z]):t ≠ b:=by
  obtain ⟨b0,b1,b2,e,r⟩:=a
  exact J5 h e (hl _ _ _)
theorem BoxAt.some {b:Addr} {H:Hp} {n:Int} (a:BoxAt H b n):∃ o,H b = .some o:=let ⟨_,_,_,e,_⟩:=a;⟨_,e⟩
theorem BoxAt.mono {b:Addr} {H:Hp} {n m:Int} (a:BoxAt H b n) (h:n <= m):BoxAt H b m:=by
  obtain ⟨b0,b1,b2,e,p0,p1,p2,p3,p4⟩:=a
  exact ⟨b0,b1,b2,e,p0,p1,p2,p3,by omega⟩
theorem le1 {x:V}:[x].length <= sizeLine:=by rw [sizeLine_eq];exact (by decide:1 <= 16777216)
theorem le3 {x y z:V}:[x,y,z].length <= sizeLine:=by rw [sizeLine_eq];exact (by decide:3 <= 16777216)
theorem le4 {x y z u:V}:[x,y,z,u].length <= sizeLine:=by rw [sizeLine_eq];exact (by decide:4 <= 16777216)
theorem leN {xs:List V} (h:xs.length <= 1000):xs.length <= sizeLine:=by rw [sizeLine_eq];omega
theorem yo {α:Type} {xs:List α} {i:Int} (h:0 <= i) (h':i < xs.length):∃ v,atI xs i = some v /\ xs[i.toNat]? = some v:=by
  have hl:i.toNat < xs.length:=by omega
  refine ⟨xs[i.toNat],?_,by simp [hl]⟩
  have:=qm (xs:=xs) (j:=i.toNat) (v:=xs[i.toNat]) (by simp [hl])
  rwa [show ((i.toNat:Nat):Int) = i by omega] at this
theorem SameB.put {b m:Addr} {H H':Hp} {o:HO} (s:SameB b H H') (h:H m = none):SameB b H (upd H' m o):=fun c u e hc=>by
  rw [zi (zf e h)];exact s c u e hc
theorem SameB.none {b m:Addr} {H H':Hp} (s:SameB b H H') (h:H' m = none) (hm:m ≠ b):H m = none:=by
  cases q:H m with
  | none=>rfl
  | some o=>have:=s m o q hm;rw [h] at this;cases this
def xo (x:Str):Prop:=(x.cps.toList.map Qz).all id = true
theorem zbq {r:Int} (h0:0 <= r) (h1:r < 26):∃ c,atI zb9.cps.toList r = some c /\ Qz c = true:=by
  rw [WO]
  obtain ⟨c,e,e'⟩:=yo (xs:=List.range' 97 26) h0 (by rw [List.length_range'];omega)
  have hm:=List.mem_range'_1.mp (List.mem_of_getElem? e')
  refine ⟨c,e,?_⟩
  unfold Qz
  rw [decide_eq_true (by omega),decide_eq_true (by omega)]
  rfl
theorem WN {c:Nat} {y:Str} (h:Qz c = true) (hy:xo y):xo ((⟨#[c]⟩:Str) ++ y):=by
  unfold xo at hy ⊢
  show ((#[c] ++ y.cps).toList.map Qz).all id = true
  rw [Array.toList_append,List.map_append,List.all_append,hy,Bool.and_true]
  show (Qz c && true) = true
  rw [h];rfl
theorem WP {c:Nat} {y:Str}:((⟨#[c]⟩:Str) ++ y).length = y.length + 1:=by
  show (#[c] ++ y.cps).size = y.cps.size + 1
  rw [Array.size_append]
  show 1 + _ = _
  omega
theorem BoxAt.nne {b p:Addr} {H:Hp} {n:Int} (a:BoxAt H b n) (h:H p = none):p ≠ b:=by
  obtain ⟨o,e⟩:=a.some
  exact (zf e h).symm
theorem BoxAt.other {b l:Addr} {H:Hp} {n:Int} {o:HO} (a:BoxAt H b n) (h:l ≠ b):BoxAt (upd H l o) b n:=by
  obtain ⟨b0,b1,b2,e,r⟩:=a
  exact ⟨b0,b1,b2,by rw [zi (Ne.symm h)];exact e,r⟩
def Nm (x:Str):Prop:=x.length <= 8 /\ ∀ c ∈ x.cps.toList,c < 1000000
theorem zcw {x:Str} (h:x.length <= 8) (l:xo x):Nm x:=⟨h,fun c hc=>by
  unfold xo at l
  have:=List.all_eq_true.mp l (Qz c) (List.mem_map.mpr ⟨c,hc,rfl⟩)
  unfold Qz at this
  simp at this
  omega⟩
theorem yL:∀ (ns:List Str),(ns.map V.str).all jr = true
  | []=>rfl
  | n :: ns=>by
    show (true && (ns.map V.str).all jr) = true
    rw [yL ns];rfl
section
variable {P:Program} {w:World} {K:PySem.W.Frag} {mg:Str -> Option Value} {base:Heap}
inductive yO (vs:List V) (H:Hp) (Q:VK):Prop
  | mk (num size:Int) (_:vs = [.int num,.int size]) (_:0 <= num) (_:1 <= size) (_:size <= 8) (_:∀ y:Str,(y.length:Int) = size -> xo y -> Q (.str y) H):yO  vs H Q
def Zy:Sp:=fun vs H Q _=>yO  vs H Q
theorem JK:zy ["_law_number", "_law_size", "_law_word", "_law_k"] ["_law_number", "_law_size"] (zt (zp 19)):=⟨rfl,rfl,rfl,by decide +kernel,rfl,by decide +kernel,by decide +kernel⟩
def XV (size:_) (H:_):=fun (i:Nat) (σ:St) (H4:Hp)=>(Ex3 fun (num':Int) (y:Str) (v3:Option V)=>An5 (σ = [some (.int num'),some (.int size),some (.str y),v3]) (0 <= num') (y.length = i) (xo y) (H4 = H):Prop)
theorem WB {f:Addr} {fd:FuncData} (F:Fun K "_law_spelled" "_law_spelled" (zp 19) f fd) (B:Blt mg):qA P w K mg base CX0 1 f fd ["_law_number", "_law_size"] Zy:=by
  have nd:=JK.nd
  refine F.ok JK (fun vs H Q E h=>?_) (fun cdv A outer s H vs Q E hr h=>?_)
  · obtain ⟨num,size,rfl,_⟩:=h
    rfl
  · obtain ⟨num,size,rfl,n0,s0,s1,k⟩:=h
    have hbig:100000 < sizeLine:=by rw [sizeLine_eq];decide
    have e62:(2:Int) ^ 62 = 4611686018427387904:=by decide
    refine ⟨_,(ze (zv (i:=2) nd rfl (Or.inl rfl) Wt)
      (ze (zU PassesOwn.never rfl (qe rfl B.range (za (pv 1) zd)) (zn (i:=3) nd rfl (Or.inl rfl))
      (ze (zv (i:=2) nd rfl (Or.inl rfl) (zA Je (zx zbw Wt (zA jG (pv 0) zg) (fun _ _=>rfl)) (pv 2)))
        (zm (zv (i:=0) nd rfl (Or.inl rfl) (zA J3 (pv 0) zg)))))
      (zm (zE (pv 2))))),?_⟩
    refine ⟨_,rfl,_,rfl,(by rw [e62];omega),(by rw [e62];omega),?_⟩
    refine qK (XV size H) ⟨num,_,_,rfl,n0,rfl,rfl,rfl⟩ ?_ ?_
    · rintro i σ H4 hi ⟨num',y,v3,rfl,m0,ly,al,rfl⟩
      obtain ⟨c,hc,lc⟩:=zbq (r:=num' % 26) (Int.emod_nonneg _ (by decide)) (Int.emod_lt_of_pos _ (by decide))
      refine ⟨_,rfl,_,_,rfl,rfl,(by show (0:Int) < 26;decide),_,_,c,rfl,rfl,(by rw [sizeLine_eq];decide),hc,_,rfl,_,_,rfl,rfl,?_,?_⟩
      · show 1 + y.length <= sizeLine
        omega
      · exact ⟨_,rfl,_,_,rfl,rfl,⟨by decide,by decide⟩,_,_,_,rfl,Int.ediv_nonneg m0 (by decide),by rw [WP,ly],WN lc al,rfl⟩
    · rintro σ H4 ⟨num',y,v3,rfl,m0,ly,al,rfl⟩
      exact ⟨_,rfl,k y (by omega) al⟩
inductive JA (vs:List V) (H:Hp) (Q:VK):Prop
  | mk (b t:Addr) (n:Int) (ts:List Str) (_:vs = [.ref b,.ref t]) (_:BoxAt H b n) (_:n < 1099511000000) (_:t ≠ b) (_:H t = some (.lst (ts.map V.str))) (_:ts.length <= 1000) (_:∀ (y:Str) H',SameB b H H' -> BoxAt H' b (n + 12) -> 1 <= y.length -> y.length <= 8 -> xo y -> Q (.str y) H'):JA  vs H Q
def VW:Sp:=fun vs H Q _=>JA  vs H Q
theorem zap:zy ["_law_box_here", "_law_taken", "_law_size", "_law_number", "_law_k", "_law_word", "_law_turn"] ["_law_box_here", "_law_taken"] (zt (zp 20)):=⟨rfl,rfl,rfl,by decide +kernel,rfl,by decide +kernel,by decide +kernel⟩
theorem zba {r:Int} (h0:0 <= r) (h1:r < 4):∃ z:Int,atI [V.int 3,V.int 3,V.int 3,V.int 8] r = some (.int z) /\ 3 <= z /\ z <= 8:=by
  have hc:r = 0 \/ r = 1 \/ r = 2 \/ r = 3:=by omega
  rcases hc with rfl | rfl | rfl | rfl
  · exact ⟨3,rfl,by decide,by decide⟩
  · exact ⟨3,rfl,by decide,by decide⟩
  · exact ⟨3,rfl,by decide,by decide⟩
  · exact ⟨8,rfl,by decide,by decide⟩
def XU (b:_) (t:_) (r2:_) (H:_) (n:_):=fun (i:Nat) (σ:St) (H4:Hp)=>(Ex2 fun (num:Int) (v4:Option V)=>An4 (σ = [some (.ref b),some (.ref t),some (.int (1 + r2)),some (.int num),v4,none,none]) (0 <= num) (SameB b H H4) (BoxAt H4 b (n + 2 + i)):Prop)
def XT (b:_) (t:_) (r2:_) (num:_) (H4:_):=fun (i:Nat) (σ:St) (H5:Hp)=>(Ex3 fun (v4 v6:Option V) (y:Str)=>An5 (σ = [some (.ref b),some (.ref t),some (.int (1 + r2)),some (.int num),v4,some (.str y),v6]) (1 <= y.length) (y.length <= 8) (xo y) (H5 = H4):Prop)
theorem zbj {f:Addr} {fd:FuncData} (F:Fun K "_law_name" "_law_name" (zp 20) f fd) (B:Blt mg) (D_take:Dfn P w K mg base "_law_take" 1 ["_law_box_here", "_law_size"] jE) (D_spelled:Dfn P w K mg base "_law_spelled" 1 ["_law_number", "_law_size"] Zy):qA P w K mg base CX0 2 f fd ["_law_box_here", "_law_taken"] VW:=by
  have nd:=zap.nd
  refine F.ok zap (fun vs H Q E h=>?_) (fun cdv A outer s H vs Q E hr h=>?_)
  · obtain ⟨b,t,n,ts,rfl,_⟩:=h
    rfl
  · obtain ⟨b,t,n,ts,rfl,B0,hn,ntb,ht,htl,k⟩:=h
    have e62:(2:Int) ^ 62 = 4611686018427387904:=by decide
    refine ⟨_,(ze (zv (i:=2) nd rfl (Or.inl rfl) (zA qh zg (zj D_take (hr.mono (by decide)) rfl (za (pv 0) (za (zx zD (zJ (za zg (za zg (za zg (za zg zd))))) (zj D_take (hr.mono (by decide)) rfl (za (pv 0) (za zg zd))) (fun _ _=>rfl)) zd)))))
      (ze (zv (i:=3) nd rfl (Or.inl rfl) zg)
      (ze (zU PassesOwn.never rfl (qe rfl B.range (za (pv 2) zd)) (zn (i:=4) nd rfl (Or.inl rfl))
      (zm (zv (i:=3) nd rfl (Or.inl rfl) (zA qh (zA jO (pv 3) zg) (zj D_take (hr.mono (by decide)) rfl (za (pv 0) (za zg zd)))))))
      (ze (zv (i:=5) nd rfl (Or.inl rfl) (zj D_spelled (hr.mono (by decide)) rfl (za (pv 3) (za (pv 2) zd))))
      (ze (zU PassesOwn.never rfl (qe rfl B.range (za (zA qh (zr zI rfl B.len boot_len (za (pv 1) zd)) zg) zd)) (zn (i:=6) nd rfl (Or.inl rfl))
      (zm (jz (zw yX (pv 5) (pv 1) (by with_unfolding_all rfl))
        (zm (zv (i:=5) nd rfl (Or.inl rfl) (zj D_spelled (hr.mono (by decide)) rfl (za (zA qh (pv 3) (pv 6)) (za zg zd)))))
        qM)))
      (zm (zE (pv 5)))))))),?_⟩
    refine ⟨_,rfl,le4,fun l hl=>⟨_,rfl,b,4,n,rfl,B0.new hl,by omega,by decide,by decide,fun r H1 r0 r1 B1 S1=>?_⟩⟩
    have L1:=S1 l _ (zb (H:=H)) ((B0.new hl).ne (zb (H:=H) (o:=.lst [.int 3,.int 3,.int 3,.int 8])) (by intro x y z e;cases e))
    have S1':=((SameB.refl b H).new (o:=.lst [.int 3,.int 3,.int 3,.int 8]) hl).trans S1
    obtain ⟨z,ez,z0,z1⟩:=zba r0 r1
    refine ⟨l,_,_,_,rfl,rfl,SqL.of L1,ez,b,z,n + 1,rfl,B1,by omega,by omega,by omega,fun r2 H2 a0 a1 B2 S2=>⟨_,_,rfl,rfl,?_⟩⟩
    have S2':=S1'.trans S2
    refine ⟨_,rfl,_,rfl,(by rw [e62];omega),(by rw [e62];omega),?_⟩
    refine qK (XU b t r2 H n) ⟨0,_,rfl,by decide,S2',B2.mono (by omega)⟩ ?_ ?_
    · rintro i σ H4 hi ⟨num,v4,rfl,m0,S4,B4⟩
      refine ⟨_,rfl,_,_,rfl,rfl,.inr ⟨by decide,by decide⟩,_,rfl,b,26,_,rfl,B4,by omega,by decide,by decide,fun r3 H5 c0 c1 B5 S5=>⟨_,_,rfl,rfl,_,_,rfl,?_,S4.trans S5,B5.mono (by omega)⟩⟩
      omega
    · rintro σ H4 ⟨num,v4,rfl,m0,S4,B4⟩
      refine ⟨_,rfl,_,rfl,num,1 + r2,rfl,m0,by omega,by omega,fun y ly al=>?_⟩
      have ht4:=S4 t _ ht ntb
      have el:(ts.map V.str).length = ts.length:=List.length_map ..
      refine ⟨_,rfl,t,_,rfl,.inl (SqL.of ht4),_,_,rfl,rfl,_,rfl,(by rw [e62,el];omega),(by rw [e62,el];omega),?_⟩
      refine qK (XT b t r2 num H4) ⟨_,_,y,rfl,by omega,by omega,al,rfl⟩ ?_ ?_
      · rintro i σ H5 hi ⟨v4,v6,y,rfl,y0,y1,al,rfl⟩
        refine ⟨_,rfl,_,rfl,t,_,rfl,.inl (SqL.of ht4),rfl,yL ts,_,rfl,qO (fun c=>?_) (fun c=>⟨_,_,y,rfl,y0,y1,al,rfl⟩)⟩
        exact ⟨_,rfl,_,rfl,_,_,rfl,rfl,_,8,rfl,by omega,by decide,by decide,fun y' ly' al'=>⟨_,_,y',rfl,by omega,by omega,al',rfl⟩⟩
      · rintro σ H5 ⟨v4,v6,y,rfl,y0,y1,al,rfl⟩
        exact ⟨_,rfl,k y _ S4 (B4.mono (by omega)) y0 y1 al⟩
def Row (H:Hp) (l:Addr) (ns:List Str):Prop:=H l = some (.lst (ns.map V.str)) /\ ∀ x ∈ ns,Nm x
theorem Row.same {H H':Hp} {l:Addr} {ns:List Str} (r:Row H l ns) (s:Same H H'):Row H' l ns:=⟨s _ _ r.1,r.2⟩
theorem Row.draw {H H':Hp} {b l:Addr} {ns:List Str} (r:Row H l ns) (s:SameB b H H') (h:l ≠ b):Row H' l ns:=⟨s _ _ r.1 h,r.2⟩
inductive yS (vs:List V) (H:Hp) (Q:VK):Prop
  | mk (b:Addr) (m n:Int) (_:vs = [.ref b,.int m]) (_:BoxAt H b n) (_:n < 1000000) (_:0 <= m) (_:m <= 12) (_:∀ (l:Addr) (ns:List Str) H',SameB b H H' -> BoxAt H' b (n + 150) -> l ≠ b -> H l = none -> Row H' l ns -> (ns.length:Int) = m -> Q (.ref l) H'):yS  vs H Q
def ZC:Sp:=fun vs H Q _=>yS  vs H Q
theorem JO:zy ["_law_box_here", "_law_many", "_law_found", "_law_k"] ["_law_box_here", "_law_many"] (zt (zp 21)):=⟨rfl,rfl,rfl,by decide +kernel,rfl,by decide +kernel,by decide +kernel⟩
def XS (b:_) (m:_) (l:_) (H:_) (n:_):=fun (i:Nat) (σ:St) (H4:Hp)=>(Ex2 fun (ns:List Str) (v3:Option V)=>An5 (σ = [some (.ref b),some (.int m),some (.ref l),v3]) (SameB b H H4) (BoxAt H4 b (n + 12 * i)) (Row H4 l ns) (ns.length = i):Prop)
theorem WF {f:Addr} {fd:FuncData} (F:Fun K "_law_names" "_law_names" (zp 21) f fd) (B:Blt mg) (D_name:Dfn P w K mg base "_law_name" 2 ["_law_box_here", "_law_taken"] VW):qA P w K mg base CX0 3 f fd ["_law_box_here", "_law_many"] ZC:=by
  have nd:=JO.nd
  refine F.ok JO (fun vs H Q E h=>?_) (fun cdv A outer s H vs Q E hr h=>?_)
  · obtain ⟨b,m,n,rfl,_⟩:=h
    rfl
  · obtain ⟨b,m,n,rfl,B0,hn,m0,m1,k⟩:=h
    have hbig:100000 < sizeLine:=by rw [sizeLine_eq];decide
    have e62:(2:Int) ^ 62 = 4611686018427387904:=by decide
    refine ⟨_,(ze (zv (i:=2) nd rfl (Or.inl rfl) (zJ zd))
      (ze (zU PassesOwn.never rfl (qe rfl B.range (za (pv 1) zd)) (zn (i:=3) nd rfl (Or.inl rfl))
      (zm (qk (jn PySem.F.plainAttrs_list PySem.F.slot_list_append PySem.F.type_list_append zV (pv 2) (za (zj D_name (hr.mono (by decide)) rfl (za (pv 0) (za (pv 2) zd))) zd)))))
      (zm (zE (pv 2))))),?_⟩
    refine ⟨le0,fun l hl=>?_⟩
    have nl:=B0.nne hl
    refine ⟨_,rfl,_,rfl,(by rw [e62];omega),(by rw [e62];omega),?_⟩
    refine qK (XS b m l H n) ⟨[],_,rfl,(SameB.refl b H).new hl,(B0.new hl).mono (by omega),⟨zb,fun x h=>nomatch h⟩,rfl⟩ ?_ ?_
    · rintro i σ H4 hi ⟨ns,v3,rfl,S4,B4,R4,nsl⟩
      refine ⟨_,rfl,.inl ⟨rfl,_,SqL.of R4.1⟩,_,rfl,_,rfl,b,l,_,ns,rfl,B4,by omega,nl,R4.1,by omega,fun y H5 S5 B5 y0 y1 al=>⟨l,_,_,rfl,rfl,(R4.draw S5 nl).1,by rw [List.length_map,nsl];omega,?_⟩⟩
      refine ⟨ns ++ [y],_,rfl,(S4.trans S5).put hl,(B5.other nl).mono (by omega),⟨by rw [zb,List.map_append];rfl,fun x hx=>?_⟩,by rw [List.length_append,nsl];rfl⟩
      rcases List.mem_append.mp hx with q | q
      · exact R4.2 x q
      · rw [List.mem_singleton.mp q];exact zcw y1 al
    · rintro σ H4 ⟨ns,v3,rfl,S4,B4,R4,nsl⟩
      exact ⟨_,rfl,k l ns H4 S4 (B4.mono (by omega)) nl hl R4 (by omega)⟩
end
section
variable {P:Program} {w:World} {K:PySem.W.Frag} {mg:Str -> Option Value} {base:Heap}
def PlA (H:Hp) (a:Addr):Prop:=∃ x y:Int,H a = some (.tup [.int x,.int y]) /\ 0 <= x /\ x <= 1000 /\ 0 <= y /\ y <= 1000
theorem PlA.draw {H H':Hp} {a b:Addr} {n:Int} (h:PlA H a) (B:BoxAt H b n) (s:SameB b H H'):PlA H' a:=by
  obtain ⟨x,y,e,r⟩:=h
  obtain ⟨b0,b1,b2,eb,_⟩:=B
  exact ⟨x,y,s a _ e (J5 e eb (by intro z;cases z)),r⟩
inductive yQ (K:PySem.W.Frag) (vs:List V) (H:Hp) (Q:VK):Prop
  | mk (b t:Addr) (n:Int) (as:List Addr) (_:vs = [.ref b,.ref t]) (_:BoxAt H b n) (_:n < 1099511627000) (_:t ≠ b) (_:H t = some (.lst (as.map V.ref))) (_:as.length <= 1000) (_:(∀ a ∈ as,PlA H a)) (_:∀ (p:Addr) H',SameB b H H' -> BoxAt H' b (n + 3) -> H p = none -> PlA H' p -> Q (.ref p) H'):yQ K vs H Q
def vm (K:PySem.W.Frag):Sp:=fun vs H Q _=>yQ K vs H Q
theorem JM:zy ["_law_box_here", "_law_taken", "_law_most", "_law_x", "_law_y", "_law_turn"] ["_law_box_here", "_law_taken"] (zt (zp 22)):=⟨rfl,rfl,rfl,by decide +kernel,rfl,by decide +kernel,by decide +kernel⟩
def XR (b:_) (t:_) (y:_) (H:_) (n:_):=fun (i:Nat) (σ:St) (H4:Hp)=>(Ex3 fun (v2 v5:Option V) (x:Int)=>An5 (σ = [some (.ref b),some (.ref t),v2,some (.int x),some (.int y),v5]) (0 <= x) (x <= 1000) (SameB b H H4) (BoxAt H4 b (n + 1 + 1 + 1)):Prop)
theorem WD {f:Addr} {fd:FuncData} (F:Fun K "_law_place" "_law_place" (zp 22) f fd) (B:Blt mg) (D_take:Dfn P w K mg base "_law_take" 1 ["_law_box_here", "_law_size"] jE):qA P w K mg base CX0 2 f fd ["_law_box_here", "_law_taken"] (vm K):=by
  have nd:=JM.nd
  refine F.ok JM (fun vs H Q E h=>?_) (fun cdv A outer s H vs Q E hr h=>?_)
  · obtain ⟨b,t,n,as,rfl,_⟩:=h
    rfl
  · obtain ⟨b,t,n,as,rfl,B0,hn,ntb,ht,hal,pa,k⟩:=h
    have hu64:=hr.units
    have e62:(2:Int) ^ 62 = 4611686018427387904:=by decide
    have el:(as.map V.ref).length = as.length:=List.length_map ..
    refine ⟨_,(ze (zv (i:=2) nd rfl (Or.inl rfl) (j8 (zw jg (zj D_take (hr.mono (by decide)) rfl (za (pv 0) (za zg zd))) zg (zB _)) zg zg))
      (ze (Ja (i:=3) (j:=4) rfl nd rfl rfl (by decide) rfl rfl (za (zj D_take (hr.mono (by decide)) rfl (za (pv 0) (za (pv 2) zd))) (za (zj D_take (hr.mono (by decide)) rfl (za (pv 0) (za (pv 2) zd))) zd)) (by rfl))
      (ze (zU PassesOwn.never rfl (qe rfl B.range (za (zA qh (zr zI rfl B.len boot_len (za (pv 1) zd)) zg) zd)) (zn (i:=5) nd rfl (Or.inl rfl))
      (zm (jz (zw (YH hu64) (zO (za (pv 3) (za (pv 4) zd))) (pv 1) (by with_unfolding_all rfl))
        (zm (zv (i:=3) nd rfl (Or.inl rfl) (zA jG (zA qh (pv 3) zg) zg)))
        qM)))
      (zm (zE (zO (za (pv 3) (za (pv 4) zd)))))))),?_⟩
    refine ⟨_,rfl,b,4,n,rfl,B0,by omega,by decide,by decide,fun r H1 r0 r1 B1 S1=>⟨rfl,_,rfl,qO (fun c=>?_) (fun c=>?_)⟩⟩
    all_goals
      refine ⟨_,rfl,_,rfl,b,_,n + 1,rfl,B1,by omega,by decide,by decide,fun x H2 x0 x1 B2 S2=>⟨_,rfl,_,rfl,b,_,n + 1 + 1,rfl,B2,by omega,by decide,by decide,fun y H3 y0 y1 B3 S3=>⟨_,_,rfl,?_⟩⟩⟩
      have S4:=S1.trans (S2.trans S3)
      have ht3:=S4 t _ ht ntb
      refine ⟨_,rfl,t,_,rfl,.inl (SqL.of ht3),_,_,rfl,rfl,_,rfl,(by rw [e62,el];omega),(by rw [e62,el];omega),?_⟩
      refine qK (XR b t y H n) ⟨_,none,x,rfl,x0,by omega,S4,B3⟩ ?_ ?_
      · rintro i σ H4 _ ⟨v2,v5,x,rfl,x0',x1',S5,B5⟩
        refine ⟨_,rfl,_,rfl,le2,fun p hp=>⟨_,rfl,p,t,_,_,rfl,rfl,SqT.of zb,rfl,SqL.of ((S5.new hp) t _ ht ntb),fun v hv=>?_,fun q=>⟨_,rfl,qO (fun d=>?_) (fun d=>?_)⟩⟩⟩
        · obtain ⟨c,hc,rfl⟩:=List.mem_map.mp hv
          obtain ⟨cx,cy,hcc,_⟩:=(pa c hc).draw B0 (S5.new (o:=.tup [.int x,.int y]) hp)
          exact ⟨c,_,rfl,SqT.of hcc,rfl⟩
        · exact ⟨_,rfl,_,_,rfl,rfl,_,_,rfl,rfl,(by show (0:Int) < 1001;decide),_,_,_,rfl,Int.emod_nonneg _ (by decide),by have:=Int.emod_lt_of_pos (x + 1) (by decide:(0:Int) < 1001);omega,S5.new hp,B5.new hp⟩
        · exact ⟨_,_,x,rfl,x0',x1',S5.new hp,B5.new hp⟩
      · rintro σ H4 ⟨v2,v5,x,rfl,x0',x1',S5,B5⟩
        have B6:BoxAt H4 b (n + 3):=by
          have e:n + 3 = n + 1 + 1 + 1:=by omega
          rw [e];exact B5
        exact ⟨_,rfl,_,rfl,le2,fun p hp=>k p _ (S5.new hp) (B6.new hp) (S5.none hp (B5.nne hp)) ⟨x,y,zb,x0',x1',y0,by omega⟩⟩
inductive wK (vs:List V) (H:Hp) (Q:VK):Prop
  | mk (b:Addr) (m n:Int) (_:vs = [.ref b,.int m]) (_:BoxAt H b n) (_:n < 1000000) (_:0 <= m) (_:m <= 100) (_:∀ (l:Addr) (as:List Addr) H',SameB b H H' -> BoxAt H' b (n + 400) -> l ≠ b -> H l = none -> H' l = some (.lst (as.map V.ref)) -> (∀ a ∈ as,PlA H' a) -> (as.length:Int) = m -> Q (.ref l) H'):wK  vs H Q
def wL:Sp:=fun vs H Q _=>wK  vs H Q
theorem Qe:zy ["_law_box_here", "_law_many", "_law_found", "_law_k"] ["_law_box_here", "_law_many"] (zt (zp 23)):=⟨rfl,rfl,rfl,by decide +kernel,rfl,by decide +kernel,by decide +kernel⟩
def XQ (b:_) (m:_) (l:_) (H:_) (n:_):=fun (i:Nat) (σ:St) (H4:Hp)=>(Ex2 fun (as:List Addr) (v3:Option V)=>An6 (σ = [some (.ref b),some (.int m),some (.ref l),v3]) (SameB b H H4) (BoxAt H4 b (n + 3 * i)) (H4 l = some (.lst (as.map V.ref))) ((∀ a ∈ as,PlA H4 a)) (as.length = i):Prop)
theorem Vk {f:Addr} {fd:FuncData} (F:Fun K "_law_places" "_law_places" (zp 23) f fd) (B:Blt mg) (D_place:Dfn P w K mg base "_law_place" 2 ["_law_box_here", "_law_taken"] (vm K)):qA P w K mg base CX0 3 f fd ["_law_box_here", "_law_many"] wL:=by
  have nd:=Qe.nd
  refine F.ok Qe (fun vs H Q E h=>?_) (fun cdv A outer s H vs Q E hr h=>?_)
  · obtain ⟨b,m,n,rfl,_⟩:=h
    rfl
  · obtain ⟨b,m,n,rfl,B0,hn,m0,m1,k⟩:=h
    have hbig:100000 < sizeLine:=by rw [sizeLine_eq];decide
    have e62:(2:Int) ^ 62 = 4611686018427387904:=by decide
    refine ⟨_,(ze (zv (i:=2) nd rfl (Or.inl rfl) (zJ zd))
      (ze (zU PassesOwn.never rfl (qe rfl B.range (za (pv 1) zd)) (zn (i:=3) nd rfl (Or.inl rfl))
      (zm (qk (jn PySem.F.plainAttrs_list PySem.F.slot_list_append PySem.F.type_list_append zV (pv 2) (za (zj D_place (hr.mono (by decide)) rfl (za (pv 0) (za (pv 2) zd))) zd)))))
      (zm (zE (pv 2))))),?_⟩
    refine ⟨le0,fun l hl=>?_⟩
    have nl:=B0.nne hl
    refine ⟨_,rfl,_,rfl,(by rw [e62];omega),(by rw [e62];omega),?_⟩
    refine qK (XQ b m l H n) ⟨[],_,rfl,(SameB.refl b H).new hl,(B0.new hl).mono (by omega),zb,(fun x h=>nomatch h),rfl⟩ ?_ ?_
    · rintro i σ H4 hi ⟨as,v3,rfl,S4,B4,L4,P4,asl⟩
      refine ⟨_,rfl,.inl ⟨rfl,_,SqL.of L4⟩,_,rfl,_,rfl,b,l,_,as,rfl,B4,by omega,nl,L4,by omega,P4,fun p H5 S5 B5 pN pp=>⟨l,_,_,rfl,rfl,S5 l _ L4 nl,by rw [List.length_map,asl];omega,?_⟩⟩
      have L5:=S5 l _ L4 nl
      have keep:∀ {a:Addr},PlA H5 a -> PlA (upd H5 l (.lst (as.map V.ref ++ [.ref p]))) a:=fun {a} h=>by
        obtain ⟨x,y,e,r⟩:=h
        exact ⟨x,y,by rw [zi (J5 e L5 (by intro z;cases z))];exact e,r⟩
      refine ⟨as ++ [p],_,rfl,(S4.trans S5).put hl,(B5.other nl).mono (by omega),by rw [zb,List.map_append];rfl,fun a ha=>?_,by rw [List.length_append,asl];rfl⟩
      rcases List.mem_append.mp ha with q | q
      · exact keep ((P4 a q).draw B4 S5)
      · rw [List.mem_singleton.mp q];exact keep pp
    · rintro σ H4 ⟨as,v3,rfl,S4,B4,L4,P4,asl⟩
      exact ⟨_,rfl,k l as H4 S4 (B4.mono (by omega)) nl hl L4 P4 (by omega)⟩
inductive Z8 (K:PySem.W.Frag) (vs:List V) (H:Hp) (Q:VK):Prop
  | mk (b a:Addr) (n:Int) (xs:List V) (_:vs = [.ref b,.ref a]) (_:BoxAt H b n) (_:n < 1000000) (_:a ≠ b) (_:H a = some (.lst xs)) (_:xs.length <= 1000) (_:∀ (l:Addr) (ys:List V) H',SameB b H H' -> BoxAt H' b (n + xs.length) -> l ≠ b -> H l = none -> H' l = some (.lst ys) -> ys.Perm xs -> Q (.ref l) H'):Z8 K vs H Q
def wJ (K:PySem.W.Frag):Sp:=fun vs H Q _=>Z8 K vs H Q
theorem Wb:zy ["_law_box_here", "_law_some", "_law_found", "_law_one"] ["_law_box_here", "_law_some"] (zt (zp 24)):=⟨rfl,rfl,rfl,by decide +kernel,rfl,by decide +kernel,by decide +kernel⟩
def XO (b:_) (a:_) (l:_) (H:_) (n:_) (xs:List V):=fun (i:Nat) (σ:St) (H4:Hp)=>(Ex2 fun (ys:List V) (v3:Option V)=>An6 (σ = [some (.ref b),some (.ref a),some (.ref l),v3]) (SameB b H H4) (BoxAt H4 b (n + i)) (H4 a = some (.lst xs)) (H4 l = some (.lst ys)) (ys.Perm (xs.take i)):Prop)
theorem YK {f:Addr} {fd:FuncData} (F:Fun K "_law_shuffled" "_law_shuffled" (zp 24) f fd) (B:Blt mg) (D_take:Dfn P w K mg base "_law_take" 1 ["_law_box_here", "_law_size"] jE):qA P w K mg base CX0 2 f fd ["_law_box_here", "_law_some"] (wJ K):=by
  have nd:=Wb.nd
  refine F.ok Wb (fun vs H Q E h=>?_) (fun cdv A outer s H vs Q E hr h=>?_)
  · obtain ⟨b,a,n,xs,rfl,_⟩:=h
    rfl
  · obtain ⟨b,a,n,xs,rfl,B0,hn,nab,ha,hxl,k⟩:=h
    have hbig:100000 < sizeLine:=by rw [sizeLine_eq];decide
    have e62:(2:Int) ^ 62 = 4611686018427387904:=by decide
    refine ⟨_,(ze (zv (i:=2) nd rfl (Or.inl rfl) (zJ zd))
      (ze (zU PassesOwn.never rfl (zL (pv 1)) (zn (i:=3) nd rfl (Or.inl rfl))
      (zm (qk (jn PySem.F.plainAttrs_list PySem.F.slot_list_insert PySem.F.type_list_insert Vo (pv 2) (za (zj D_take (hr.mono (by decide)) rfl (za (pv 0) (za (zA qh (zr zI rfl B.len boot_len (za (pv 2) zd)) zg) zd))) (za (pv 3) zd))))))
      (zm (zE (pv 2))))),?_⟩
    refine ⟨le0,fun l hl=>?_⟩
    have nl:=B0.nne hl
    have nal:a ≠ l:=zf ha hl
    refine ⟨_,rfl,a,rfl,⟨_,SqL.of ((zc hl) _ _ ha)⟩,qL (K:=K) (a:=a) (xs:=xs) (XO b a l H n xs)
      ⟨[],_,rfl,(SameB.refl b H).new hl,(B0.new hl).mono (by omega),(zc hl) _ _ ha,zb,.nil⟩ (fun i σ H4 _ ⟨_,_,_,_,_,h,_,_⟩=>SqL.of h) ?_ ?_⟩
    · rintro i x σ H4 hx ⟨ys,v3,rfl,S4,B4,A4,L4,pm⟩
      have hi:=(List.getElem?_eq_some_iff.mp hx).1
      have yl:ys.length = i:=by rw [pm.length_eq,List.length_take];omega
      refine ⟨_,rfl,.inl ⟨rfl,_,SqL.of L4⟩,_,rfl,_,rfl,l,_,rfl,.inl (SqL.of L4),_,_,rfl,rfl,b,_,_,rfl,B4,by omega,by omega,by omega,fun q H5 q0 q1 B5 S5=>⟨_,rfl,?_⟩⟩
      refine ⟨l,ys,q,x,rfl,rfl,S5 l _ L4 nl,q0,by rw [e62];omega,by omega,?_⟩
      refine ⟨_,_,rfl,(S4.trans S5).put hl,(B5.other nl).mono (by omega),by rw [zi nal];exact S5 a _ A4 nab,zb,?_⟩
      have e1:xs.take (i + 1) = xs.take i ++ [x]:=by
        obtain ⟨h1,h2⟩:=List.getElem?_eq_some_iff.mp hx
        rw [<- h2,List.take_append_getElem]
      rw [e1]
      refine List.perm_middle.trans ?_
      rw [List.take_append_drop]
      exact ((List.Perm.cons x pm).trans (List.perm_append_singleton x _).symm)
    · rintro σ H4 ⟨ys,v3,rfl,S4,B4,A4,L4,pm⟩
      rw [List.take_length] at pm
      exact ⟨_,rfl,k l ys H4 S4 B4 nl hl L4 pm⟩
end
def SameT (H H':Hp):Prop:=∀ a u,H a = some u -> (∀ xs,u ≠ .lst xs) -> (∀ kvs,u ≠ .dK kvs) -> H' a = some u
theorem SameT.refl (H:Hp):SameT H H:=fun _ _ e _ _=>e
theorem SameT.trans {H H1 H2:Hp} (a:SameT H H1) (b:SameT H1 H2):SameT H H2:=fun c u e h i=>b c u (a c u e h i) h i
theorem SameT.of {H H':Hp} (s:Same H H'):SameT H H':=fun a u e _ _=>s a u e
theorem SameT.draw {H H':Hp} {b:Addr} {n:Int} (B:BoxAt H b n) (s:SameB b H H'):SameT H H':=fun a u e h _=>by
  obtain ⟨b0,b1,b2,eb,_⟩:=B
  exact s a u e (fun z=>by rw [z,eb] at e;cases e;exact h _ rfl)
theorem SameT.put {H:Hp} {l:Addr} {xs ys:List V} (h:H l = some (.lst xs)):SameT H (upd H l (.lst ys)):=fun a u e hu _=>by
  rw [zi (fun z=>by rw [z,h] at e;cases e;exact hu _ rfl)];exact e
theorem SameT.putD {H:Hp} {l:Addr} {kvs:List (Key × V)} {o:HO} (h:H l = some (.dK kvs)):SameT H (upd H l o):=fun a u e _ hu=>by
  rw [zi (fun z=>by rw [z,h] at e;cases e;exact hu _ rfl)];exact e
mutual
def Dat.imm:Dat -> Bool
  | .lst _=>false
  | .tup ds=>Dat.imms ds
  | _=>true
def Dat.imms:List Dat -> Bool
  | []=>true
  | d :: ds=>d.imm && Dat.imms ds
end
section
variable {P:Program} {w:World} {K:PySem.W.Frag} {mg:Str -> Option Value} {base:Heap}
theorem SqT.keep {H H':Hp} {a:Addr} {xs:List V} (q:SqT K H a xs) (s:SameT H H'):SqT K H' a xs:=by
  rcases q with (q | ⟨o,q⟩) | q
  · exact .inl (.inl (s a _ q (fun z h=>nomatch h) (fun z h=>nomatch h)))
  · exact .inl (.inr ⟨o,s a _ q (fun z h=>nomatch h) (fun z h=>nomatch h)⟩)
  · exact .inr q
mutual
theorem Rep.keep {H H':Hp} (s:SameT H H'):∀ {d:Dat} {v:V},d.imm = true -> Rep K H d v -> Rep K H' d v
  | .non,_,_,h=>h
  | .bl _,_,_,h=>h
  | .int _,_,_,h=>h
  | .str _,_,_,h=>h
  | .lst _,_,i,_=>by cases i
  | .tup ds,_,i,h=>by
    obtain ⟨a,xs,e,q,r⟩:=h
    exact ⟨a,xs,e,q.keep s,Reps.keep s (ds:=ds) i r⟩
theorem Reps.keep {H H':Hp} (s:SameT H H'):∀ {ds:List Dat} {xs:List V},Dat.imms ds = true -> Reps K H ds xs -> Reps K H' ds xs
  | [],_,_,h=>h
  | d :: ds,_,i,h=>by
    obtain ⟨x,r,e,h1,h2⟩:=h
    have i':(d.imm && Dat.imms ds) = true:=i
    rw [Bool.and_eq_true] at i'
    exact ⟨x,r,e,Rep.keep s i'.1 h1,Reps.keep s i'.2 h2⟩
end
theorem Reps.snoc {H:Hp} {d:Dat} {v:V} (h:Rep K H d v):∀ {ds:List Dat} {xs:List V},Reps K H ds xs -> Reps K H (ds ++ [d]) (xs ++ [v])
  | [],_,e=>by rw [show _ = _ from e];exact ⟨v,[],rfl,h,rfl⟩
  | _ :: _,_,e=>by
    obtain ⟨x,r,e1,h1,h2⟩:=e
    subst e1
    exact ⟨x,r ++ [v],rfl,h1,Reps.snoc h h2⟩
end
theorem vt {α β:Type} {f:α -> β} {ys ws:List β} (h:ys.Perm ws):∀ {xs:List α},ws = xs.map f -> ∃ zs:List α,zs.Perm xs /\ ys = zs.map f:=by
  induction h with
  | nil=>
    intro xs e
    have:xs = []:=by simpa using e.symm
    exact ⟨[],by rw [this],rfl⟩
  | @cons x l1 l2 p ih=>
    intro xs e
    cases xs with
    | nil=>simp at e
    | cons a as=>
      rw [List.map_cons] at e
      injection e with e1 e2
      obtain ⟨zs,p1,p2⟩:=ih e2
      exact ⟨a :: zs,p1.cons a,by rw [List.map_cons,<- p2,<- e1]⟩
  | swap x y l=>
    intro xs e
    cases xs with
    | nil=>simp at e
    | cons a as=>
      cases as with
      | nil=>simp at e
      | cons c cs=>
        rw [List.map_cons,List.map_cons] at e
        injection e with e1 e2
        injection e2 with e2 e3
        exact ⟨c :: a :: cs,.swap a c cs,by rw [List.map_cons,List.map_cons,<- e1,<- e2,<- e3]⟩
  | trans p q ih1 ih2=>
    intro xs e
    obtain ⟨zs,p1,p2⟩:=ih2 e
    obtain ⟨us,p3,p4⟩:=ih1 p2
    exact ⟨us,p3.trans p1,p4⟩
def zZ (p:Nat × Nat):Dat:=.tup [.int p.1,.int p.2]
def vH (as:List (Nat × Nat)):Dat:=.tup (as.map zZ)
theorem zG:∀ (as:List (Nat × Nat)),Dat.imms (as.map zZ) = true
  | []=>rfl
  | p :: as=>by
    show (Dat.imm (zZ p) && Dat.imms (as.map zZ)) = true
    rw [zG as];rfl
def ByOrd (ord:List Nat) (as:List (Nat × Nat)):Prop:=∀ p ∈ as,∃ k l:Nat,k < l /\ ord[k]? = some p.1 /\ ord[l]? = some p.2
section
variable {P:Program} {w:World} {K:PySem.W.Frag} {mg:Str -> Option Value} {base:Heap}
theorem Reps.take {H:Hp}:∀ (n:Nat) {ds:List Dat} {xs:List V},Reps K H ds xs -> Reps K H (ds.take n) (xs.take n)
  | 0,_,_,_=>rfl
  | n + 1,[],_,h=>by rw [show _ = _ from h];exact rfl
  | n + 1,d :: ds,_,h=>by
    obtain ⟨x,r,e,h1,h2⟩:=h
    subst e
    exact ⟨x,r.take n,rfl,h1,Reps.take n h2⟩
theorem Reps.app {H:Hp}:∀ {ds es:List Dat} {xs ys:List V},Reps K H ds xs -> Reps K H es ys -> Reps K H (ds ++ es) (xs ++ ys)
  | [],_,_,_,h,h'=>by rw [show _ = _ from h];exact h'
  | d :: ds,_,_,_,h,h'=>by
    obtain ⟨x,r,e,h1,h2⟩:=h
    subst e
    exact ⟨x,r ++ _,rfl,h1,Reps.app h2 h'⟩
inductive wM (K:PySem.W.Frag) (vs:List V) (H:Hp) (Q:VK):Prop
  | mk (b:Addr) (m n:Int) (_:vs = [.ref b,.int m]) (_:BoxAt H b n) (_:n < 1000000) (_:0 <= m) (_:m <= 100) (_:∀ (p:Addr) (as:List (Nat × Nat)) (ord:List Nat) H',SameB b H H' -> BoxAt H' b (n + 800) -> Rep K H' (vH as) (.ref p) -> ord.Perm (List.range m.toNat) -> ByOrd ord as -> as.length <= 300 -> Q (.ref p) H'):wM K vs H Q
def wN (K:PySem.W.Frag):Sp:=fun vs H Q _=>wM K vs H Q
theorem Qf:zy ["_law_box_here", "_law_many", "_law_order_here", "_law_found", "_law_turn", "_law_k"] ["_law_box_here", "_law_many"] (zt (zp 26)):=⟨rfl,rfl,rfl,by decide +kernel,rfl,by decide +kernel,by decide +kernel⟩
theorem zcf {m r:Int} (h:0 <= r) (h':r < 4) (m2:2 <= m) (m1:m <= 100):∃ z:Int,atI [V.int 1,V.int 4,V.int 13,V.int (2 * m)] r = some (.int z) /\ 1 <= z /\ z <= 200:=by
  have hc:r = 0 \/ r = 1 \/ r = 2 \/ r = 3:=by omega
  rcases hc with rfl | rfl | rfl | rfl
  · exact ⟨1,rfl,by omega,by omega⟩
  · exact ⟨4,rfl,by omega,by omega⟩
  · exact ⟨13,rfl,by omega,by omega⟩
  · exact ⟨2 * m,rfl,by omega,by omega⟩
theorem Wx {ord:List Nat} {i:Int} (h:0 <= i) (h':i < ord.length):∃ x:Nat,atI (ord.map fun i:Nat=>V.int (i:Int)) i = some (.int (x:Int)) /\ ord[i.toNat]? = some x:=by
  obtain ⟨v,e1,e2⟩:=yo (xs:=ord.map fun i:Nat=>V.int (i:Int)) h (by rw [List.length_map];exact h')
  rw [List.getElem?_map] at e2
  obtain ⟨x,hx,rfl⟩:=Option.map_eq_some_iff.mp e2
  exact ⟨x,e1,hx⟩
def XN (b:_) (m:_) (o:_) (R:_) (H:_) (n:_) (ord:_) (K:_):=fun (i:Nat) (σ:St) (H5:Hp)=>(Ex4 fun (as:List (Nat × Nat)) (xs:List V) (v4 v5:Option V)=>An8 (σ = [some (.ref b),some (.int m),some (.ref o),some (.ref R),v4,v5]) (SameB b H H5) (BoxAt H5 b (n + 110 + 2 * i)) (H5 o = some (.lst (ord.map fun i:Nat=>V.int (i:Int)))) (H5 R = some (.lst xs)) (Reps K H5 (as.map zZ) xs) (ByOrd ord as) (as.length = i):Prop)
theorem Vl {f:Addr} {fd:FuncData} (F:Fun K "_law_aheads" "_law_aheads" (zp 26) f fd) (B:Blt mg) (D_take:Dfn P w K mg base "_law_take" 1 ["_law_box_here", "_law_size"] jE) (D_shuffled:Dfn P w K mg base "_law_shuffled" 2 ["_law_box_here", "_law_some"] (wJ K)):qA P w K mg base CX0 3 f fd ["_law_box_here", "_law_many"] (wN K):=by
  have nd:=Qf.nd
  refine F.ok Qf (fun vs H Q E h=>?_) (fun cdv A outer s H vs Q E hr h=>?_)
  · obtain ⟨b,m,n,rfl,_⟩:=h
    rfl
  · obtain ⟨b,m,n,rfl,B0,hn,m0,m1,k⟩:=h
    have hbig:100000 < sizeLine:=by rw [sizeLine_eq];decide
    have e62:(2:Int) ^ 62 = 4611686018427387904:=by decide
    refine ⟨_,(ze (Ja (i:=2) (j:=3) rfl nd rfl rfl (by decide) rfl rfl (za (zj D_shuffled (hr.mono (by decide)) rfl (za (pv 0) (za (vv rfl rfl B.list rfl B.range qQ (za (pv 1) zd)) zd))) (za (zJ zd) zd)) (by rfl))
      (ze (jz (zw JZ (pv 1) zg (zB _))
      (zm (zE (zO zd)))
      qM)
      (ze (zU PassesOwn.never rfl (qe rfl B.range (za (zj D_take (hr.mono (by decide)) rfl (za (pv 0) (za (zx zD (zJ (za zg (za zg (za zg (za (zA jO zg (pv 1)) zd))))) (zj D_take (hr.mono (by decide)) rfl (za (pv 0) (za zg zd))) (fun _ _=>rfl)) zd))) zd)) (zn (i:=4) nd rfl (Or.inl rfl))
      (ze (zv (i:=5) nd rfl (Or.inl rfl) (zj D_take (hr.mono (by decide)) rfl (za (pv 0) (za (zA xC (pv 1) zg) zd))))
        (zm (qk (jn PySem.F.plainAttrs_list PySem.F.slot_list_append PySem.F.type_list_append zV (pv 3) (za (zO (za (zx zD (pv 2) (pv 5) (fun _ _=>rfl)) (za (zx zD (pv 2) (zA qh (zA qh (pv 5) zg) (zj D_take (hr.mono (by decide)) rfl (za (pv 0) (za (zA xC (zA xC (pv 1) zg) (pv 5)) zd)))) (fun _ _=>rfl)) zd))) zd))))))
      (zm (zE (zM zY rfl B.tuple qz (za (zA ZJ (pv 3) (wQ ZF (pv 3) JW (wz (zM wb rfl B.int vF (za (qN jg (zj D_take (hr.mono (by decide)) rfl (za (pv 0) (za zg zd))) zg (zB _)) zd))))) zd))))))),?_⟩
    refine ⟨_,rfl,_,rfl,m,rfl,m0,by omega,fun l0 h0=>?_⟩
    have len0:((List.range m.toNat).map fun i:Nat=>V.int (i:Int)).length = m.toNat:=by rw [List.length_map,List.length_range]
    refine ⟨b,l0,n,_,rfl,B0.new h0,by omega,B0.nne h0,zb,by rw [len0];omega,fun o ys H1 S1 B1 no oN ho pm=>⟨le0,fun R hR=>⟨_,_,rfl,?_⟩⟩⟩
    obtain ⟨ord,op,rfl⟩:=vt pm rfl
    have ol:ord.length = m.toNat:=by rw [op.length_eq,List.length_range]
    rw [len0] at B1
    have nR:=B1.nne hR
    have oR:o ≠ R:=zf ho hR
    have S1':=((SameB.refl b H).new h0).trans S1
    have RH:H R = none:=S1'.none hR nR
    have S2:=S1'.new (o:=.lst []) hR
    have B2:=B1.new (o:=.lst []) hR
    have O2:=(zc (o:=.lst []) hR) _ _ ho
    have R2:upd H1 R (.lst []) R = some (.lst []):=zb
    generalize upd H1 R (.lst []) = H2 at S2 B2 O2 R2
    refine ⟨_,rfl,_,_,rfl,rfl,_,rfl,qO (fun c=>?_) (fun c=>?_)⟩
    · exact ⟨le0,fun p hp=>k p [] ord _ (S2.new hp) ((B2.new hp).mono (by omega)) ⟨p,[],rfl,SqT.of zb,rfl⟩ op (fun p h=>nomatch h) (Nat.zero_le _)⟩
    have m2:2 <= m:=by
      have:¬ m < 2:=fun z=>c (decide_eq_true z)
      omega
    refine ⟨_,rfl,_,rfl,_,_,rfl,rfl,.inl ⟨by decide,by decide⟩,le4,fun l1 h1=>⟨_,rfl,b,4,_,rfl,B2.new h1,by omega,by decide,by decide,fun r H3 r0 r1 B3 S3=>?_⟩⟩
    have L3:=S3 l1 _ zb (B2.nne h1)
    obtain ⟨z,ez,z0,z1⟩:=zcf r0 r1 m2 m1
    refine ⟨l1,_,_,_,rfl,rfl,SqL.of L3,ez,b,z,_,rfl,B3,by omega,by omega,by omega,fun cnt H4 c0 c1 B4 S4=>⟨_,rfl,(by rw [e62];omega),(by rw [e62];omega),?_⟩⟩
    have U4:=((SameB.refl b H2).new h1).trans (S3.trans S4)
    have S4':=S2.trans U4
    have O4:=U4 _ _ O2 no
    have R4:=U4 _ _ R2 nR
    clear S2 B2 O2 R2 S3 S4 U4 L3 h1 B3
    refine qK (XN b m o R H n ord K)
      ⟨[],[],_,_,rfl,S4',B4.mono (by omega),O4,R4,rfl,(fun p h=>nomatch h),rfl⟩ ?_ ?_
    · rintro i σ H5 hi ⟨as,xs,v4,v5,rfl,S5,B5,O5,R5,rp,bo,asl⟩
      have xl:xs.length = i:=by rw [rp.len,List.length_map,asl]
      refine ⟨_,rfl,_,rfl,_,_,rfl,rfl,b,_,_,rfl,B5,by omega,by omega,by omega,fun kk H6 k0 k1 B6 S6=>?_⟩
      have O6:=S6 _ _ O5 no
      obtain ⟨x1,ex1,ox1⟩:=Wx (ord:=ord) k0 (by omega)
      refine ⟨_,rfl,.inl ⟨rfl,_,SqL.of (S6 _ _ R5 nR)⟩,_,rfl,_,rfl,o,_,_,_,rfl,rfl,SqL.of O6,ex1,?_⟩
      refine ⟨_,rfl,_,rfl,_,_,rfl,rfl,_,rfl,_,rfl,_,_,rfl,rfl,_,rfl,_,_,rfl,rfl,b,_,_,rfl,B6,by omega,by omega,by omega,fun q H7 q0 q1 B7 S7=>⟨_,_,rfl,rfl,?_⟩⟩
      have O7:=S7 _ _ O6 no
      have R7:=S7 _ _ (S6 _ _ R5 nR) nR
      obtain ⟨x2,ex2,ox2⟩:=Wx (ord:=ord) (i:=kk + 1 + q) (by omega) (by omega)
      refine ⟨o,_,_,_,rfl,rfl,SqL.of O7,ex2,le2,fun T hT=>⟨R,xs,.ref T,rfl,rfl,(zc hT) _ _ R7,by omega,?_⟩⟩
      have R8:=(zc (o:=.tup [.int (x1:Int),.int (x2:Int)]) hT) _ _ R7
      have st:SameT H5 (upd (upd H7 T (.tup [.int (x1:Int),.int (x2:Int)])) R (.lst (xs ++ [.ref T]))):=((SameT.draw B5 (S6.trans S7)).trans (.of (zc hT))).trans (.put R8)
      refine ⟨as ++ [(x1,x2)],_,_,_,rfl,(((S5.trans S6).trans S7).new hT).put RH,((B7.new hT).other nR).mono (by omega),by rw [zi oR];exact (zc hT) _ _ O7,zb,?_,fun pq hpq=>?_,by rw [List.length_append,asl];rfl⟩
      · rw [List.map_append]
        refine Reps.snoc ?_ (Reps.keep st (zG as) rp)
        refine ⟨T,_,rfl,SqT.of ?_,_,_,rfl,rfl,_,_,rfl,rfl,rfl⟩
        rw [zi (fun zz=>by rw [zz,R7] at hT;cases hT)]
        exact zb
      · rcases List.mem_append.mp hpq with w1 | w1
        · exact bo pq w1
        · rw [List.mem_singleton.mp w1]
          exact ⟨kk.toNat,(kk + 1 + q).toNat,by omega,ox1,ox2⟩
    · rintro σ H5 ⟨as,xs,v4,v5,rfl,S5,B5,O5,R5,rp,bo,asl⟩
      have xl:xs.length = as.length:=by rw [rp.len,List.length_map]
      refine ⟨_,rfl,_,rfl,_,rfl,b,4,_,rfl,B5,by omega,by decide,by decide,fun r9 H6 r90 r91 B6 S6=>⟨rfl,.inr ⟨_,rfl,_,rfl,R,xs,rfl,SqL.of (S6 _ _ R5 nR),fun s1 hs1=>?_⟩⟩⟩
      have R6:=S6 _ _ R5 nR
      obtain ⟨t,et⟩:∃ t:Nat,j3 xs none (some (if decide (V.int r9 = V.int 0) = true then (1:Int) else 0)) = xs.take t /\ t <= 1:=by
        unfold j3
        by_cases hd:decide (V.int r9 = V.int 0) = true
        · rw [if_pos hd,show (some (1:Int)) = some ((1:Nat):Int) from rfl,HT.sIx_nat,HT.sIx_none]
          refine ⟨min 1 xs.length,by simp,by omega⟩
        · rw [if_neg hd,show (some (0:Int)) = some ((0:Nat):Int) from rfl,HT.sIx_nat,HT.sIx_none]
          refine ⟨0,by simp,by omega⟩
      rw [et.1]
      have st:SameT H5 H6:=.draw B5 S6
      have rp6:=Reps.keep st (zG as) rp
      have tl:(xs.take t).length <= 1:=by rw [List.length_take];omega
      refine ⟨R,s1,_,_,rfl,rfl,(zc hs1) _ _ R6,zb,by omega,fun c1 hc1=>⟨c1,_,rfl,.inl ⟨SqL.of zb,fun p hp=>?_⟩⟩⟩
      have sm:=((zc (o:=.lst (xs.take t)) hs1).trans (zc (o:=.lst (xs ++ xs.take t)) hc1)).trans (zc (o:=.tup (xs ++ xs.take t)) hp)
      refine k p (as ++ as.take t) ord _ ((((S5.trans S6).new hs1).new hc1).new hp) ((((B6.new hs1).new hc1).new hp).mono (by omega)) ⟨p,_,rfl,SqT.of zb,?_⟩ op (fun pq hpq=>?_) (by rw [List.length_append,List.length_take];omega)
      · have rp7:=Reps.keep (SameT.of sm) (zG as) rp6
        have rt:=Reps.take t rp7
        rw [<- List.map_take] at rt
        have:=Reps.app rp7 rt
        rw [<- List.map_append] at this
        exact this
      · rcases List.mem_append.mp hpq with w1 | w1
        · exact bo pq w1
        · exact bo pq (List.mem_of_mem_take w1)
end
structure ZW where
  k:Str
  x:Int
  y:Int
structure vN where
  k:Str
  x:Int
  y:Int
  m:Int
def jf (p:ZW):Dat:=.tup [.str p.k,.tup [.int p.x,.int p.y]]
def jJ (p:vN):Dat:=.tup [.str p.k,.tup [.int p.x,.int p.y],.int p.m]
theorem ju:∀ (as:List vN),Dat.imms (as.map jJ) = true
  | []=>rfl
  | p :: as=>by
    show (Dat.imm (jJ p) && Dat.imms (as.map jJ)) = true
    rw [ju as];rfl
theorem je:∀ (as:List ZW),Dat.imms (as.map jf) = true
  | []=>rfl
  | p :: as=>by
    show (Dat.imm (jf p) && Dat.imms (as.map jf)) = true
    rw [je as];rfl
def inP (x y:Int):Prop:=0 <= x /\ x <= 1000 /\ 0 <= y /\ y <= 1000
section
variable {P:Program} {w:World} {K:PySem.W.Frag} {mg:Str -> Option Value} {base:Heap}
inductive Qd (K:PySem.W.Frag) (vs:List V) (H:Hp) (Q:VK):Prop
  | mk (b ks ps:Addr) (pl:Bool) (n:Int) (kinds:List Str) (parts:List ZW) (_:vs = [.ref b,.ref ks,.ref ps,.bl pl]) (_:BoxAt H b n) (_:n < 900000) (_:ks ≠ b) (_:Row H ks kinds) (_:1 <= kinds.length) (_:kinds.length <= 12) (_:Rep K H (.tup (parts.map jf)) (.ref ps)) (_:parts.length <= 100) (_:∀ (p:Addr) (fs:List vN) (es:List Str) H',SameB b H H' -> BoxAt H' b (n + 400) -> Rep K H' (.tup (fs.map jJ)) (.ref p) -> (fs.map (·.k)).Perm (kinds ++ es) -> (∀ e ∈ es,e ∈ kinds) -> fs.length <= 40 -> (∀ f ∈ fs,Nm f.k /\ inP f.x f.y /\ 0 <= f.m /\ f.m <= 400) -> Q (.ref p) H'):Qd K vs H Q
def Q7 (K:PySem.W.Frag):Sp:=fun vs H Q _=>Qd K vs H Q
theorem Wh:zy ["_law_box_here", "_law_kinds", "_law_parts", "_law_plenty", "_law_great", "_law_more", "_law_some", "_law_found", "_law_kind", "_law_need", "_law_many"] ["_law_box_here", "_law_kinds", "_law_parts", "_law_plenty"] (zt (zp 25)):=⟨rfl,rfl,rfl,by decide +kernel,rfl,by decide +kernel,by decide +kernel⟩
theorem VQ {ns:List Str} {i:Int} (h:0 <= i) (h':i < ns.length):∃ x,atI (ns.map V.str) i = some (.str x) /\ x ∈ ns:=by
  obtain ⟨v,e1,e2⟩:=yo (xs:=ns.map V.str) h (by rw [List.length_map];exact h')
  rw [List.getElem?_map] at e2
  obtain ⟨x,hx,rfl⟩:=Option.map_eq_some_iff.mp e2
  exact ⟨x,e1,List.mem_of_getElem? hx⟩
theorem zce {a c r:Int} (h:0 <= r) (h':r < 3) (a0:0 <= a) (a1:a <= 400) (c0:0 <= c) (c1:c <= 400):∃ z:Int,atI [V.int a,V.int c,V.int 400] r = some (.int z) /\ 0 <= z /\ z <= 400:=by
  have hc:r = 0 \/ r = 1 \/ r = 2:=by omega
  rcases hc with rfl | rfl | rfl
  · exact ⟨a,rfl,a0,a1⟩
  · exact ⟨c,rfl,c0,c1⟩
  · exact ⟨400,rfl,by omega,by omega⟩
def XM (kinds:List Str) (b:_) (H2:_) (n:_):=fun (j:Nat) (zs:List V) (H3:Hp)=>(Ex1 fun (es:List Str)=>An5 (zs = es.map V.str) (es.length = j) ((∀ x ∈ es,x ∈ kinds)) (SameB b H2 H3) (BoxAt H3 b (n + 2 + j)):Prop)
theorem YQ {f:Addr} {fd:FuncData} (F:Fun K "_law_feeders" "_law_feeders" (zp 25) f fd) (B:Blt mg) (D_take:Dfn P w K mg base "_law_take" 1 ["_law_box_here", "_law_size"] jE) (D_shuffled:Dfn P w K mg base "_law_shuffled" 2 ["_law_box_here", "_law_some"] (wJ K)) (D_place:Dfn P w K mg base "_law_place" 2 ["_law_box_here", "_law_taken"] (vm K)):qA P w K mg base CX0 3 f fd ["_law_box_here", "_law_kinds", "_law_parts", "_law_plenty"] (Q7 K):=by
  have nd:=Wh.nd
  refine F.ok Wh (fun vs H Q E h=>?_) (fun cdv A outer s H vs Q E hr h=>?_)
  · obtain ⟨b,ks,ps,pl,n,kinds,parts,rfl,_⟩:=h
    rfl
  · obtain ⟨b,ks,ps,pl,n,kinds,parts,rfl,B0,hn,nk,Rk,k0,k1,hp,lp,k⟩:=h
    have hbig:100000 < sizeLine:=by rw [sizeLine_eq];decide
    have e62:(2:Int) ^ 62 = 4611686018427387904:=by decide
    have ek:(kinds.map V.str).length = kinds.length:=List.length_map ..
    refine ⟨_,(ze (zv (i:=4) nd rfl (Or.inl rfl) (qN jg (zj D_take (hr.mono (by decide)) rfl (za (pv 0) (za zg zd))) zg (zB _)))
      (ze (xQ (zv (i:=5) nd rfl (Or.inl rfl) (zj D_take (hr.mono (by decide)) rfl (za (pv 0) (za (j8 (xi (pv 4)) (zA xC zg (zr zI rfl B.len boot_len (za (pv 1) zd))) zg) zd)))))
      (ze (zv (i:=6) nd rfl (Or.inl rfl) (zA ZJ (pv 1) (jd ["_law_kinds", "_law_box_here"] [1,0] rfl rfl (by kernel_rfl) (qe rfl B.range (za (pv 5) zd)) (fun _ _ _ _=>qR) (fun _ _ _ _=>(zx (xb (K:=K) rfl) (pv 1) (zj D_take (hr.mono (by decide)) rfl (za (pv 2) (za (zr (j4 (K:=K) rfl) rfl B.len boot_len (za (pv 1) zd)) zd))) (fun _ _=>rfl))))))
      (ze (zv (i:=7) nd rfl (Or.inl rfl) (zJ zd))
      (ze (zU PassesOwn.never rfl (zL (zj D_shuffled (hr.mono (by decide)) rfl (za (pv 0) (za (pv 6) zd)))) (zn (i:=8) nd rfl (Or.inr rfl))
      (ze (zv (i:=9) nd rfl (Or.inl rfl) (zr zI rfl B.len boot_len (za (jd ["_law_kind"] [8] rfl rfl (by kernel_rfl) (jN (pv 2)) (fun _ _ _ _=>(qI (zw jg (zx (qZ (K:=K) rfl) (pv 0) zg (fun _ _=>rfl)) (pv 1) (zB _)))) (fun _ _ _ _=>(pv 0))) zd)))
        (ze (xQ (zv (i:=10) nd rfl (Or.inl rfl) (j8 (xi (pv 3)) (zx zD (zJ (za (pv 9) (za (zA qh (pv 9) (zj D_take (hr.mono (by decide)) rfl (za (pv 0) (za zg zd)))) (za zg zd)))) (zj D_take (hr.mono (by decide)) rfl (za (pv 0) (za zg zd))) (fun _ _=>rfl)) (zj D_take (hr.mono (by decide)) rfl (za (pv 0) (za zg zd))))))
        (zm (qk (jn PySem.F.plainAttrs_list PySem.F.slot_list_append PySem.F.type_list_append zV (pv 7) (za (zO (za (pv 8) (za (zj D_place (hr.mono (by decide)) rfl (za (pv 0) (za (zJ zd) zd))) (za (pv 10) zd)))) zd)))))))
      (zm (zE (zM zY rfl B.tuple qz (za (pv 7) zd))))))))),?_⟩
    refine ⟨_,rfl,b,8,n,rfl,B0,by omega,by decide,by decide,fun r H1 r0 r1 B1 S1=>⟨rfl,?_⟩⟩
    have Rk1:=Rk.draw S1 nk
    refine ⟨fun σ' H'=>Ex1 fun (more:Int)=>An5 (σ' = [some (.ref b),some (.ref ks),some (.ref ps),some (.bl pl),some (.bl (decide (V.int r = V.int 0))),some (.int more),none,none,none,none,none]) (0 <= more) (more <= 20) (SameB b H H') (BoxAt H' b (n + 2)),?_,?_⟩
    · refine ⟨_,rfl,_,rfl,_,rfl,qO (fun c=>?_) (fun c=>?_)⟩
      · exact ⟨_,rfl,ks,_,rfl,.inl (SqL.of Rk1.1),_,_,rfl,rfl,b,_,_,rfl,B1,by omega,by omega,by omega,fun more H2 a0 a1 B2 S2=>⟨_,rfl,a0,by omega,S1.trans S2,B2.mono (by omega)⟩⟩
      · exact ⟨b,4,_,rfl,B1,by omega,by decide,by decide,fun more H2 a0 a1 B2 S2=>⟨_,rfl,a0,by omega,S1.trans S2,B2.mono (by omega)⟩⟩
    rintro σ' H2 ⟨more,rfl,mo0,mo1,S2,B2⟩
    clear S1 B1 Rk1
    have Rk2:=Rk.draw S2 nk
    refine ⟨_,rfl,_,rfl,_,rfl,(by rw [e62];omega),(by rw [e62];omega),w8 (XM kinds b H2 n) ⟨[],rfl,rfl,(fun x h=>nomatch h),SameB.refl _ _,B2.mono (by omega)⟩ ?_ ?_⟩
    · rintro j zs H3 hj ⟨es,rfl,el,ee,S3,B3⟩
      refine ⟨rfl,⟨_,rfl,_,rfl,_,rfl,ks,_,rfl,.inl (SqL.of (Rk2.draw S3 nk).1),b,_,_,rfl,B3,by omega,by omega,by omega,fun q H4 q0 q1 B4 S4=>?_⟩⟩
      obtain ⟨y,ey,my⟩:=VQ (ns:=kinds) q0 (by omega)
      refine ⟨ks,_,_,_,rfl,rfl,SqL.of (Rk2.draw (S3.trans S4) nk).1,ey,by rw [List.length_map,el];omega,es ++ [y],by rw [List.map_append];rfl,by rw [List.length_append,el];rfl,fun x hx=>?_,S3.trans S4,B4.mono (by omega)⟩
      rcases List.mem_append.mp hx with pq | pq
      · exact ee x pq
      · rw [List.mem_singleton.mp pq];exact my
    rintro zs H3 ⟨es,rfl,el,ee,S3,B3⟩
    refine ⟨by rw [List.length_map,el];omega,fun D hD=>?_⟩
    have S3':=(S2.trans S3).new (o:=.lst (es.map V.str)) hD
    have Rk3:=(Rk2.draw S3 nk).same (zc (o:=.lst (es.map V.str)) hD)
    refine ⟨ks,D,_,_,rfl,rfl,Rk3.1,zb,by rw [ek,List.length_map,el];omega,fun sm hs=>?_⟩
    have B4:=(B3.new (o:=.lst (es.map V.str)) hD).new (o:=.lst (kinds.map V.str ++ es.map V.str)) hs
    have S4:=S3'.new (o:=.lst (kinds.map V.str ++ es.map V.str)) hs
    have ns:=(B3.new (o:=.lst (es.map V.str)) hD).nne hs
    have M4:upd (upd H3 D (.lst (es.map V.str))) sm (.lst (kinds.map V.str ++ es.map V.str)) sm = some (.lst ((kinds ++ es).map V.str)):=by rw [zb,List.map_append]
    generalize upd (upd H3 D (.lst (es.map V.str))) sm (.lst (kinds.map V.str ++ es.map V.str)) = H4 at B4 S4 M4
    clear S2 S3 S3' Rk2 Rk3 B2 B3 hD hs
    refine ⟨le0,fun R hR=>?_⟩
    have nR:=B4.nne hR
    have RH:H R = none:=S4.none hR nR
    have lenk:((kinds ++ es).map V.str).length <= 32:=by rw [List.length_map,List.length_append,el];omega
    refine ⟨_,rfl,_,rfl,b,sm,_,_,rfl,B4.new hR,by omega,ns,(zc hR) _ _ M4,by omega,fun l ys H5 S5 B5 nl lN hl pm=>?_⟩
    obtain ⟨sh,shp,rfl⟩:=vt pm rfl
    have S5':=(S4.new (o:=.lst []) hR).trans S5
    have R5:H5 R = some (.lst []):=S5 _ _ zb nR
    have lR:l ≠ R:=fun z=>by rw [z,zb] at lN;cases lN
    have shl:sh.length <= 32:=by rw [shp.length_eq];rw [List.length_map] at lenk;exact lenk
    have shn:∀ x ∈ sh,Nm x:=fun x hx=>by
      rcases List.mem_append.mp (shp.mem_iff.mp hx) with q | q
      · exact Rk.2 x q
      · exact Rk.2 x (ee x q)
    clear pm M4 S4 S5 B4 hR
    refine ⟨l,rfl,⟨_,SqL.of hl⟩,qL (K:=K) (a:=l) (xs:=sh.map V.str) (fun i σ H6=>Ex6 fun (fs:List vN) (xs:List V) (v6 v8 v9 v10:Option V)=>An8 (σ = [some (.ref b),some (.ref ks),some (.ref ps),some (.bl pl),some (.bl (decide (V.int r = V.int 0))),some (.int more),v6,some (.ref R),v8,v9,v10]) (SameB b H H6) (BoxAt H6 b (n + 60 + 6 * i)) (H6 l = some (.lst (sh.map V.str))) (H6 R = some (.lst xs)) (Reps K H6 (fs.map jJ) xs) (fs.map (·.k) = sh.take i) (∀ f ∈ fs,Nm f.k /\ inP f.x f.y /\ 0 <= f.m /\ f.m <= 400))
      ⟨[],[],_,_,_,_,rfl,S5',B5.mono (by omega),hl,R5,rfl,rfl,(fun f h=>nomatch h)⟩ (fun i σ H6 _ ⟨_,_,_,_,_,_,_,_,_,h,_,_,_,_⟩=>SqL.of h) ?_ ?_⟩
    · rintro i x σ H6 hx ⟨fs,xs,v6,v8,v9,v10,rfl,S6,B6,L6,R6,rp,fk,fa⟩
      rw [List.getElem?_map] at hx
      obtain ⟨kd,hkd,rfl⟩:=Option.map_eq_some_iff.mp hx
      have hi:=(List.getElem?_eq_some_iff.mp hkd).1
      have fl:fs.length = i:=by
        have:=congrArg List.length fk
        rw [List.length_map,List.length_take] at this
        omega
      have xl:xs.length = i:=by rw [rp.len,List.length_map,fl]
      have hp6:=Rep.keep (d:=.tup (parts.map jf)) (SameT.draw B0 S6) (je parts) hp
      obtain ⟨_,pxs,ep,hq,hps⟩:=hp6
      cases ep
      have pl':pxs.length = parts.length:=by rw [hps.len,List.length_map]
      refine ⟨_,rfl,ps,rfl,⟨_,hq⟩,jP (K:=K) (a:=ps) (xs:=pxs) (fun j zs H7=>zs.length <= j /\ Same H6 H7) ⟨Nat.le_refl _,Same.refl _⟩ (fun j zs H7 ⟨_,s7⟩=>s7.sqT hq) ?_ ?_⟩
      · rintro j v zs H7 hv ⟨zl,s7⟩
        have hj:=(List.getElem?_eq_some_iff.mp hv).1
        obtain ⟨d,hd,rd⟩:=hps.get hv
        rw [List.getElem?_map] at hd
        obtain ⟨pt,_,rfl⟩:=Option.map_eq_some_iff.mp hd
        obtain ⟨c,cxs,rfl,hc,u1,r1',e1,e2,e3⟩:=rd
        subst e1
        cases (show u1 = .str pt.k from e2)
        refine ⟨rfl,⟨_,rfl,c,_,_,.str pt.k,rfl,rfl,s7.sqT hc,qm (j:=0) rfl,_,rfl,rfl,_,rfl,qO (fun dd=>⟨_,rfl,by omega,by rw [List.length_append];simp;omega,s7⟩) (fun dd=>⟨by omega,s7⟩)⟩⟩
      rintro zs H7 ⟨zl,s7⟩
      refine ⟨by omega,fun D2 hD2=>⟨D2,zs,rfl,.inl (SqL.of zb),?_⟩⟩
      have s8:=s7.trans (zc (o:=.lst zs) hD2)
      have B8:=B6.same s8
      generalize upd H7 D2 (.lst zs) = H8 at s8 B8
      refine ⟨fun σ' H'=>Ex1 fun (many:Int)=>An5 (σ' = [some (.ref b),some (.ref ks),some (.ref ps),some (.bl pl),some (.bl (decide (V.int r = V.int 0))),some (.int more),v6,some (.ref R),some (.str kd),some (.int (zs.length:Int)),some (.int many)]) (0 <= many) (many <= 400) (SameB b H8 H') (BoxAt H' b (n + 60 + 6 * i + 2)),?_,?_⟩
      · refine ⟨_,rfl,_,rfl,qO (fun c=>?_) (fun c=>?_)⟩
        · refine ⟨_,rfl,_,rfl,_,rfl,b,9,_,rfl,B8,by omega,by decide,by decide,fun q9 H9 a0 a1 B9 S9=>⟨_,_,rfl,rfl,le3,fun l3 h3=>⟨_,rfl,b,3,_,rfl,B9.new h3,by omega,by decide,by decide,fun q3 H10 c0 c1 B10 S10=>?_⟩⟩⟩
          have L10:=S10 l3 _ zb (B9.nne h3)
          obtain ⟨z,ez,z0,z1⟩:=zce (a:=(zs.length:Int)) (c:=(zs.length:Int) + q9) c0 c1 (by omega) (by omega) (by omega) (by omega)
          exact ⟨l3,_,_,_,rfl,rfl,SqL.of L10,ez,z,rfl,z0,z1,(S9.new h3).trans S10,B10.mono (by omega)⟩
        · exact ⟨_,rfl,b,4,_,rfl,B8,by omega,by decide,by decide,fun q9 H9 a0 a1 B9 S9=>⟨q9,rfl,a0,by omega,S9,B9.mono (by omega)⟩⟩
      rintro σ' H9 ⟨many,rfl,y0,y1,S9,B9⟩
      have S9':=(SameB.of (b:=b) s8).trans S9
      have R9:=S9' _ _ R6 nR
      refine ⟨_,rfl,.inl ⟨rfl,_,SqL.of R9⟩,_,rfl,_,rfl,le0,fun e he=>⟨b,e,_,[],rfl,B9.new he,by omega,B9.nne he,zb,Nat.zero_le _,(fun a h=>nomatch h),fun pp H10 S10 B10 ppN pa=>⟨_,rfl,le3,fun T hT=>?_⟩⟩⟩
      obtain ⟨px,py,hpp,b1,b2,b3,b4⟩:=pa
      have R10:=S10 _ _ ((zc he) _ _ R9) nR
      have R11:=(zc (o:=.tup [.str kd,.ref pp,.int many]) hT) _ _ R10
      refine ⟨R,xs,.ref T,rfl,rfl,R11,by omega,?_⟩
      have S11:=(S9'.new he).trans (S10.new (o:=.tup [.str kd,.ref pp,.int many]) hT)
      have st:SameT H6 (upd (upd H10 T (.tup [.str kd,.ref pp,.int many])) R (.lst (xs ++ [.ref T]))):=(SameT.draw B6 S11).trans (.put R11)
      have TR:T ≠ R:=fun z=>by rw [z,R10] at hT;cases hT
      have ppR:pp ≠ R:=fun z=>by rw [z,R10] at hpp;cases hpp
      have ppT:pp ≠ T:=fun z=>by rw [z,hT] at hpp;cases hpp
      refine ⟨fs ++ [⟨kd,px,py,many⟩],_,_,_,_,_,rfl,(S6.trans S11).put RH,((B10.new hT).other nR).mono (by omega),by rw [zi lR];exact S11 _ _ L6 nl,zb,?_,?_,fun g hgm=>?_⟩
      · rw [List.map_append]
        refine Reps.snoc ?_ (Reps.keep st (ju fs) rp)
        refine ⟨T,_,rfl,SqT.of (by rw [zi TR];exact zb),_,_,rfl,rfl,_,_,rfl,⟨pp,_,rfl,SqT.of (by rw [zi ppR,zi ppT];exact hpp),_,_,rfl,rfl,_,_,rfl,rfl,rfl⟩,_,_,rfl,rfl,rfl⟩
      · rw [List.map_append,fk]
        obtain ⟨h1,h2⟩:=List.getElem?_eq_some_iff.mp hkd
        rw [<- List.take_append_getElem h1,h2]
        rfl
      · rcases List.mem_append.mp hgm with q | q
        · exact fa g q
        · rw [List.mem_singleton.mp q]
          exact ⟨shn kd (List.mem_of_getElem? hkd),⟨b1,b2,b3,b4⟩,y0,y1⟩
    · rintro σ H6 ⟨fs,xs,v6,v8,v9,v10,rfl,S6,B6,L6,R6,rp,fk,fa⟩
      rw [List.length_map,List.take_length] at fk
      have fl:fs.length <= 32:=by
        have:=congrArg List.length fk
        rw [List.length_map] at this
        omega
      refine ⟨_,rfl,R,xs,rfl,.inl ⟨SqL.of R6,fun p hp'=>?_⟩⟩
      refine k p fs es _ (S6.new hp') ((B6.new hp').mono (by rw [List.length_map] at *;omega)) ⟨p,_,rfl,SqT.of zb,Reps.keep (SameT.of (zc hp')) (ju fs) rp⟩ (by rw [fk];exact shp) ee (by omega) fa
end
structure Job where
  gx:Int
  gy:Int
  hd:Int
  fs:List vN
  ps:List ZW
  as:List (Nat × Nat)
def jQ (J:Job):Dat:=.tup [.tup [.int J.gx,.int J.gy],.int J.hd,.tup (J.fs.map jJ),.tup (J.ps.map jf),vH J.as]
theorem vz (J:Job):(jQ J).imm = true:=by
  show (true && (true && (Dat.imms (J.fs.map jJ) && (Dat.imms (J.ps.map jf) && (Dat.imms (J.as.map zZ) && true))))) = true
  rw [ju,je,zG];rfl
structure JobOk (J:Job) (ord:List Nat):Prop where
  gate:inP J.gx J.gy
  hd0:1 <= J.hd
  hd1:J.hd <= 4
  fl:J.fs.length <= 40
  fa:∀ f ∈ J.fs,Nm f.k /\ inP f.x f.y /\ 0 <= f.m /\ f.m <= 400
  pl:J.ps.length <= 60
  pa:∀ p ∈ J.ps,Nm p.k /\ inP p.x p.y /\ ∃ f ∈ J.fs,f.k = p.k
  op:ord.Perm (List.range J.ps.length)
  bo:ByOrd ord J.as
  al:J.as.length <= 300
  f0:1 <= J.fs.length
theorem Yx {r:Int} (h0:0 <= r) (h1:r < 4):∃ z:Int,atI [V.int 3,V.int 3,V.int 3,V.int 12] r = some (.int z) /\ 3 <= z /\ z <= 12:=by
  have hc:r = 0 \/ r = 1 \/ r = 2 \/ r = 3:=by omega
  rcases hc with rfl | rfl | rfl | rfl
  · exact ⟨3,rfl,by decide,by decide⟩
  · exact ⟨3,rfl,by decide,by decide⟩
  · exact ⟨3,rfl,by decide,by decide⟩
  · exact ⟨12,rfl,by decide,by decide⟩
section
variable {P:Program} {w:World} {K:PySem.W.Frag} {mg:Str -> Option Value} {base:Heap}
inductive JD (K:PySem.W.Frag) (vs:List V) (H:Hp) (Q:VK):Prop
  | mk (b:Addr) (few most n:Int) (pl:Bool) (_:vs = [.ref b,.int few,.int most,.bl pl]) (_:BoxAt H b n) (_:n < 500000) (_:0 <= few) (_:few <= 60) (_:0 <= most) (_:most <= 60) (_:∀ (p:Addr) (J:Job) (ord:List Nat) H',SameB b H H' -> BoxAt H' b (n + 3000) -> Rep K H' (jQ J) (.ref p) -> JobOk J ord -> Q (.ref p) H'):JD K vs H Q
def V0 (K:PySem.W.Frag):Sp:=fun vs H Q _=>JD K vs H Q
theorem zar:zy ["_law_box_here", "_law_few", "_law_most", "_law_plenty", "_law_many", "_law_kinds", "_law_parts", "_law_feeders_here"] ["_law_box_here", "_law_few", "_law_most", "_law_plenty"] (zt (zp 27)):=⟨rfl,rfl,rfl,by decide +kernel,rfl,by decide +kernel,by decide +kernel⟩
def XL (b:_) (few:_) (most:_) (pl:_) (H:_) (n:_):=fun (σ':St) (H':Hp)=>(Ex1 fun (m:Int)=>An5 (σ' = [some (.ref b),some (.int few),some (.int most),some (.bl pl),some (.int m),none,none,none]) (0 <= m) (m <= 60) (SameB b H H') (BoxAt H' b (n + 2)):Prop)
def XJ (K:_) (kinds:List Str) (b:_) (H6:_) (n:_):=fun (j:Nat) (zs:List V) (H7:Hp)=>(Ex1 fun (qs:List ZW)=>An5 (Reps K H7 (qs.map jf) zs) (qs.length = j) ((∀ q ∈ qs,q.k ∈ kinds /\ inP q.x q.y)) (SameB b H6 H7) (BoxAt H7 b (n + 700 + j)):Prop)
theorem zbl {f:Addr} {fd:FuncData} (F:Fun K "_law_job" "_law_job" (zp 27) f fd) (B:Blt mg) (D_take:Dfn P w K mg base "_law_take" 1 ["_law_box_here", "_law_size"] jE) (D_names:Dfn P w K mg base "_law_names" 3 ["_law_box_here", "_law_many"] ZC) (D_place:Dfn P w K mg base "_law_place" 2 ["_law_box_here", "_law_taken"] (vm K)) (D_places:Dfn P w K mg base "_law_places" 3 ["_law_box_here", "_law_many"] wL)
    (D_feeders:Dfn P w K mg base "_law_feeders" 3 ["_law_box_here", "_law_kinds", "_law_parts", "_law_plenty"] (Q7 K)) (D_aheads:Dfn P w K mg base "_law_aheads" 3 ["_law_box_here", "_law_many"] (wN K)):qA P w K mg base CX0 4 f fd ["_law_box_here", "_law_few", "_law_most", "_law_plenty"] (V0 K):=by
  have nd:=zar.nd
  refine F.ok zar (fun vs H Q E h=>?_) (fun cdv A outer s H vs Q E hr h=>?_)
  · obtain ⟨b,few,most,n,pl,rfl,_⟩:=h
    rfl
  · obtain ⟨b,few,most,n,pl,rfl,B0,hn,f0,f1,mo0,mo1,k⟩:=h
    have hbig:100000 < sizeLine:=by rw [sizeLine_eq];decide
    refine ⟨_,(ze (xQ (zv (i:=4) nd rfl (Or.inl rfl) (zj D_take (hr.mono (by decide)) rfl (za (pv 0) (za (zA qh (j8 (zw yY (zj D_take (hr.mono (by decide)) rfl (za (pv 0) (za zg zd))) zg (zB _)) (pv 1) (pv 2)) zg) zd)))))
      (ze (zv (i:=5) nd rfl (Or.inr rfl) (zj D_names (hr.mono (by decide)) rfl (za (pv 0) (za (zA qh zg (zj D_take (hr.mono (by decide)) rfl (za (pv 0) (za (zx zD (zJ (za zg (za zg (za zg (za zg zd))))) (zj D_take (hr.mono (by decide)) rfl (za (pv 0) (za zg zd))) (fun _ _=>rfl)) zd)))) zd))))
      (ze (zv (i:=6) nd rfl (Or.inl rfl) (zM zY rfl B.tuple qz (za (jd ["_law_kinds", "_law_box_here"] [5,0] rfl rfl (by kernel_rfl) (zL (zj D_places (hr.mono (by decide)) rfl (za (pv 0) (za (pv 4) zd)))) (fun _ _ _ _=>qR) (fun _ _ _ _=>(zO (za (zx (xb (K:=K) rfl) (pv 1) (zj D_take (hr.mono (by decide)) rfl (za (pv 2) (za (zr (j4 (K:=K) rfl) rfl B.len boot_len (za (pv 1) zd)) zd))) (fun _ _=>rfl)) (za (pv 0) zd))))) zd)))
      (ze (zv (i:=7) nd rfl (Or.inl rfl) (zj D_feeders (hr.mono (by decide)) rfl (za (pv 0) (za (pv 5) (za (pv 6) (za (pv 3) zd))))))
      (zm (zE (zO (pa5 (zj D_place (hr.mono (by decide)) rfl (za (pv 0) (za (zJ zd) zd))) (zA qh zg (zj D_take (hr.mono (by decide)) rfl (za (pv 0) (za zg zd)))) (pv 7) (pv 6) (zj D_aheads (hr.mono (by decide)) rfl (za (pv 0) (za (pv 4) zd))))))))))),?_⟩
    refine ⟨XL b few most pl H n,?_,?_⟩
    · refine ⟨_,rfl,_,rfl,b,8,n,rfl,B0,by omega,by decide,by decide,fun r H1 r0 r1 B1 S1=>⟨_,_,rfl,rfl,_,rfl,qO (fun c=>⟨_,rfl,_,_,rfl,rfl,?_⟩) (fun c=>⟨_,rfl,_,_,rfl,rfl,?_⟩)⟩⟩
      · exact ⟨b,_,_,rfl,B1,by omega,by omega,by omega,fun m H2 a0 a1 B2 S2=>⟨m,rfl,a0,by omega,S1.trans S2,B2.mono (by omega)⟩⟩
      · exact ⟨b,_,_,rfl,B1,by omega,by omega,by omega,fun m H2 a0 a1 B2 S2=>⟨m,rfl,a0,by omega,S1.trans S2,B2.mono (by omega)⟩⟩
    rintro σ' H2 ⟨m,rfl,m0,m1,S2,B2⟩
    refine ⟨_,rfl,_,rfl,le4,fun l1 h1=>⟨_,rfl,b,4,_,rfl,B2.new h1,by omega,by decide,by decide,fun r H3 r0 r1 B3 S3=>?_⟩⟩
    have L3:=S3 l1 _ zb (B2.nne h1)
    obtain ⟨z,ez,z0,z1⟩:=Yx r0 r1
    refine ⟨l1,_,_,_,rfl,rfl,SqL.of L3,ez,b,z,_,rfl,B3,by omega,by omega,by omega,fun q H4 q0 q1 B4 S4=>⟨_,_,rfl,rfl,b,1 + q,_,rfl,B4,by omega,by omega,by omega,fun ks kinds H5 S5 B5 nk kN Rk kl=>?_⟩⟩
    have S5':=(((S2.new h1).trans S3).trans S4).trans S5
    have ek:(kinds.map V.str).length = kinds.length:=List.length_map ..
    clear S2 S3 S4 S5 B2 B3 B4 L3 h1
    refine ⟨_,rfl,_,rfl,b,m,_,rfl,B5,by omega,m0,by omega,fun l as H6 S6 B6 nl lN hl pa al=>?_⟩
    have Rk6:=Rk.draw S6 nk
    refine ⟨l,rfl,⟨_,SqL.of hl⟩,qH (K:=K) (a:=l) (xs:=as.map V.ref) (XJ K kinds b H6 n) ⟨[],rfl,rfl,(fun x h=>nomatch h),SameB.refl _ _,B6.mono (by omega)⟩ (fun j zs H7 ⟨_,_,_,_,s7,_⟩=>SqL.of (s7 _ _ hl nl)) ?_ ?_⟩
    · rintro j x zs H7 hx ⟨qs,rq,ql,qa,S7,B7⟩
      rw [List.getElem?_map] at hx
      obtain ⟨a,ha,rfl⟩:=Option.map_eq_some_iff.mp hx
      have hj:=(List.getElem?_eq_some_iff.mp ha).1
      have zl:zs.length = j:=by rw [rq.len,List.length_map,ql]
      refine ⟨rfl,⟨_,rfl,_,rfl,_,rfl,ks,_,rfl,.inl (SqL.of (Rk6.draw S7 nk).1),b,_,_,rfl,B7,by omega,by omega,by omega,fun q H8 c0 c1 B8 S8=>?_⟩⟩
      obtain ⟨y,ey,my⟩:=VQ (ns:=kinds) c0 (by omega)
      obtain ⟨px,py,hpp,b1,b2,b3,b4⟩:=(pa a (List.mem_of_getElem? ha)).draw B6 (S7.trans S8)
      refine ⟨ks,_,_,_,rfl,rfl,SqL.of (Rk6.draw (S7.trans S8) nk).1,ey,_,rfl,le2,fun T hT=>⟨by omega,qs ++ [⟨y,px,py⟩],?_,by rw [List.length_append,ql];rfl,fun q hq=>?_,(S7.trans S8).new hT,(B8.new hT).mono (by omega)⟩⟩
      · rw [List.map_append]
        have rT:Rep K (upd H8 T (.tup [.str y,.ref a])) (jf ⟨y,px,py⟩) (.ref T):=⟨T,_,rfl,SqT.of zb,_,_,rfl,rfl,_,_,rfl,⟨a,_,rfl,SqT.of ((zc hT) _ _ hpp),_,_,rfl,rfl,_,_,rfl,rfl,rfl⟩,rfl⟩
        exact Reps.snoc rT (Reps.keep ((SameT.draw B7 S8).trans (.of (zc hT))) (je qs) rq)
      · rcases List.mem_append.mp hq with w1 | w1
        · exact qa q w1
        · rw [List.mem_singleton.mp w1];exact ⟨my,b1,b2,b3,b4⟩
    rintro zs H7 ⟨qs,rq,ql,qa,S7,B7⟩
    rw [List.length_map] at ql
    have B7:BoxAt H7 b (n + 800):=B7.mono (by rw [List.length_map];omega)
    have zl:zs.length = as.length:=by rw [rq.len,List.length_map,ql]
    refine ⟨by omega,fun D hD=>⟨D,zs,rfl,.inl ⟨SqL.of zb,fun ps hps=>?_⟩⟩⟩
    have sm:=(zc (o:=.lst zs) hD).trans (zc (o:=.tup zs) hps)
    have S8:=(S5'.trans S6).trans (S7.trans (SameB.of (b:=b) sm))
    have B8:=B7.same sm
    have Rk8:=(Rk6.draw S7 nk).same sm
    have P8:Rep K (upd (upd H7 D (.lst zs)) ps (.tup zs)) (.tup (qs.map jf)) (.ref ps):=⟨ps,_,rfl,SqT.of zb,Reps.keep (.of sm) (je qs) rq⟩
    generalize upd (upd H7 D (.lst zs)) ps (.tup zs) = H8 at sm S8 B8 Rk8 P8
    clear S5' S6 S7 B5 B6 B7 Rk Rk6 rq hD hps pa hl
    refine ⟨_,rfl,_,rfl,_,rfl,_,rfl,b,ks,ps,pl,_,kinds,qs,rfl,B8,by omega,nk,Rk8,by omega,by omega,P8,by omega,fun fp fs es H9 S9 B9 F9 fperm ee fl fa=>?_⟩
    have P9:=Rep.keep (d:=.tup (qs.map jf)) (SameT.draw B8 S9) (je qs) P8
    refine ⟨_,rfl,le0,fun t ht=>⟨b,t,_,[],rfl,B9.new ht,by omega,B9.nne ht,zb,Nat.zero_le _,(fun a h=>nomatch h),fun gp H10 S10 B10 gN ga=>?_⟩⟩
    obtain ⟨gx,gy,hgp,g1,g2,g3,g4⟩:=ga
    refine ⟨_,rfl,b,4,_,rfl,B10,by omega,by decide,by decide,fun hd H11 d0 d1 B11 S11=>⟨_,_,rfl,rfl,_,rfl,_,rfl,_,rfl,_,rfl,b,m,_,rfl,B11,by omega,m0,by omega,fun ap aas ord H12 S12 B12 A12 op bo al2=>⟨leN (by show 5 <= 1000;decide),fun p hp=>?_⟩⟩⟩
    have t9:SameT H9 H12:=((SameT.of (zc ht)).trans (.draw (B9.new ht) S10)).trans ((SameT.draw B10 S11).trans (.draw B11 S12))
    have t10:SameT H10 H12:=(SameT.draw B10 S11).trans (.draw B11 S12)
    have up:Same H12 (upd H12 p (.tup [.ref gp,.int (1 + hd),.ref fp,.ref ps,.ref ap])):=zc hp
    have F12:=Rep.keep (d:=.tup (fs.map jJ)) (t9.trans (.of up)) (ju fs) F9
    have P12:=Rep.keep (d:=.tup (qs.map jf)) (t9.trans (.of up)) (je qs) P9
    have A13:=Rep.keep (d:=vH aas) (.of up) (zG aas) A12
    have G12:=(t10.trans (.of up)) gp _ hgp (fun xs h=>nomatch h) (fun xs h=>nomatch h)
    have qlm:qs.length = m.toNat:=by omega
    have fk:∀ kd ∈ kinds,∃ f ∈ fs,f.k = kd:=fun kd hkd=>by
      have:=fperm.mem_iff.mpr (List.mem_append_left es hkd)
      obtain ⟨f,hf,e⟩:=List.mem_map.mp this
      exact ⟨f,hf,e⟩
    refine k p ⟨gx,gy,1 + hd,fs,qs,aas⟩ ord _ (((S8.trans S9).trans ((SameB.of (zc ht)).trans S10)).trans ((S11.trans S12).new hp)) ((B12.new hp).mono (by omega)) ?_ ?_
    · exact ⟨p,_,rfl,SqT.of zb,_,_,rfl,⟨gp,_,rfl,SqT.of G12,_,_,rfl,rfl,_,_,rfl,rfl,rfl⟩,_,_,rfl,rfl,_,_,rfl,F12,_,_,rfl,P12,_,_,rfl,A13,rfl⟩
    · refine ⟨⟨g1,g2,g3,g4⟩,by show 1 <= 1 + hd;omega,by show 1 + hd <= 4;omega,fl,fa,by show qs.length <= 60;omega,fun q hq=>?_,by show ord.Perm (List.range qs.length);rw [qlm];exact op,bo,al2,?_⟩
      · obtain ⟨hk,hi⟩:=qa q hq
        exact ⟨Rk8.2 q.k hk,hi,fk q.k hk⟩
      · have:=fperm.length_eq
        rw [List.length_map,List.length_append] at this
        show 1 <= fs.length
        omega
end
theorem zQ {α:Type} {l:List α} {i:Nat} {x:α} (h:l[i]? = some x):l.take (i + 1) = l.take i ++ [x]:=by
  obtain ⟨h1,h2⟩:=List.getElem?_eq_some_iff.mp h
  rw [<- h2,List.take_append_getElem]
def zo (os:List Nat):List V:=os.map fun i:Nat=>V.int (i:Int)
theorem zu (os:List Nat):(zo os).length = os.length:=List.length_map ..
theorem Qr (os:List Nat):zo os = (os.map fun i:Nat=>(i:Int)).map V.int:=by unfold zo;rw [List.map_map];rfl
theorem qJ:∀ os:List Nat,(zo os).all jr = true
  | []=>rfl
  | o :: os=>by
    show (true && (zo os).all jr) = true
    rw [qJ os];rfl
theorem jU (k:Nat):∀ os:List Nat,inV (.int (k:Int)) (zo os) = decide (k ∈ os)
  | []=>rfl
  | o :: os=>by
    show ((o:Int) == (k:Int) || inV (.int (k:Int)) (zo os)) = _
    rw [jU k os]
    by_cases h:o = k
    · subst h;simp
    · have e:((o:Int) == (k:Int)) = false:=by simp;omega
      rw [e,Bool.false_or,decide_eq_decide]
      exact ⟨fun z=>List.mem_cons_of_mem _ z,fun z=>(List.mem_cons.mp z).resolve_left fun y=>h y.symm⟩
theorem Zb (k:Nat):∀ os:List Nat,((os.map fun i:Nat=>(i:Int)).erase (k:Int)) = (os.erase k).map fun i:Nat=>(i:Int)
  | []=>rfl
  | o :: os=>by
    rw [List.map_cons,List.erase_cons,List.erase_cons]
    by_cases h:(o == k) = true
    · have e:((o:Int) == (k:Int)) = true:=by
        have:=eq_of_beq h
        simp [this]
      rw [if_pos h,if_pos e]
    · have e:¬ ((o:Int) == (k:Int)) = true:=fun z=>h (by
        have:=eq_of_beq z
        have:o = k:=by omega
        simp [this])
      rw [if_neg h,if_neg e,List.map_cons,Zb k os]
theorem vy {os:List Nat} {i:Nat} {x:V} (h:(zo os)[i]? = some x):∃ k,os[i]? = some k /\ x = .int (k:Int):=by
  unfold zo at h
  rw [List.getElem?_map] at h
  obtain ⟨k,hk,rfl⟩:=Option.map_eq_some_iff.mp h
  exact ⟨k,hk,rfl⟩
def Early (os:List Nat) (as:List (Nat × Nat)):Prop:=∀ p ∈ as,∀ l:Nat,os[l]? = some p.2 -> ∃ k:Nat,k < l /\ os[k]? = some p.1
theorem Early.snoc {os:List Nat} {as:List (Nat × Nat)} {k:Nat} (h:Early os as) (hk:∀ p ∈ as,p.2 = k -> p.1 ∈ os):Early (os ++ [k]) as:=by
  intro p hp l hl
  by_cases hlt:l < os.length
  · rw [List.getElem?_append_left hlt] at hl
    obtain ⟨j,h1,h2⟩:=h p hp l hl
    exact ⟨j,h1,by rw [List.getElem?_append_left (by omega)];exact h2⟩
  · have hle:l = os.length:=by
      have:=(List.getElem?_eq_some_iff.mp hl).1
      rw [List.length_append] at this
      simp at this
      omega
    subst hle
    rw [List.getElem?_append_right (Nat.le_refl _),Nat.sub_self] at hl
    have e:k = p.2:=by simpa using hl
    obtain ⟨j,hj,ej⟩:=List.mem_iff_getElem.mp (hk p hp e.symm)
    exact ⟨j,hj,by rw [List.getElem?_append_left hj,<- ej];simp [hj]⟩
theorem ByOrd.mem1 {ord:List Nat} {as:List (Nat × Nat)} (h:ByOrd ord as) {p:Nat × Nat} (hp:p ∈ as):p.1 ∈ ord:=by
  obtain ⟨k,l,_,e,_⟩:=h p hp
  exact List.mem_of_getElem? e
theorem ByOrd.mem2 {ord:List Nat} {as:List (Nat × Nat)} (h:ByOrd ord as) {p:Nat × Nat} (hp:p ∈ as):p.2 ∈ ord:=by
  obtain ⟨k,l,_,_,e⟩:=h p hp
  exact List.mem_of_getElem? e
theorem Early.ord {os ord:List Nat} {as:List (Nat × Nat)} (h:Early os as) (b:ByOrd ord as) (hp:os.Perm ord):ByOrd os as:=by
  intro p hq
  obtain ⟨l,hl,el⟩:=List.mem_iff_getElem.mp (hp.mem_iff.mpr (b.mem2 hq))
  have e:os[l]? = some p.2:=by rw [<- el];simp [hl]
  obtain ⟨k,h1,h2⟩:=h p hq l e
  exact ⟨k,l,h1,h2,e⟩
def zW (left:List Nat) (as:List (Nat × Nat)):List Nat:=(as.filter fun p=>decide (p.1 ∈ left)).map fun p=>p.2
def qS (left:List Nat) (as:List (Nat × Nat)):List Nat:=left.filter fun k=>!decide (k ∈ zW left as)
theorem Qw {left:List Nat} {as:List (Nat × Nat)} {c:Nat}:c ∈ zW left as ↔ ∃ p ∈ as,p.1 ∈ left /\ p.2 = c:=by
  unfold zW
  rw [List.mem_map]
  constructor
  · rintro ⟨p,hp,rfl⟩
    obtain ⟨h1,h2⟩:=List.mem_filter.mp hp
    exact ⟨p,h1,of_decide_eq_true h2,rfl⟩
  · rintro ⟨p,h1,h2,rfl⟩
    exact ⟨p,List.mem_filter.mpr ⟨h1,decide_eq_true h2⟩,rfl⟩
theorem Vy {left ord:List Nat} {as:List (Nat × Nat)} (b:ByOrd ord as) (nd:ord.Nodup) (hs:∀ k ∈ left,k ∈ ord) (hne:left ≠ []):qS left as ≠ []:=by
  have key:∀ (n:Nat) (k:Nat),k ∈ left -> (∃ i,i < n /\ ord[i]? = some k) -> ∃ c ∈ left,c ∉ zW left as:=by
    intro n
    induction n with
    | zero=>rintro k _ ⟨i,hi,_⟩;omega
    | succ n ih=>
      rintro k hk ⟨i,hi,ei⟩
      by_cases hl:k ∈ zW left as
      · obtain ⟨p,hp,h1,rfl⟩:=Qw.mp hl
        obtain ⟨x,y,hxy,ex,ey⟩:=b p hp
        have e:y = i:=by
          have h1:=(List.getElem?_eq_some_iff.mp ei).1
          have h2:=(List.getElem?_eq_some_iff.mp ey).1
          have h3:ord[y] = ord[i]:=by
            rw [List.getElem?_eq_getElem h1] at ei
            rw [List.getElem?_eq_getElem h2] at ey
            exact (Option.some.inj ey).trans (Option.some.inj ei).symm
          exact (List.getElem_inj nd).mp h3
        exact ih p.1 h1 ⟨x,by omega,ex⟩
      · exact ⟨k,hk,hl⟩
  obtain ⟨k,hk⟩:∃ k,k ∈ left:=by
    cases left with
    | nil=>exact absurd rfl hne
    | cons a r=>exact ⟨a,by simp⟩
  obtain ⟨i,hi,ei⟩:=List.mem_iff_getElem.mp (hs k hk)
  obtain ⟨c,hc,hn⟩:=key (i + 1) k hk ⟨i,by omega,by rw [<- ei];simp [hi]⟩
  intro z
  have:c ∈ qS left as:=List.mem_filter.mpr ⟨hc,by simp [hn]⟩
  rw [z] at this
  cases this
section
variable {P:Program} {w:World} {K:PySem.W.Frag} {mg:Str -> Option Value} {base:Heap}
theorem QC {H:Hp} {J:Job} {jp:Addr} (h:Rep K H (jQ J) (.ref jp)):∃ g fs ps as:Addr,SqT K H jp [.ref g,.int J.hd,.ref fs,.ref ps,.ref as] /\ Rep K H (.tup [.int J.gx,.int J.gy]) (.ref g) /\ Rep K H (.tup (J.fs.map jJ)) (.ref fs) /\ Rep K H (.tup (J.ps.map jf)) (.ref ps) /\ Rep K H (vH J.as) (.ref as):=by
  obtain ⟨a,xs,e,q,x0,r0,e0,h0,x1,r1,e1,h1,x2,r2,e2,h2,x3,r3,e3,h3,x4,r4,e4,h4,e5⟩:=h
  cases e
  subst e0 e1 e2 e3 e4
  have e5':r4 = []:=e5
  subst e5'
  have h1':x1 = .int J.hd:=h1
  subst h1'
  obtain ⟨g,gx,rfl,gq⟩:=h0
  obtain ⟨fs,fx,rfl,fq⟩:=h2
  obtain ⟨ps,px,rfl,pq⟩:=h3
  obtain ⟨as,ax,rfl,aq⟩:=h4
  exact ⟨g,fs,ps,as,q,⟨g,gx,rfl,gq⟩,⟨fs,fx,rfl,fq⟩,⟨ps,px,rfl,pq⟩,⟨as,ax,rfl,aq⟩⟩
theorem vo {H:Hp} {ds:List Dat} {a:Addr} (h:Rep K H (.tup ds) (.ref a)):∃ xs,SqT K H a xs /\ Reps K H ds xs:=by
  obtain ⟨a',xs,e,q,r⟩:=h
  cases e
  exact ⟨xs,q,r⟩
inductive yR (K:PySem.W.Frag) (vs:List V) (H:Hp) (Q:VK):Prop
  | mk (b jp:Addr) (J:Job) (ord:List Nat) (n:Int) (_:vs = [.ref b,.ref jp]) (_:BoxAt H b n) (_:n < 600000) (_:Rep K H (jQ J) (.ref jp)) (_:JobOk J ord) (_:∀ (l:Addr) (os:List Nat) H',SameB b H H' -> BoxAt H' b (n + 60) -> l ≠ b -> H l = none -> H' l = some (.lst (zo os)) -> os.Perm (List.range J.ps.length) -> ByOrd os J.as -> Q (.ref l) H'):yR K vs H Q
def ZB (K:PySem.W.Frag):Sp:=fun vs H Q _=>yR K vs H Q
inductive zcJ (b jp l0 l1:Addr) (H:Hp) (n:Int) (J:Job) (m:Nat) (σ:St) (H4:Hp):Prop
  | mk (left os:List Nat) (v4 v5:Option V) (_:σ = [some (.ref b),some (.ref jp),some (.ref l0),some (.ref l1),v4,v5]) (_:m = left.length) (_:SameB b H H4) (_:BoxAt H4 b (n + os.length)) (_:H4 l0 = some (.lst (zo left))) (_:H4 l1 = some (.lst (zo os))) (_:(left ++ os).Perm (List.range J.ps.length)) (_:Early os J.as):zcJ b jp l0 l1 H n J m σ H4
inductive zcK (b jp l0 l1:Addr) (H:Hp) (n:Int) (J:Job) (left:List Nat) (σ:St) (H4:Hp):Prop
  | mk (left' os:List Nat) (v4 v5:Option V) (_:left'.length < left.length) (_:σ = [some (.ref b),some (.ref jp),some (.ref l0),some (.ref l1),v4,v5]) (_:SameB b H H4) (_:BoxAt H4 b (n + os.length)) (_:H4 l0 = some (.lst (zo left'))) (_:H4 l1 = some (.lst (zo os))) (_:(left' ++ os).Perm (List.range J.ps.length)) (_:Early os J.as):zcK b jp l0 l1 H n J left σ H4
theorem JN:zy ["_law_box_here", "_law_job_here", "_law_left", "_law_found", "_law_late", "_law_free"] ["_law_box_here", "_law_job_here"] (zt (zp 28)):=⟨rfl,rfl,rfl,by decide +kernel,rfl,by decide +kernel,by decide +kernel⟩
theorem WE {f:Addr} {fd:FuncData} (F:Fun K "_law_order" "_law_order" (zp 28) f fd) (B:Blt mg) (D_take:Dfn P w K mg base "_law_take" 1 ["_law_box_here", "_law_size"] jE):qA P w K mg base CX0 2 f fd ["_law_box_here", "_law_job_here"] (ZB K):=by
  have nd:=JN.nd
  refine F.ok JN (fun vs H Q E h=>?_) (fun cdv A outer s H vs Q E hr h=>?_)
  · obtain ⟨b,jp,J,ord,n,rfl,_⟩:=h
    rfl
  · obtain ⟨b,jp,J,ord,n,rfl,B0,hn,rj,jo,k⟩:=h
    have hu:=hr.units0
    have hbig:100000 < sizeLine:=by rw [sizeLine_eq];decide
    have pl:=jo.pl
    have al:=jo.al
    obtain ⟨g,fs,ps,as,qj,_,_,rp,ra⟩:=QC rj
    obtain ⟨pv',qp,rp'⟩:=vo rp
    obtain ⟨av,qa,ra'⟩:=vo ra
    have lp:=rp'.len
    rw [List.length_map] at lp
    have la:=ra'.len
    rw [List.length_map] at la
    refine ⟨_,(ze (jm (zO (za (vv rfl rfl B.list rfl B.range qQ (za (zr zI rfl B.len boot_len (za (zx qW (pv 1) zg (fun _ _=>rfl)) zd)) zd)) (za (zJ zd) zd))) (qx rfl (zq (zn (i:=2) nd rfl (Or.inr rfl)) (zq (zn (i:=3) nd rfl (Or.inl rfl)) zS))))
      (ze (Qi PassesOwn.never (zw (wV hu) (pv 2) (zJ zd) (zB _))
      (ze (zv (i:=4) nd rfl (Or.inr rfl) (jF ["_law_left"] [2] rfl rfl (by kernel_rfl) (jN (zx qW (pv 1) zg (fun _ _=>rfl))) (fun _ _ _ _=>(qI (zw (jt (K:=K) rfl) (pv 0) (pv 2) (by with_unfolding_all rfl)))) (fun _ _ _ _=>(pv 1))))
        (ze (ZH ["_law_late"] [4] rfl rfl (by kernel_rfl) (zL (pv 2)) (fun _ _ _ _=>(qI (zw (qP (K:=K) rfl) (pv 0) (pv 1) (by with_unfolding_all rfl)))) (fun _ _ _ _=>(pv 0)) (zn (i:=5) nd rfl (Or.inl rfl)))
        (ze (qk (jn PySem.F.plainAttrs_list PySem.F.slot_list_append PySem.F.type_list_append zV (pv 3) (za (zx zD (pv 5) (zj D_take (hr.mono (by decide)) rfl (za (pv 0) (za (zr zI rfl B.len boot_len (za (pv 5) zd)) zd))) (fun _ _=>rfl)) zd)))
        (zm (qk (jn PySem.F.plainAttrs_list PySem.F.slot_list_remove PySem.F.type_list_remove Jh (pv 2) (za (zx zD (pv 3) (zcg zaJ zg) (fun _ _=>rfl)) zd))))))))
      (zm (zE (pv 3))))),?_⟩
    refine ⟨_,rfl,jp,_,_,_,rfl,rfl,qj,rfl,ps,_,rfl,.inr qp,_,rfl,by omega,by omega,fun l0 h0=>⟨le0,fun l1 h1=>⟨le2,fun t ht=>?_⟩⟩⟩
    have eN:((List.range ((pv'.length:Int)).toNat).map fun i:Nat=>V.int (i:Int)) = zo (List.range J.ps.length):=by
      unfold zo
      rw [show ((pv'.length:Int)).toNat = J.ps.length by omega]
    have n0:=B0.nne h0
    have S0:=(SameB.refl b H).new (o:=.lst ((List.range ((pv'.length:Int)).toNat).map fun i:Nat=>V.int (i:Int))) h0
    have B1:=B0.new (o:=.lst ((List.range ((pv'.length:Int)).toNat).map fun i:Nat=>V.int (i:Int))) h0
    have L0:upd H l0 (.lst ((List.range ((pv'.length:Int)).toNat).map fun i:Nat=>V.int (i:Int))) l0 = some (.lst (zo (List.range J.ps.length))):=by rw [zb,eN]
    generalize upd H l0 (.lst ((List.range ((pv'.length:Int)).toNat).map fun i:Nat=>V.int (i:Int))) = H1 at S0 B1 L0 h1 ht
    have n1:=B1.nne h1
    have N1:=S0.none h1 n1
    have n01:l0 ≠ l1:=zf L0 h1
    have S1:=S0.new (o:=.lst []) h1
    have B2:=B1.new (o:=.lst []) h1
    have L02:=(zc (o:=.lst []) h1) _ _ L0
    have L1:upd H1 l1 (.lst []) l1 = some (.lst []):=zb
    generalize upd H1 l1 (.lst []) = H2 at S1 B2 L02 L1 ht
    have S2:=S1.new (o:=.tup [.ref l0,.ref l1]) ht
    have B3:=B2.new (o:=.tup [.ref l0,.ref l1]) ht
    have L03:=(zc (o:=.tup [.ref l0,.ref l1]) ht) _ _ L02
    have L13:=(zc (o:=.tup [.ref l0,.ref l1]) ht) _ _ L1
    have T3:upd H2 t (.tup [.ref l0,.ref l1]) t = some (.tup [.ref l0,.ref l1]):=zb
    generalize upd H2 t (.tup [.ref l0,.ref l1]) = H3 at S2 B3 L03 L13 T3
    refine ⟨t,_,rfl,SqT.of T3,rfl,_,_,rfl,_,_,rfl,rfl,?_⟩
    clear S0 S1 B1 B2 L0 L02 L1 ht h1 T3
    refine ⟨zcJ b jp l0 l1 H n J,
      ⟨_,List.range J.ps.length,[],none,none,rfl,rfl,S2,B3.mono (by simp),L03,L13,by rw [List.append_nil],fun p _ l hl=>by simp at hl⟩,?_⟩
    clear S2 B3 L03 L13
    rintro m σ H4 ⟨left,os,v4,v5,rfl,rfl,S4,B4,LL,LO,pm,ea⟩
    have plen:=pm.length_eq
    rw [List.length_append,List.length_range] at plen
    refine ⟨_,rfl,le0,fun q hq=>⟨l0,q,_,rfl,rfl,SqL.of ((zc hq) _ _ LL),SqL.of zb,_,rfl,?_⟩⟩
    have S5:=S4.new (o:=.lst []) hq
    have B5:=B4.new (o:=.lst []) hq
    have LL5:=(zc (o:=.lst []) hq) _ _ LL
    have LO5:=(zc (o:=.lst []) hq) _ _ LO
    generalize upd H4 q (.lst []) = H5 at S5 B5 LL5 LO5
    clear S4 B4 LL LO hq
    cases left with
    | nil=>
      refine ifF rfl ⟨_,rfl,k l1 os H5 S5 (B5.mono (by simp at plen;omega)) n1 N1 LO5 (by simpa using pm) (ea.ord jo.bo ?_)⟩
      have:os.Perm (List.range J.ps.length):=by simpa using pm
      exact this.trans jo.op.symm
    | cons c rest=>
      refine ifT rfl ?_
      have hne:c :: rest ≠ []:=fun z=>by cases z
      generalize c :: rest = left at *
      clear c rest
      refine ⟨zcK b jp l0 l1 H n J left,
        fun σ' H' ⟨left',os',v4,v5,hlt,e,a1,a2,a3,a4,a5,a6⟩=>⟨_,hlt,left',os',v4,v5,e,rfl,a1,a2,a3,a4,a5,a6⟩,?_⟩
      have T5:=SameT.trans (SameT.draw B0 S5) (SameT.refl H5)
      have qj5:=qj.keep T5
      have qa5:=qa.keep T5
      have ra5:=ra'.keep T5 (zG J.as)
      refine ⟨_,rfl,jp,_,_,_,rfl,rfl,qj5,rfl,as,rfl,⟨_,qa5⟩,jP (K:=K) (a:=as) (xs:=av) (fun i zs H6=>zs = zo (zW left (J.as.take i)) /\ Same H5 H6) ⟨rfl,Same.refl _⟩ (fun i zs H6 ⟨_,sm⟩=>sm.sqT qa5) ?_ ?_⟩
      · rintro i x zs H6 hx ⟨rfl,sm⟩
        obtain ⟨d,e1,r1⟩:=(ra5.same sm).get hx
        rw [List.getElem?_map] at e1
        obtain ⟨p,ep,rfl⟩:=Option.map_eq_some_iff.mp e1
        obtain ⟨pa,xs,rfl,qp',y0,r0,f0,g0,y1,r1',f1,g1,f2⟩:=r1
        subst f0 f1
        cases (show r1' = [] from f2)
        cases (show y0 = _ from g0)
        cases (show y1 = _ from g1)
        have hi:i < J.as.length:=(List.getElem?_eq_some_iff.mp ep).1
        refine ⟨pa,_,rfl,qp',rfl,_,_,rfl,_,_,rfl,rfl,rfl,?_⟩
        refine ⟨_,rfl,_,rfl,l0,zo left,rfl,.inl (SqL.of (sm _ _ LL5)),rfl,qJ left,_,rfl,?_⟩
        have et:J.as.take (i + 1) = J.as.take i ++ [p]:=zQ ep
        have ein:(if false = true then !inV (.int (p.1:Int)) (zo left) else inV (.int (p.1:Int)) (zo left)) = decide (p.1 ∈ left):=jU p.1 left
        rw [ein]
        refine qO (fun c=>⟨_,rfl,?_,?_,sm⟩) (fun c=>⟨?_,sm⟩)
        · have:(zW left (J.as.take i)).length <= J.as.length:=by
            unfold zW
            rw [List.length_map]
            refine Nat.le_trans (List.length_filter_le _ _) ?_
            rw [List.length_take];omega
          rw [zu];omega
        · rw [et]
          unfold zW
          rw [List.filter_append,List.map_append,List.filter_cons_of_pos (by exact c)]
          unfold zo
          rw [List.map_append]
          rfl
        · rw [et]
          unfold zW
          rw [List.filter_append,List.filter_cons_of_neg (by exact c),List.filter_nil,List.append_nil]
      rintro zs H6 ⟨rfl,sm⟩
      have eall:J.as.take av.length = J.as:=by rw [la,List.take_length]
      rw [eall]
      have latel:(zW left J.as).length <= 300:=by
        unfold zW
        rw [List.length_map]
        exact Nat.le_trans (List.length_filter_le _ _) al
      refine ⟨by rw [zu];omega,fun la' hla=>?_⟩
      have S6:=(S5.trans (SameB.of sm)).new (o:=.lst (zo (zW left J.as))) hla
      have B6:=(B5.same sm).new (o:=.lst (zo (zW left J.as))) hla
      have LL6:=(zc (o:=.lst (zo (zW left J.as))) hla) _ _ (sm _ _ LL5)
      have LO6:=(zc (o:=.lst (zo (zW left J.as))) hla) _ _ (sm _ _ LO5)
      have LA6:upd H6 la' (.lst (zo (zW left J.as))) la' = some (.lst (zo (zW left J.as))):=zb
      generalize upd H6 la' (.lst (zo (zW left J.as))) = H7 at S6 B6 LL6 LO6 LA6
      clear S5 B5 LL5 LO5 sm hla T5 qj5 qa5 ra5
      refine ⟨_,rfl,l0,rfl,⟨_,SqL.of LL6⟩,qH (K:=K) (a:=l0) (xs:=zo left) (fun i zs H8=>zs = zo ((left.take i).filter fun k=>!decide (k ∈ zW left J.as)) /\ Same H7 H8) ⟨rfl,Same.refl _⟩ (fun i zs H8 ⟨_,sm⟩=>SqL.of (sm _ _ LL6)) ?_ ?_⟩
      · rintro i x zs H8 hx ⟨rfl,sm⟩
        obtain ⟨c,ec,rfl⟩:=vy hx
        have hi:i < left.length:=(List.getElem?_eq_some_iff.mp ec).1
        refine ⟨rfl,?_⟩
        refine ⟨_,rfl,_,rfl,la',zo (zW left J.as),rfl,.inl (SqL.of (sm _ _ LA6)),rfl,qJ _,_,rfl,?_⟩
        have ein:(if true = true then !inV (.int (c:Int)) (zo (zW left J.as)) else inV (.int (c:Int)) (zo (zW left J.as))) = !decide (c ∈ zW left J.as):=by rw [jU];rfl
        rw [ein,zQ ec]
        refine qO (fun d=>⟨_,rfl,?_,?_,sm⟩) (fun d=>⟨?_,sm⟩)
        · have:=List.length_filter_le (fun k=>!decide (k ∈ zW left J.as)) (left.take i)
          rw [List.length_take] at this
          rw [zu];omega
        · rw [List.filter_append,List.filter_cons_of_pos (by exact d)]
          unfold zo
          rw [List.map_append]
          rfl
        · rw [List.filter_append,List.filter_cons_of_neg (by exact d),List.filter_nil,List.append_nil]
      rintro zs H8 ⟨rfl,sm⟩
      have etk:left.take (zo left).length = left:=by rw [zu,List.take_length]
      rw [etk]
      have fre:(left.filter fun k=>!decide (k ∈ zW left J.as)) = qS left J.as:=rfl
      rw [fre]
      have frl:(qS left J.as).length <= left.length:=List.length_filter_le _ _
      refine ⟨by rw [zu];omega,fun lf hlf=>?_⟩
      have S7:=(S6.trans (SameB.of sm)).new (o:=.lst (zo (qS left J.as))) hlf
      have B7:=(B6.same sm).new (o:=.lst (zo (qS left J.as))) hlf
      have LL7:=(zc (o:=.lst (zo (qS left J.as))) hlf) _ _ (sm _ _ LL6)
      have LO7:=(zc (o:=.lst (zo (qS left J.as))) hlf) _ _ (sm _ _ LO6)
      have LF7:upd H8 lf (.lst (zo (qS left J.as))) lf = some (.lst (zo (qS left J.as))):=zb
      have nlf:=(B6.same sm).nne hlf
      generalize upd H8 lf (.lst (zo (qS left J.as))) = H9 at S7 B7 LL7 LO7 LF7
      clear S6 B6 LL6 LO6 LA6 sm hlf
      have inr:∀ x ∈ left,x ∈ ord:=fun x hx=>by
        have h1:=pm.mem_iff.mp (List.mem_append_left os hx)
        exact jo.op.mem_iff.mpr h1
      have ordnd:ord.Nodup:=jo.op.nodup_iff.mpr List.nodup_range
      have fne:=Vy jo.bo ordnd inr hne
      have fpos:0 < (qS left J.as).length:=List.length_pos_iff.mpr fne
      refine ⟨_,rfl,.inl ⟨rfl,_,SqL.of LO7⟩,_,rfl,_,rfl,_,rfl,lf,_,rfl,.inl (SqL.of LF7),b,_,_,rfl,B7,by omega,by rw [zu];omega,by rw [zu];omega,fun r Ha r0 r1 Ba Sa=>?_⟩
      rw [zu] at r1
      have hr':r.toNat < (qS left J.as).length:=by omega
      have er:(zo (qS left J.as))[r.toNat]? = some (.int (((qS left J.as)[r.toNat]:Nat):Int)):=by
        unfold zo
        rw [List.getElem?_map,List.getElem?_eq_getElem hr']
        rfl
      have er':atI (zo (qS left J.as)) r = some (.int (((qS left J.as)[r.toNat]:Nat):Int)):=by
        have:=qm er
        rwa [show ((r.toNat:Nat):Int) = r by omega] at this
      have hcm:=List.getElem_mem hr'
      generalize (qS left J.as)[r.toNat] = c at er er' hcm
      obtain ⟨cl,cn⟩:=List.mem_filter.mp hcm
      have cn':c ∉ zW left J.as:=by simpa using cn
      have LFa:=Sa _ _ LF7 nlf
      have LOa:=Sa _ _ LO7 n1
      have LLa:=Sa _ _ LL7 n0
      refine ⟨lf,_,_,_,rfl,rfl,SqL.of LFa,er',l1,_,_,rfl,rfl,LOa,by rw [zu];omega,?_⟩
      have eO:zo os ++ [V.int (c:Int)] = zo (os ++ [c]):=by unfold zo;rw [List.map_append];rfl
      rw [eO]
      have Sb:=(S7.trans Sa).put (o:=.lst (zo (os ++ [c]))) N1
      have Bb:=Ba.other (o:=.lst (zo (os ++ [c]))) n1
      have LOb:upd Ha l1 (.lst (zo (os ++ [c]))) l1 = some (.lst (zo (os ++ [c]))):=zb
      have LLb:upd Ha l1 (.lst (zo (os ++ [c]))) l0 = some (.lst (zo left)):=by rw [zi n01];exact LLa
      generalize upd Ha l1 (.lst (zo (os ++ [c]))) = Hb at Sb Bb LOb LLb
      have elast:atI (zo (os ++ [c])) (-1) = some (.int (c:Int)):=by
        have:zo (os ++ [c]) = zo os ++ [V.int (c:Int)]:=eO.symm
        rw [this]
        exact Yg _ _
      refine ⟨_,rfl,.inl ⟨rfl,_,SqL.of LLb⟩,_,rfl,_,rfl,l1,_,_,_,rfl,rfl,SqL.of LOb,elast,l0,left.map fun i:Nat=>(i:Int),(c:Int),rfl,rfl,by rw [LLb,Qr],List.mem_map.mpr ⟨c,cl,rfl⟩,?_⟩
      have eE:((left.map fun i:Nat=>(i:Int)).erase (c:Int)).map V.int = zo (left.erase c):=by rw [Zb,Qr]
      rw [eE]
      have N0:H l0 = none:=h0
      have hlen:(left.erase c).length + 1 = left.length:=by
        have:=List.length_erase_of_mem cl
        have:=List.length_pos_of_mem cl
        omega
      refine ⟨left.erase c,os ++ [c],_,_,by omega,rfl,Sb.put N0,(Bb.other n0).mono (by rw [List.length_append];simp;omega),zb,by rw [zi n01.symm];exact LOb,?_,?_⟩
      · have h1:(left ++ os).Perm (c :: (left.erase c) ++ os):=(List.perm_cons_erase cl).append_right os
        have h2:(left.erase c ++ (os ++ [c])).Perm (c :: left.erase c ++ os):=by
          rw [<- List.append_assoc]
          exact List.perm_append_comm
        exact (h2.trans h1.symm).trans pm
      · refine ea.snoc fun p hp e=>?_
        have h1:p.1 ∈ left ++ os:=pm.mem_iff.mpr (jo.op.mem_iff.mp (jo.bo.mem1 hp))
        rcases List.mem_append.mp h1 with z | z
        · exact absurd (Qw.mpr ⟨p,hp,z,e⟩) cn'
        · exact z
end
structure zN where
  pk:List (Nat × Nat)
  ly:List Nat
def wW (k:Nat):Dat:=.int (k:Int)
def qr (t:zN):Dat:=.tup [.tup (t.pk.map zZ),.tup (t.ly.map wW)]
theorem Qq:∀ (l:List Nat),Dat.imms (l.map wW) = true
  | []=>rfl
  | k :: l=>by
    show (true && Dat.imms (l.map wW)) = true
    rw [Qq l];rfl
theorem yJ (t:zN):(qr t).imm = true:=by
  show (Dat.imms (t.pk.map zZ) && (Dat.imms (t.ly.map wW) && true)) = true
  rw [zG,Qq];rfl
theorem qY:∀ (l:List zN),Dat.imms (l.map qr) = true
  | []=>rfl
  | t :: l=>by
    show ((qr t).imm && Dat.imms (l.map qr)) = true
    rw [yJ,qY l];rfl
section
variable {P:Program} {w:World} {K:PySem.W.Frag} {mg:Str -> Option Value} {base:Heap}
theorem Reps.perm {H:Hp} {α:Type} {f:α -> Dat} {ys xs:List V} (h:ys.Perm xs):∀ {as:List α},Reps K H (as.map f) xs -> ∃ bs:List α,bs.Perm as /\ Reps K H (bs.map f) ys:=by
  induction h with
  | nil=>intro as h;exact ⟨as,List.Perm.refl _,h⟩
  | cons x hp ih=>
    intro as h
    cases as with
    | nil=>cases (show _ = [] from h)
    | cons a as=>
      obtain ⟨y,r,e,h1,h2⟩:=h
      cases e
      obtain ⟨bs,p,q⟩:=ih h2
      exact ⟨a :: bs,p.cons a,⟨_,_,rfl,h1,q⟩⟩
  | swap x y l=>
    intro as h
    cases as with
    | nil=>cases (show _ = [] from h)
    | cons a as=>
      obtain ⟨u,r,e,h1,h2⟩:=h
      cases e
      cases as with
      | nil=>cases (show _ = [] from h2)
      | cons c as=>
        obtain ⟨u,r,e,h3,h4⟩:=h2
        cases e
        exact ⟨c :: a :: as,List.Perm.swap a c as,⟨_,_,rfl,h3,_,_,rfl,h1,h4⟩⟩
  | trans h1 h2 ih1 ih2=>
    intro as h
    obtain ⟨bs,p,q⟩:=ih2 h
    obtain ⟨cs,p',q'⟩:=ih1 q
    exact ⟨cs,p'.trans p,q'⟩
theorem xS {H:Hp}:∀ (l:List Nat),Reps K H (l.map wW) (zo l)
  | []=>rfl
  | k :: l=>⟨_,_,rfl,rfl,xS l⟩
theorem qD {H:Hp} {p:Nat × Nat} {x:V} (h:Rep K H (zZ p) x):∃ a,x = .ref a /\ SqT K H a [.int p.1,.int p.2]:=by
  obtain ⟨pa,xs,rfl,qp',y0,r0,f0,g0,y1,r1',f1,g1,f2⟩:=h
  subst f0 f1
  cases (show r1' = [] from f2)
  cases (show y0 = _ from g0)
  cases (show y1 = _ from g1)
  exact ⟨pa,rfl,qp'⟩
inductive Z6 (K:PySem.W.Frag) (vs:List V) (H:Hp) (Q:VK):Prop
  | mk (b pk:Addr) (n:Int) (xs:List V) (ps:List (Nat × Nat)) (_:vs = [.ref b,.ref pk]) (_:BoxAt H b n) (_:n < 900000) (_:pk ≠ b) (_:H pk = some (.lst xs)) (_:Reps K H (ps.map zZ) xs) (_:ps.length <= 1000) (_:∀ (p:Addr) (sh:List (Nat × Nat)) H',SameB b H H' -> BoxAt H' b (n + ps.length) -> sh.Perm ps -> Rep K H' (qr ⟨sh,ps.map (·.1)⟩) (.ref p) -> Q (.ref p) H'):Z6 K vs H Q
def Q1 (K:PySem.W.Frag):Sp:=fun vs H Q _=>Z6 K vs H Q
theorem V9:zy ["_law_box_here", "_law_picks"] ["_law_box_here", "_law_picks"] (zt (zp 29)):=⟨rfl,rfl,rfl,by decide +kernel,rfl,by decide +kernel,by decide +kernel⟩
theorem YI {f:Addr} {fd:FuncData} (F:Fun K "_law_trip" "_law_trip" (zp 29) f fd) (B:Blt mg) (D_shuffled:Dfn P w K mg base "_law_shuffled" 2 ["_law_box_here", "_law_some"] (wJ K)):qA P w K mg base CX0 3 f fd ["_law_box_here", "_law_picks"] (Q1 K):=by
  have nd:=V9.nd
  refine F.ok V9 (fun vs H Q E h=>?_) (fun cdv A outer s H vs Q E hr h=>?_)
  · obtain ⟨b,pk,n,xs,ps,rfl,_⟩:=h
    rfl
  · obtain ⟨b,pk,n,xs,ps,rfl,B0,hn,npb,hp,rp,lp,k⟩:=h
    have hbig:100000 < sizeLine:=by rw [sizeLine_eq];decide
    have lx:xs.length = ps.length:=by have:=rp.len;rwa [List.length_map] at this
    refine ⟨_,(zm (zE (zO (za (zM zY rfl B.tuple qz (za (zj D_shuffled (hr.mono (by decide)) rfl (za (pv 0) (za (pv 1) zd))) zd)) (za (zM zY rfl B.tuple qz (za (jF [] [] rfl rfl (by kernel_rfl) (zL (pv 1)) (fun _ _ _ _=>qR) (fun _ _ _ _=>(pv 0))) zd)) zd))))),?_⟩
    refine ⟨_,rfl,_,rfl,b,pk,n,xs,rfl,B0,by omega,npb,hp,by omega,fun l ys H1 S1 B1 nl hl hL pm=>?_⟩
    have T1:=SameT.draw B0 S1
    obtain ⟨sh,shp,rsh⟩:=Reps.perm pm (rp.keep T1 (zG ps))
    have rp1:=rp.keep T1 (zG ps)
    refine ⟨l,ys,rfl,.inl ⟨SqL.of hL,fun t1 ht1=>?_⟩⟩
    have s1:=zc (o:=.tup ys) ht1
    have hp2:=s1 _ _ (S1 _ _ hp npb)
    have rp2:=rp1.same s1
    have rsh2:=rsh.same s1
    have t12:upd H1 t1 (.tup ys) t1 = some (.tup ys):=zb
    have S2:=S1.new (o:=.tup ys) ht1
    have B2:=B1.new (o:=.tup ys) ht1
    generalize upd H1 t1 (.tup ys) = H2 at s1 hp2 rp2 rsh2 t12 S2 B2
    refine ⟨_,rfl,pk,rfl,⟨_,SqL.of hp2⟩,qH (K:=K) (a:=pk) (xs:=xs) (fun i zs H3=>zs = zo ((ps.map (·.1)).take i) /\ Same H2 H3) ⟨rfl,Same.refl _⟩ (fun i zs H3 ⟨_,sm⟩=>SqL.of (sm _ _ hp2)) ?_ ?_⟩
    · rintro i x zs H3 hx ⟨rfl,sm⟩
      obtain ⟨d,e1,r1⟩:=(rp2.same sm).get hx
      rw [List.getElem?_map] at e1
      obtain ⟨p,ep,rfl⟩:=Option.map_eq_some_iff.mp e1
      obtain ⟨pa,rfl,qp⟩:=qD r1
      have hi:i < ps.length:=(List.getElem?_eq_some_iff.mp ep).1
      refine ⟨pa,_,rfl,qp,rfl,_,_,rfl,_,_,rfl,rfl,rfl,?_⟩
      refine ⟨_,rfl,?_,?_,sm⟩
      · rw [zu,List.length_take,List.length_map];omega
      · have ep':(ps.map (·.1))[i]? = some p.1:=by rw [List.getElem?_map,ep];rfl
        rw [zQ ep']
        unfold zo
        rw [List.map_append]
        rfl
    rintro zs H3 ⟨rfl,sm⟩
    have etk:(ps.map (·.1)).take xs.length = ps.map (·.1):=by rw [lx,<- List.length_map (f:=(·.1)),List.take_length]
    rw [etk]
    refine ⟨by rw [zu,List.length_map];omega,fun l2 hl2=>⟨l2,_,rfl,.inl ⟨SqL.of zb,fun t2 ht2=>⟨le2,fun q hq=>?_⟩⟩⟩⟩
    have s2:=(sm.trans (zc (o:=.lst (zo (ps.map (·.1)))) hl2)).trans (zc (o:=.tup (zo (ps.map (·.1)))) ht2)
    have s3:=s2.trans (zc (o:=.tup [.ref t1,.ref t2]) hq)
    refine k q sh _ (S2.trans (SameB.of s3)) (B2.same s3 |>.mono (by omega)) shp ?_
    refine ⟨q,_,rfl,SqT.of zb,_,_,rfl,⟨t1,ys,rfl,SqT.of (s3 _ _ t12),rsh2.same s3⟩,_,_,rfl,⟨t2,_,rfl,SqT.of ((zc hq) _ _ zb),xS _⟩,rfl⟩
end
def Jt (J:Job) (p:Nat × Nat):Prop:=∃ pa fe,J.ps[p.1]? = some pa /\ J.fs[p.2]? = some fe /\ fe.k = pa.k
structure ZV (J:Job) (t:zN):Prop where
  p1:1 <= t.pk.length
  p2:(t.pk.length:Int) <= J.hd
  ok:∀ p ∈ t.pk,Jt J p
  ly:t.ly.Perm (t.pk.map (·.1))
def jZ (ts:List zN):List Nat:=ts.flatMap (·.ly)
theorem we (ts:List zN) (t:zN):jZ (ts ++ [t]) = jZ ts ++ t.ly:=by
  unfold jZ
  rw [List.flatMap_append]
  simp
structure Yk (J:Job) (os:List Nat) (ts:List zN):Prop where
  tr:∀ t ∈ ts,ZV J t
  sub:(jZ ts).Sublist os
  len:ts.length <= 60
section
variable {P:Program} {w:World} {K:PySem.W.Frag} {mg:Str -> Option Value} {base:Heap}
structure PlS (K:PySem.W.Frag) (H:Hp) (b ls lf lp lo lq:Addr) (st:List Int) (tr pk:List V) (ou os:List Nat) (ts:List zN) (pks:List (Nat × Nat)) (H':Hp) (n:Int):Prop where
  s:SameB b H H'
  bx:BoxAt H' b n
  nb:ls ≠ b /\ lf ≠ b /\ lp ≠ b /\ lo ≠ b /\ lq ≠ b
  nn:ls ≠ lf /\ ls ≠ lp /\ ls ≠ lo /\ ls ≠ lq /\ lf ≠ lp /\ lf ≠ lo /\ lf ≠ lq /\ lp ≠ lo /\ lp ≠ lq /\ lo ≠ lq
  hN:H ls = none /\ H lf = none /\ H lp = none /\ H lo = none
  hs:H' ls = some (.lst (st.map V.int))
  hf:H' lf = some (.lst tr)
  hp:H' lp = some (.lst pk)
  ho:H' lo = some (.lst (zo ou))
  hq:H' lq = some (.lst (zo os))
  rt:Reps K H' (ts.map qr) tr
  rk:Reps K H' (pks.map zZ) pk
variable {H H' H'':Hp} {b ls lf lp lo lq:Addr} {st:List Int} {tr pk:List V} {ou os:List Nat} {ts:List zN} {pks:List (Nat × Nat)} {n m:Int}
theorem PlS.draw (g:PlS K H b ls lf lp lo lq st tr pk ou os ts pks H' n) (S:SameB b H' H'') (B:BoxAt H'' b m):PlS K H b ls lf lp lo lq st tr pk ou os ts pks H'' m:=by
  obtain ⟨n1,n2,n3,n4,n5⟩:=g.nb
  have T:=SameT.draw g.bx S
  exact ⟨g.s.trans S,B,g.nb,g.nn,g.hN,S _ _ g.hs n1,S _ _ g.hf n2,S _ _ g.hp n3,S _ _ g.ho n4,S _ _ g.hq n5,g.rt.keep T (qY ts),g.rk.keep T (zG pks)⟩
theorem PlS.same (g:PlS K H b ls lf lp lo lq st tr pk ou os ts pks H' n) (S:Same H' H''):PlS K H b ls lf lp lo lq st tr pk ou os ts pks H'' n:=g.draw (SameB.of S) (g.bx.same S)
theorem PlS.new {q:Addr} {o:HO} (g:PlS K H b ls lf lp lo lq st tr pk ou os ts pks H' n) (h:H' q = none):PlS K H b ls lf lp lo lq st tr pk ou os ts pks (upd H' q o) n:=g.same (zc h)
theorem PlS.mono (g:PlS K H b ls lf lp lo lq st tr pk ou os ts pks H' n) (h:n <= m):PlS K H b ls lf lp lo lq st tr pk ou os ts pks H' m:=⟨g.s,g.bx.mono h,g.nb,g.nn,g.hN,g.hs,g.hf,g.hp,g.ho,g.hq,g.rt,g.rk⟩
theorem PlS.putO {ou':List Nat} (g:PlS K H b ls lf lp lo lq st tr pk ou os ts pks H' n):PlS K H b ls lf lp lo lq st tr pk ou' os ts pks (upd H' lo (.lst (zo ou'))) n:=by
  obtain ⟨n1,n2,n3,n4,n5⟩:=g.nb
  obtain ⟨a1,a2,a3,a4,a5,a6,a7,a8,a9,a10⟩:=g.nn
  have T:=SameT.put (ys:=zo ou') g.ho
  exact ⟨g.s.put g.hN.2.2.2,g.bx.other n4,g.nb,g.nn,g.hN,by rw [zi a3];exact g.hs,by rw [zi a6];exact g.hf,by rw [zi a8];exact g.hp,zb,by rw [zi a10.symm];exact g.hq,g.rt.keep T (qY ts),g.rk.keep T (zG pks)⟩
theorem PlS.putS {st':List Int} (g:PlS K H b ls lf lp lo lq st tr pk ou os ts pks H' n):PlS K H b ls lf lp lo lq st' tr pk ou os ts pks (upd H' ls (.lst (st'.map V.int))) n:=by
  obtain ⟨n1,n2,n3,n4,n5⟩:=g.nb
  obtain ⟨a1,a2,a3,a4,a5,a6,a7,a8,a9,a10⟩:=g.nn
  have T:=SameT.put (ys:=st'.map V.int) g.hs
  exact ⟨g.s.put g.hN.1,g.bx.other n1,g.nb,g.nn,g.hN,zb,by rw [zi a1.symm];exact g.hf,by rw [zi a2.symm];exact g.hp,by rw [zi a3.symm];exact g.ho,by rw [zi a4.symm];exact g.hq,g.rt.keep T (qY ts),g.rk.keep T (zG pks)⟩
theorem PlS.putF {v:V} {t:zN} (g:PlS K H b ls lf lp lo lq st tr pk ou os ts pks H' n) (hv:Rep K H' (qr t) v):PlS K H b ls lf lp lo lq st (tr ++ [v]) pk ou os (ts ++ [t]) pks (upd H' lf (.lst (tr ++ [v]))) n:=by
  obtain ⟨n1,n2,n3,n4,n5⟩:=g.nb
  obtain ⟨a1,a2,a3,a4,a5,a6,a7,a8,a9,a10⟩:=g.nn
  have T:=SameT.put (ys:=tr ++ [v]) g.hf
  refine ⟨g.s.put g.hN.2.1,g.bx.other n2,g.nb,g.nn,g.hN,by rw [zi a1];exact g.hs,zb,by rw [zi a5.symm];exact g.hp,by rw [zi a6.symm];exact g.ho,by rw [zi a7.symm];exact g.hq,?_,g.rk.keep T (zG pks)⟩
  rw [List.map_append]
  exact Reps.snoc (hv.keep T (yJ t)) (g.rt.keep T (qY ts))
theorem PlS.putP {v:V} {p:Nat × Nat} (g:PlS K H b ls lf lp lo lq st tr pk ou os ts pks H' n) (hv:Rep K H' (zZ p) v):PlS K H b ls lf lp lo lq st tr (pk ++ [v]) ou os ts (pks ++ [p]) (upd H' lp (.lst (pk ++ [v]))) n:=by
  obtain ⟨n1,n2,n3,n4,n5⟩:=g.nb
  obtain ⟨a1,a2,a3,a4,a5,a6,a7,a8,a9,a10⟩:=g.nn
  have T:=SameT.put (ys:=pk ++ [v]) g.hp
  refine ⟨g.s.put g.hN.2.2.1,g.bx.other n3,g.nb,g.nn,g.hN,by rw [zi a2];exact g.hs,by rw [zi a5];exact g.hf,zb,by rw [zi a8.symm];exact g.ho,by rw [zi a9.symm];exact g.hq,g.rt.keep T (qY ts),?_⟩
  rw [List.map_append]
  exact Reps.snoc (hv.keep T (by rfl)) (g.rk.keep T (zG pks))
theorem PlS.newP {q:Addr} (g:PlS K H b ls lf lp lo lq st tr pk ou os ts pks H' n) (h:H' q = none):PlS K H b ls lf q lo lq st tr [] ou os ts [] (upd H' q (.lst [])) n:=by
  obtain ⟨n1,n2,n3,n4,n5⟩:=g.nb
  obtain ⟨a1,a2,a3,a4,a5,a6,a7,a8,a9,a10⟩:=g.nn
  have g':=g.new (o:=.lst []) h
  have nq:=g.bx.nne h
  exact ⟨g'.s,g'.bx,⟨n1,n2,nq,n4,n5⟩,⟨a1,zf g.hs h,a3,a4,zf g.hf h,a6,a7,(zf g.ho h).symm,(zf g.hq h).symm,a10⟩,⟨g.hN.1,g.hN.2.1,g.s.none h nq,g.hN.2.2.2⟩,g'.hs,g'.hf,zb,g'.ho,g'.hq,g'.rt,rfl⟩
end
inductive zbM (t:TT) (σ:St) (H:Hp) (Q:Bool -> Hp -> Prop):Prop
  | mk (J:Bool -> Hp -> Prop) (_:t σ H J) (_:∀ c H',J c H' -> Q c H'):zbM t σ H Q
theorem JU {X:Cx} {e:Expr} {t:TT} (h:PT X e t):PT X e (zbM t):=by
  intro pins s σ H Q I hw
  obtain ⟨J,q1,q2⟩:=hw
  exact thn (h pins s σ H J I q1) fun c s1 ⟨H1,I1,q⟩=>⟨H1,I1,q2 _ _ q⟩
section
variable {P:Program} {w:World} {K:PySem.W.Frag} {mg:Str -> Option Value} {base:Heap}
theorem xc {H:Hp} {p:vN} {x:V} (h:Rep K H (jJ p) x):∃ a c,x = .ref a /\ SqT K H a [.str p.k,.ref c,.int p.m] /\ SqT K H c [.int p.x,.int p.y]:=by
  obtain ⟨a,xs,rfl,q,y0,r0,f0,g0,y1,r1,f1,g1,y2,r2,f2,g2,f3⟩:=h
  subst f0 f1 f2
  cases (show r2 = [] from f3)
  cases (show y0 = _ from g0)
  cases (show y2 = _ from g2)
  obtain ⟨c,ys,rfl,q',z0,s0,e0,i0,z1,s1,e1,i1,e2⟩:=g1
  subst e0 e1
  cases (show s1 = [] from e2)
  cases (show z0 = _ from i0)
  cases (show z1 = _ from i1)
  exact ⟨a,c,rfl,q,q'⟩
theorem vU {H:Hp} {p:ZW} {x:V} (h:Rep K H (jf p) x):∃ a c,x = .ref a /\ SqT K H a [.str p.k,.ref c] /\ SqT K H c [.int p.x,.int p.y]:=by
  obtain ⟨a,xs,rfl,q,y0,r0,f0,g0,y1,r1,f1,g1,f3⟩:=h
  subst f0 f1
  cases (show r1 = [] from f3)
  cases (show y0 = _ from g0)
  obtain ⟨c,ys,rfl,q',z0,s0,e0,i0,z1,s1,e1,i1,e2⟩:=g1
  subst e0 e1
  cases (show s1 = [] from e2)
  cases (show z0 = _ from i0)
  cases (show z1 = _ from i1)
  exact ⟨a,c,rfl,q,q'⟩
theorem Js {H:Hp} {α:Type} {f:α -> Dat} {as:List α} {xs:List V} (h:Reps K H (as.map f) xs) {i:Nat} {a:α} (hi:as[i]? = some a):∃ v,xs[i]? = some v /\ Rep K H (f a) v:=by
  have hl:=h.len
  rw [List.length_map] at hl
  have hlt:i < xs.length:=by have:=(List.getElem?_eq_some_iff.mp hi).1;omega
  obtain ⟨d,e,r⟩:=h.get (i:=i) (x:=xs[i]) (by simp [hlt])
  rw [List.getElem?_map,hi] at e
  cases e
  exact ⟨xs[i],by simp [hlt],r⟩
inductive Z9 (K:PySem.W.Frag) (vs:List V) (H:Hp) (Q:VK):Prop
  | mk (b jp:Addr) (J:Job) (ord:List Nat) (most n:Int) (_:vs = [.ref b,.ref jp,.int most]) (_:BoxAt H b n) (_:n < 500000) (_:Rep K H (jQ J) (.ref jp)) (_:JobOk J ord) (_:0 <= most) (_:most <= 100) (_:∀ (l:Addr) (os:List Nat) (ts:List zN) (tr:List V) H',SameB b H H' -> BoxAt H' b (n + 1000) -> l ≠ b -> H l = none -> H' l = some (.lst tr) -> Reps K H' (ts.map qr) tr -> os.Perm (List.range J.ps.length) -> ByOrd os J.as -> Yk J os ts -> Q (.ref l) H'):Z9 K vs H Q
def Q3 (K:PySem.W.Frag):Sp:=fun vs H Q _=>Z9 K vs H Q
theorem Wd:zy ["_law_box_here", "_law_job_here", "_law_most", "_law_stock", "_law_found", "_law_picks", "_law_out", "_law_part", "_law_some", "_law_lost", "_law_at"] ["_law_box_here", "_law_job_here", "_law_most"] (zt (zp 30)):=⟨rfl,rfl,rfl,by decide +kernel,rfl,by decide +kernel,by decide +kernel⟩
def XI (b:_) (jp:_) (most:_) (ls:_) (lf:_) (lo:_) (K:_) (H:_) (lq:_) (os:List Nat) (n:_) (J:Job):=fun (i:Nat) (σ:St) (H':Hp)=>(zcO fun (lp:Addr) (v7 v8 v9 v10:Option V) (st:List Int) (tr pk:List V) (ou:List Nat) (ts:List zN) (pks:List (Nat × Nat))=>An9 (σ = [some (.ref b),some (.ref jp),some (.int most),some (.ref ls),some (.ref lf),some (.ref lp),some (.ref lo),v7,v8,v9,v10]) (PlS K H b ls lf lp lo lq st tr pk ou os ts pks H' (n + 60 + 10 * i)) (st.length = J.fs.length) ((∀ t ∈ ts,ZV J t)) ((∀ p ∈ pks,Jt J p)) ((pks.length:Int) < J.hd) ((jZ ts ++ pks.map (·.1)).Sublist (os.take i)) (ts.length + pks.length <= i) (ou.length <= i):Prop)
def XH (J:Job) (pa:ZW) (H8:_):=fun (i':Nat) (zs:List V) (H9:Hp)=>(Ex1 fun (ks:List Nat)=>An4 (zs = zo ks) (ks.length <= i') ((∀ k' ∈ ks,∃ fe,J.fs[k']? = some fe /\ fe.k = pa.k)) (Same H8 H9):Prop)
def XG (b:_) (jp:_) (most:_) (ls:_) (lf:_) (lp:_) (lo:_) (c:Nat) (lm:_) (v10:_) (H8:_) (ks:List Nat):=fun (σ':St) (H':Hp)=>(Ex1 fun (lost:Bool)=>An4 (σ' = [some (.ref b),some (.ref jp),some (.int most),some (.ref ls),some (.ref lf),some (.ref lp),some (.ref lo),some (.int (c:Int)),some (.ref lm),some (.bl lost),v10]) (Same H8 H') (H' lm = some (.lst (zo ks))) ((lost = false -> ks ≠ [])):Prop)
theorem YL {f:Addr} {fd:FuncData} (F:Fun K "_law_plan" "_law_plan" (zp 30) f fd) (B:Blt mg) (D_take:Dfn P w K mg base "_law_take" 1 ["_law_box_here", "_law_size"] jE) (D_order:Dfn P w K mg base "_law_order" 2 ["_law_box_here", "_law_job_here"] (ZB K)) (D_trip:Dfn P w K mg base "_law_trip" 3 ["_law_box_here", "_law_picks"] (Q1 K)):qA P w K mg base CX0 4 f fd ["_law_box_here", "_law_job_here", "_law_most"] (Q3 K):=by
  have nd:=Wd.nd
  refine F.ok Wd (fun vs H Q E h=>?_) (fun cdv A outer s H vs Q E hr h=>?_)
  · obtain ⟨b,jp,J,ord,most,n,rfl,_⟩:=h
    rfl
  · obtain ⟨b,jp,J,ord,most,n,rfl,B0,hn,rj,jo,mo0,mo1,k⟩:=h
    have hu:=hr.units0
    have hbig:100000 < sizeLine:=by rw [sizeLine_eq];decide
    have pl:=jo.pl
    have al:=jo.al
    have fl:=jo.fl
    have hd0:=jo.hd0
    have hd1:=jo.hd1
    obtain ⟨g,fs,ps,as,qj,_,rf,rp,ra⟩:=QC rj
    obtain ⟨fv,qf,rf'⟩:=vo rf
    obtain ⟨pv',qp,rp'⟩:=vo rp
    obtain ⟨av,qa,ra'⟩:=vo ra
    have lfv:=rf'.len
    rw [List.length_map] at lfv
    have lp:=rp'.len
    rw [List.length_map] at lp
    have la:=ra'.len
    rw [List.length_map] at la
    refine ⟨_,(ze (zv (i:=3) nd rfl (Or.inr rfl) (jd [] [] rfl rfl (by kernel_rfl) (jN (zx qW (pv 1) zg (fun _ _=>rfl))) (fun _ _ _ _=>qR) (fun _ _ _ _=>(zx (qZ (K:=K) rfl) (pv 0) zg (fun _ _=>rfl)))))
      (ze (jm (zO (za (zJ zd) (za (zJ zd) (za (zJ zd) zd)))) (qx rfl (zq (zn (i:=4) nd rfl (Or.inl rfl)) (zq (zn (i:=5) nd rfl (Or.inl rfl)) (zq (zn (i:=6) nd rfl (Or.inr rfl)) zS)))))
      (ze (zU PassesOwn.never rfl (zL (zj D_order (hr.mono (by decide)) rfl (za (pv 0) (za (pv 1) zd)))) (zn (i:=7) nd rfl (Or.inr rfl))
      (ze (ZG ["_law_stock", "_law_part", "_law_job_here"] [3,7,1] rfl rfl (by kernel_rfl) (vq rfl B.enumerate (za (zx qW (pv 1) zg (fun _ _=>rfl)) zd)) (fun _ _ _ _=>(qI (PW.pt (vS (zw jg (zx (qZ (K:=K) rfl) (pv 1) zg (fun _ _=>rfl)) (zx (qZ (K:=K) rfl) (zx (qZ (K:=K) rfl) (zx (qZ (K:=K) rfl) (pv 4) zg (fun _ _=>rfl)) (pv 3) (fun _ _=>rfl)) zg (fun _ _=>rfl)) (zB _)) (xP (zw yY (zx (xb (K:=K) rfl) (pv 2) (pv 0) (fun _ _=>rfl)) zg (zB _))))))) (fun _ _ _ _=>(pv 0)) (zn (i:=8) nd rfl (Or.inl rfl)))
        (ze (xQ (zv (i:=9) nd rfl (Or.inl rfl) (zch (qN (Qn hu) (pv 8) (zJ zd) (zB _)) (wR (zr (Zh rfl) rfl B.any yn (za (jF ["_law_part", "_law_out"] [7,6] rfl rfl (by kernel_rfl) (jN (zx qW (pv 1) zg (fun _ _=>rfl))) (fun _ _ _ _=>qR) (fun _ _ _ _=>(wS (qN jg (pv 1) (pv 2) (zB _)) (wR (qN (jt (K:=K) rfl) (pv 0) (pv 3) (by with_unfolding_all rfl)))))) zd))))))
        (ze (xQ (jz (JU (PW.pt (yV (xi (pv 9)) (vR (PW.pt (vS (zw yY (pv 2) zg (zB _)) (xP (zw jg (zj D_take (hr.mono (by decide)) rfl (za (pv 0) (za (pv 2) zd))) zg (zB _)))))))))
        (zm (qk (jn PySem.F.plainAttrs_list PySem.F.slot_list_append PySem.F.type_list_append zV (pv 6) (za (pv 7) zd))))
        (ze (zv (i:=10) nd rfl (Or.inl rfl) (zx zD (pv 8) (zj D_take (hr.mono (by decide)) rfl (za (pv 0) (za (zr zI rfl B.len boot_len (za (pv 8) zd)) zd))) (fun _ _=>rfl)))
          (ze (jm (zA xC (zx zD (pv 3) (pv 10) (fun _ _=>rfl)) zg) (xB (pv 3) (pv 10) jM))
          (zm (qk (jn PySem.F.plainAttrs_list PySem.F.slot_list_append PySem.F.type_list_append zV (pv 5) (za (zO (za (pv 7) (za (pv 10) zd))) zd))))))))
        (zm (jz (JU (PW.pt (vS (zw (wV hu) (pv 5) (zJ zd) (zB _)) (xP (PW.pt (yV (zw jg (zr zI rfl B.len boot_len (za (pv 5) zd)) (zx qW (pv 1) zg (fun _ _=>rfl)) (zB _)) (vR (zw jg (zj D_take (hr.mono (by decide)) rfl (za (pv 0) (za zg zd))) zg (zB _)))))))))
        (ze (qk (jn PySem.F.plainAttrs_list PySem.F.slot_list_append PySem.F.type_list_append zV (pv 4) (za (zj D_trip (hr.mono (by decide)) rfl (za (pv 0) (za (pv 5) zd))) zd)))
          (zm (zv (i:=5) nd rfl (Or.inl rfl) (zJ zd))))
        qM))))))
      (zm (zE (zA ZJ (pv 4) (zA zbg (zJ (za (zj D_trip (hr.mono (by decide)) rfl (za (pv 0) (za (pv 5) zd))) zd)) (zM wb rfl B.int vF (za (qN (wV hu) (pv 5) (zJ zd) (zB _)) zd))))))))),?_⟩
    refine ⟨_,rfl,jp,_,_,_,rfl,rfl,qj,rfl,fs,rfl,⟨_,qf⟩,jP (K:=K) (a:=fs) (xs:=fv) (fun i zs H1=>zs = ((J.fs.take i).map (·.m)).map V.int /\ Same H H1) ⟨rfl,Same.refl _⟩ (fun i zs H1 ⟨_,sm⟩=>sm.sqT qf) ?_ ?_⟩
    · rintro i x zs H1 hx ⟨rfl,sm⟩
      obtain ⟨d,e1,r1⟩:=(rf'.same sm).get hx
      rw [List.getElem?_map] at e1
      obtain ⟨p,ep,rfl⟩:=Option.map_eq_some_iff.mp e1
      obtain ⟨a,c,rfl,q,q'⟩:=xc r1
      have hi:i < J.fs.length:=(List.getElem?_eq_some_iff.mp ep).1
      refine ⟨rfl,⟨_,rfl,a,_,_,_,rfl,rfl,q,rfl,?_,?_,sm⟩⟩
      · rw [List.length_map,List.length_map,List.length_take];omega
      · rw [zQ ep,List.map_append,List.map_append];rfl
    rintro zs H1 ⟨rfl,sm⟩
    have etk:J.fs.take fv.length = J.fs:=by rw [lfv,List.take_length]
    rw [etk]
    refine ⟨by rw [List.length_map,List.length_map];omega,fun ls hls=>?_⟩
    have st0l:(J.fs.map (·.m)).length = J.fs.length:=List.length_map ..
    generalize J.fs.map (·.m) = st0 at st0l
    have S1:=(SameB.of (b:=b) sm).new (o:=.lst (st0.map V.int)) hls
    have B1:=(B0.same sm).new (o:=.lst (st0.map V.int)) hls
    have LS:upd H1 ls (.lst (st0.map V.int)) ls = some (.lst (st0.map V.int)):=zb
    have NS:H ls = none:=(SameB.of (b:=b) sm).none hls ((B0.same sm).nne hls)
    have nsb:=(B0.same sm).nne hls
    generalize upd H1 ls (.lst (st0.map V.int)) = H2 at S1 B1 LS
    refine ⟨le0,fun lf hlf=>⟨le0,fun lp' hlp=>⟨le0,fun lo hlo=>⟨le3,fun t ht=>?_⟩⟩⟩⟩
    have nfb:=B1.nne hlf
    have NF:=S1.none hlf nfb
    have S2:=S1.new (o:=.lst []) hlf
    have B2:=B1.new (o:=.lst []) hlf
    have LS2:=(zc (o:=.lst []) hlf) _ _ LS
    have LF2:upd H2 lf (.lst []) lf = some (.lst []):=zb
    generalize upd H2 lf (.lst []) = H3 at S2 B2 LS2 LF2 hlp hlo ht
    have npb:=B2.nne hlp
    have NP:=S2.none hlp npb
    have S3:=S2.new (o:=.lst []) hlp
    have B3:=B2.new (o:=.lst []) hlp
    have LS3:=(zc (o:=.lst []) hlp) _ _ LS2
    have LF3:=(zc (o:=.lst []) hlp) _ _ LF2
    have LP3:upd H3 lp' (.lst []) lp' = some (.lst []):=zb
    generalize upd H3 lp' (.lst []) = H4 at S3 B3 LS3 LF3 LP3 hlo ht
    have nob:=B3.nne hlo
    have NO:=S3.none hlo nob
    have S4:=S3.new (o:=.lst []) hlo
    have B4:=B3.new (o:=.lst []) hlo
    have LS4:=(zc (o:=.lst []) hlo) _ _ LS3
    have LF4:=(zc (o:=.lst []) hlo) _ _ LF3
    have LP4:=(zc (o:=.lst []) hlo) _ _ LP3
    have LO4:upd H4 lo (.lst []) lo = some (.lst []):=zb
    have a1:ls ≠ lf:=zf LS hlf
    have a2:ls ≠ lp':=zf LS2 hlp
    have a3:ls ≠ lo:=zf LS3 hlo
    have a5:lf ≠ lp':=zf LF2 hlp
    have a6:lf ≠ lo:=zf LF3 hlo
    have a8:lp' ≠ lo:=zf LP3 hlo
    generalize upd H4 lo (.lst []) = H5 at S4 B4 LS4 LF4 LP4 LO4 ht
    have s5:=zc (o:=.tup [.ref lf,.ref lp',.ref lo]) ht
    have T5:upd H5 t (.tup [.ref lf,.ref lp',.ref lo]) t = some (.tup [.ref lf,.ref lp',.ref lo]):=zb
    have S5:=S4.new (o:=.tup [.ref lf,.ref lp',.ref lo]) ht
    have B5:=B4.new (o:=.tup [.ref lf,.ref lp',.ref lo]) ht
    have LS5:=s5 _ _ LS4
    have LF5:=s5 _ _ LF4
    have LP5:=s5 _ _ LP4
    have LO5:=s5 _ _ LO4
    generalize upd H5 t (.tup [.ref lf,.ref lp',.ref lo]) = H6 at s5 T5 S5 B5 LS5 LF5 LP5 LO5
    refine ⟨t,_,rfl,SqT.of T5,rfl,_,_,rfl,_,_,rfl,_,_,rfl,rfl,?_⟩
    clear S1 S2 S3 S4 B1 B2 B3 B4 LS LS2 LS3 LS4 LF2 LF3 LF4 LP3 LP4 LO4 hls hlf hlp hlo ht s5 T5
    have rj6:=rj.keep (SameT.draw B0 S5) (vz J)
    refine ⟨_,rfl,_,rfl,b,jp,J,ord,n,rfl,B5.mono (by omega),by omega,rj6,jo,fun lq os H7 S7 B7 nqb hqN LQ7 pm ob=>?_⟩
    have osl:os.length = J.ps.length:=by have:=pm.length_eq;rwa [List.length_range] at this
    have a4:ls ≠ lq:=zf LS5 hqN
    have a7:lf ≠ lq:=zf LF5 hqN
    have a9:lp' ≠ lq:=zf LP5 hqN
    have a10:lo ≠ lq:=zf LO5 hqN
    have g0:PlS K H b ls lf lp' lo lq st0 [] [] [] os [] [] H7 (n + 60):=⟨S5.trans S7,B7,⟨nsb,nfb,npb,nob,nqb⟩,⟨a1,a2,a3,a4,a5,a6,a7,a8,a9,a10⟩,⟨NS,NF,NP,NO⟩,S7 _ _ LS5 nsb,S7 _ _ LF5 nfb,S7 _ _ LP5 npb,S7 _ _ LO5 nob,LQ7,rfl,rfl⟩
    clear S5 S7 B5 B7 LS5 LF5 LP5 LO5 LQ7 hqN rj6 sm
    refine ⟨lq,rfl,⟨_,SqL.of g0.hq⟩,qL (K:=K) (a:=lq) (xs:=zo os) (XI b jp most ls lf lo K H lq os n J)
      ⟨lp',none,none,none,none,st0,[],[],[],[],[],rfl,g0.mono (by omega),st0l,(fun _ h=>nomatch h),(fun _ h=>nomatch h),(by show ((0:Nat):Int) < _;omega),List.Sublist.refl _,Nat.le_refl _,Nat.le_refl _⟩
      (fun i σ H' _ ⟨_,_,_,_,_,_,_,_,_,_,_,_,g,_,_,_,_,_,_,_⟩=>SqL.of g.hq) ?_ ?_⟩
    · rintro i x σ H8 hx ⟨lp,v7,v8,v9,v10,st,tr,pk,ou,ts,pks,rfl,g,stl,tok,pok,pkl,sub,cnt,oul⟩
      obtain ⟨c,ec,rfl⟩:=vy hx
      have hi:i < os.length:=(List.getElem?_eq_some_iff.mp ec).1
      have hc:c < J.ps.length:=List.mem_range.mp (pm.mem_iff.mp (List.mem_of_getElem? ec))
      obtain ⟨pa,epa⟩:∃ pa,J.ps[c]? = some pa:=⟨J.ps[c],by simp [hc]⟩
      have T8:=SameT.draw B0 g.s
      have qj8:=qj.keep T8
      have qf8:=qf.keep T8
      have qp8:=qp.keep T8
      have qa8:=qa.keep T8
      have rf8:=rf'.keep T8 (ju J.fs)
      have rp8:=rp'.keep T8 (je J.ps)
      have ra8:=ra'.keep T8 (zG J.as)
      obtain ⟨pv0,epv,rpv⟩:=Js rp8 epa
      obtain ⟨pad,pac,rfl,qpa,_⟩:=vU rpv
      refine ⟨_,rfl,jp,_,_,_,rfl,rfl,qj8,rfl,fs,rfl,⟨_,qf8⟩,w9 (K:=K) (a:=fs) (xs:=fv) (XH J pa H8) ⟨[],rfl,Nat.le_refl _,(fun _ h=>nomatch h),Same.refl _⟩ (fun i' zs H9 ⟨_,_,_,_,sm⟩=>sm.sqT qf8) ?_ ?_⟩
      · rintro i' x zs H9 T hx' ⟨ks,rfl,kl,kk,sm⟩ hT
        obtain ⟨d,e1,r1⟩:=(rf8.same sm).get hx'
        rw [List.getElem?_map] at e1
        obtain ⟨fe,efe,rfl⟩:=Option.map_eq_some_iff.mp e1
        have hi':i' < J.fs.length:=(List.getElem?_eq_some_iff.mp efe).1
        have sT:=sm.trans (zc (o:=.tup [.int (i':Int),x]) hT)
        obtain ⟨fa,fc,rfl,qfa,_⟩:=xc (r1.same (zc (o:=.tup [.int (i':Int),x]) hT))
        refine ⟨T,_,rfl,SqT.of zb,rfl,_,_,rfl,_,_,rfl,rfl,rfl,?_⟩
        refine ⟨_,rfl,fa,_,_,_,rfl,rfl,qfa,rfl,_,rfl,jp,_,_,_,rfl,rfl,sT.sqT qj8,rfl,_,rfl,ps,_,_,_,rfl,rfl,sT.sqT qp8,qm epv,pad,_,_,_,rfl,rfl,sT.sqT qpa,rfl,rfl,_,rfl,qO (fun c1=>?_) (fun c1=>?_)⟩
        · have ek:fe.k = pa.k:=by have:=of_decide_eq_true c1;exact V.str.inj this
          have hst:i' < st.length:=by omega
          refine ⟨_,rfl,_,rfl,ls,_,_,.int st[i'],rfl,rfl,SqL.of (sT _ _ g.hs),qm (by rw [List.getElem?_map,List.getElem?_eq_getElem hst];rfl),_,_,rfl,rfl,_,rfl,qO (fun c2=>?_) (fun c2=>?_)⟩
          · refine ⟨_,rfl,by rw [zu];omega,ks ++ [i'],?_,by rw [List.length_append];show _ + 1 <= _;omega,fun k' hk'=>?_,sT⟩
            · unfold zo
              rw [List.map_append]
              rfl
            · rcases List.mem_append.mp hk' with z | z
              · exact kk k' z
              · rw [List.mem_singleton.mp z]
                exact ⟨fe,efe,ek⟩
          · exact ⟨ks,rfl,by omega,kk,sT⟩
        · exact ifF rfl ⟨ks,rfl,by omega,kk,sT⟩
      rintro zs H9 ⟨ks,rfl,kl,kk,sm⟩
      refine ⟨by rw [zu];omega,fun lm hlm=>?_⟩
      have sm1:=sm.trans (zc (o:=.lst (zo ks)) hlm)
      have LM:upd H9 lm (.lst (zo ks)) lm = some (.lst (zo ks)):=zb
      have nmb:lm ≠ b:=(g.same sm).bx.nne hlm
      generalize upd H9 lm (.lst (zo ks)) = Ha at sm1 LM
      clear sm hlm
      refine ⟨XG b jp most ls lf lp lo c lm v10 H8 ks,?_,?_⟩
      · refine ⟨_,rfl,le0,fun q hq=>⟨lm,q,zo ks,rfl,rfl,SqL.of ((zc hq) _ _ LM),SqL.of zb,_,rfl,qO (fun c1=>?_) (fun c1=>?_)⟩⟩
        · exact ⟨true,rfl,sm1.trans (zc hq),(zc hq) _ _ LM,fun z=>nomatch z⟩
        · have kne:ks ≠ []:=fun z=>c1 (by rw [z];rfl)
          have sm2:=sm1.trans (zc (o:=.lst []) hq)
          have LM2:=(zc (o:=.lst []) hq) _ _ LM
          generalize upd Ha q (.lst []) = Hb at sm2 LM2
          refine ⟨_,rfl,jp,_,_,_,rfl,rfl,sm2.sqT qj8,rfl,as,rfl,⟨_,sm2.sqT qa8⟩,jP (K:=K) (a:=as) (xs:=av) (fun i' zs H9=>∃ bs:List Bool,zs = bs.map V.bl /\ bs.length <= i' /\ Same Hb H9) ⟨[],rfl,Nat.le_refl _,Same.refl _⟩ (fun i' zs H9 ⟨_,_,_,sm⟩=>(sm2.trans sm).sqT qa8) ?_ ?_⟩
          · rintro i' x zs H9 hx' ⟨bs,rfl,bl,sm⟩
            obtain ⟨d,e1,r1⟩:=(ra8.same (sm2.trans sm)).get hx'
            rw [List.getElem?_map] at e1
            obtain ⟨p,ep,rfl⟩:=Option.map_eq_some_iff.mp e1
            obtain ⟨pp,rfl,qpp⟩:=qD r1
            have hi':i' < J.as.length:=(List.getElem?_eq_some_iff.mp ep).1
            refine ⟨pp,_,rfl,qpp,rfl,_,_,rfl,_,_,rfl,rfl,rfl,?_⟩
            refine ⟨_,rfl,_,rfl,rfl,_,rfl,qO (fun c2=>?_) (fun c2=>?_)⟩
            · refine ⟨_,rfl,_,rfl,lo,zo ou,rfl,.inl (SqL.of ((sm2.trans sm) _ _ g.ho)),rfl,qJ _,by rw [List.length_map];omega,bs ++ [inV (.int (p.1:Int)) (zo ou)],?_,by rw [List.length_append];show _ + 1 <= _;omega,sm⟩
              rw [List.map_append]
              rfl
            · refine ⟨by rw [List.length_map];omega,bs ++ [false],?_,by rw [List.length_append];show _ + 1 <= _;omega,sm⟩
              rw [List.map_append]
              rfl
          · rintro zs H9 ⟨bs,rfl,bl,sm⟩
            refine ⟨by rw [List.length_map];omega,fun D hD=>⟨D,bs,rfl,SqL.of zb,?_⟩⟩
            have sm3:=(sm2.trans sm).trans (zc (o:=.lst (bs.map V.bl)) hD)
            exact ⟨bs.any id,rfl,sm3,(zc (o:=.lst (bs.map V.bl)) hD) _ _ (sm _ _ LM2),fun _=>kne⟩
      rintro σ' Hb ⟨lost,rfl,sm2,LM2,kne⟩
      have g2:=g.same sm2
      clear sm1 LM
      have sub1:(jZ ts ++ pks.map (·.1)).Sublist (os.take (i + 1)):=sub.trans (by rw [zQ ec];exact List.sublist_append_left _ _)
      have eO:zo ou ++ [V.int (c:Int)] = zo (ou ++ [c]):=by unfold zo;rw [List.map_append];rfl
      refine ⟨fun σ' H'=>Ex5 fun (v10:Option V) (st':List Int) (pk':List V) (ou':List Nat) (pks':List (Nat × Nat))=>An8 (σ' = [some (.ref b),some (.ref jp),some (.int most),some (.ref ls),some (.ref lf),some (.ref lp),some (.ref lo),some (.int (c:Int)),some (.ref lm),some (.bl lost),v10]) (PlS K H b ls lf lp lo lq st' tr pk' ou' os ts pks' H' (n + 60 + 10 * i + 3)) (st'.length = J.fs.length) ((∀ p ∈ pks',Jt J p)) ((pks'.length:Int) <= J.hd) ((jZ ts ++ pks'.map (·.1)).Sublist (os.take (i + 1))) (ts.length + pks'.length <= i + 1) (ou'.length <= i + 1),?_,?_⟩
      · have outC:∀ (H':Hp) (m:Int),PlS K H b ls lf lp lo lq st tr pk ou os ts pks H' m -> m <= n + 60 + 10 * i + 3 -> PlS K H b ls lf lp lo lq st tr pk (ou ++ [c]) os ts pks (upd H' lo (.lst (zo ou ++ [V.int (c:Int)]))) (n + 60 + 10 * i + 3):=fun H' m g' hm=>by
          rw [eO]
          exact (g'.mono hm).putO
        have oul2:(ou ++ [c]).length <= i + 1:=by rw [List.length_append];show _ + 1 <= _;omega
        refine ⟨fun (d:Bool) (H':Hp)=>PlS K H b ls lf lp lo lq st tr pk ou os ts pks H' (n + 60 + 10 * i + 1) /\ H' lm = some (.lst (zo ks)) /\ (d = false -> ks ≠ []),?_,?_⟩
        · refine ⟨_,rfl,_,rfl,qO (fun c1=>⟨g2.mono (by omega),LM2,(fun z=>nomatch z)⟩) (fun c1=>?_)⟩
          have kne':=kne (by simpa using c1)
          exact ⟨_,rfl,_,_,rfl,rfl,_,rfl,qO (fun c2=>⟨_,rfl,_,rfl,b,most,_,rfl,g2.bx,by omega,of_decide_eq_true c2,by omega,fun r Hc r0 r1 Bc Sc=>⟨rfl,_,rfl,(g2.draw Sc Bc).mono (by omega),Sc _ _ LM2 nmb,fun _=>kne'⟩⟩) (fun c2=>⟨g2.mono (by omega),LM2,fun _=>kne'⟩)⟩
        rintro d Hc ⟨g3,LM3,kn⟩
        refine qO (fun c1=>?_) (fun c1=>?_)
        · exact ⟨_,rfl,.inl ⟨rfl,_,SqL.of g3.ho⟩,_,rfl,lo,_,_,rfl,rfl,g3.ho,by rw [zu];omega,_,st,pk,ou ++ [c],pks,rfl,outC _ _ g3 (by omega),stl,pok,by omega,sub1,by omega,oul2⟩
        · have kpos:0 < ks.length:=List.length_pos_iff.mpr (kn (by simpa using c1))
          refine ⟨_,rfl,_,rfl,_,rfl,lm,_,rfl,.inl (SqL.of LM3),b,_,_,rfl,g3.bx,by omega,by rw [zu];omega,by rw [zu];omega,fun r' Hd r0' r1' Bd Sd=>?_⟩
          rw [zu] at r1'
          have hr':r'.toNat < ks.length:=by omega
          have er':atI (zo ks) r' = some (.int ((ks[r'.toNat]:Nat):Int)):=by
            have er:(zo ks)[r'.toNat]? = some (.int ((ks[r'.toNat]:Nat):Int)):=by
              unfold zo
              rw [List.getElem?_map,List.getElem?_eq_getElem hr']
              rfl
            have:=qm er
            rwa [show ((r'.toNat:Nat):Int) = r' by omega] at this
          obtain ⟨fe,efe,ekf⟩:=kk _ (List.getElem_mem hr')
          generalize ks[r'.toNat] = kf at er' efe
          have hkf:kf < J.fs.length:=(List.getElem?_eq_some_iff.mp efe).1
          have hst:kf < st.length:=by omega
          have g5:=g3.draw Sd Bd
          refine ⟨lm,_,_,_,rfl,rfl,SqL.of (Sd _ _ LM3 nmb),er',?_⟩
          refine ⟨_,rfl,_,rfl,ls,_,_,.int st[kf],rfl,rfl,SqL.of g5.hs,qm (by rw [List.getElem?_map,List.getElem?_eq_getElem hst];rfl),_,_,rfl,rfl,_,rfl,_,rfl,ls,_,_,kf,rfl,rfl,g5.hs,vB (by rw [List.length_map];omega),?_⟩
          have eS:(st.map V.int).set kf (V.int (st[kf] - 1)) = (st.set kf (st[kf] - 1)).map V.int:=by rw [List.map_set]
          rw [eS]
          have g6:=g5.putS (st':=st.set kf (st[kf] - 1))
          generalize upd Hd ls (.lst ((st.set kf (st[kf] - 1)).map V.int)) = He at g6
          refine ⟨_,rfl,.inl ⟨rfl,_,SqL.of g6.hp⟩,_,rfl,_,rfl,le2,fun q hq=>?_⟩
          have g7:=g6.new (o:=.tup [.int (c:Int),.int (kf:Int)]) hq
          have rq:Rep K (upd He q (.tup [.int (c:Int),.int (kf:Int)])) (zZ (c,kf)) (.ref q):=⟨q,_,rfl,SqT.of zb,_,_,rfl,rfl,_,_,rfl,rfl,rfl⟩
          have pkn:pk.length = pks.length:=by have:=g.rk.len;rwa [List.length_map] at this
          refine ⟨lp,_,_,rfl,rfl,g7.hp,by omega,_,st.set kf (st[kf] - 1),pk ++ [.ref q],ou,pks ++ [(c,kf)],rfl,(g7.putP rq).mono (by omega),by rw [List.length_set];exact stl,fun p' hp'=>?_,by rw [List.length_append];show ((_ + 1:Nat):Int) <= _;omega,?_,by rw [List.length_append];show _ + (_ + 1) <= _;omega,by omega⟩
          · rcases List.mem_append.mp hp' with z | z
            · exact pok p' z
            · rw [List.mem_singleton.mp z]
              exact ⟨pa,fe,epa,efe,ekf⟩
          · rw [List.map_append,<- List.append_assoc,zQ ec]
            exact sub.append (List.Sublist.refl _)
      rintro σ' Hc ⟨v10',st',pk',ou',pks',rfl,g4,stl',pok',pkl',sub',cnt',oul'⟩
      have pkn:pk'.length = pks'.length:=by have:=g4.rk.len;rwa [List.length_map] at this
      have trn:tr.length = ts.length:=by have:=g4.rt.len;rwa [List.length_map] at this
      have T9:=SameT.draw B0 g4.s
      refine ⟨fun (d:Bool) (H':Hp)=>PlS K H b ls lf lp lo lq st' tr pk' ou' os ts pks' H' (n + 60 + 10 * i + 4) /\ (d = true -> 1 <= pks'.length) /\ (d = false -> (pks'.length:Int) < J.hd),?_,?_⟩
      · refine ⟨_,rfl,le0,fun q hq=>⟨lp,q,_,rfl,rfl,SqL.of (g4.new (o:=.lst []) hq).hp,SqL.of zb,_,rfl,qO (fun c1=>?_) (fun c1=>?_)⟩⟩
        · have g5:=g4.new (o:=.lst []) hq
          have qj5:=(qj.keep T9).keep (SameT.of (zc (o:=.lst []) hq))
          generalize upd Hc q (.lst []) = Hd at g5 qj5
          have pne:1 <= pks'.length:=by
            cases pk' with
            | nil=>cases c1
            | cons x r=>simp at pkn;omega
          refine ⟨_,rfl,lp,_,rfl,.inl (SqL.of g5.hp),_,rfl,jp,_,_,_,rfl,rfl,qj5,rfl,rfl,_,rfl,qO (fun c2=>⟨g5.mono (by omega),fun _=>pne,fun z=>nomatch z⟩) (fun c2=>⟨_,rfl,b,3,_,rfl,g5.bx,by omega,by decide,by decide,fun r He r0 r1 Be Se=>⟨rfl,_,rfl,(g5.draw Se Be).mono (by omega),fun _=>pne,fun _=>?_⟩⟩)⟩
          have hne:¬ (pk'.length:Int) = J.hd:=fun z=>c2 (by rw [z];simp)
          omega
        · have pe:pks' = []:=by
            cases pks' with
            | nil=>rfl
            | cons x r=>
              cases pk' with
              | nil=>simp at pkn
              | cons y r'=>exact absurd rfl c1
          exact ⟨(g4.new (o:=.lst []) hq).mono (by omega),(fun z=>nomatch z),fun _=>by rw [pe];show ((0:Nat):Int) < _;omega⟩
      rintro d Hd ⟨G,pne,hlt⟩
      refine qO (fun c1=>?_) (fun c1=>?_)
      · have pne:=pne c1
        refine ⟨_,rfl,.inl ⟨rfl,_,SqL.of G.hf⟩,_,rfl,_,rfl,b,lp,_,pk',pks',rfl,G.bx,by omega,G.nb.2.2.1,G.hp,G.rk,by omega,fun p sh Hg Sg Bg shp rt=>?_⟩
        have G2:=G.draw Sg Bg
        have shl:sh.length = pks'.length:=shp.length_eq
        refine ⟨lf,_,_,rfl,rfl,G2.hf,by omega,?_⟩
        have G3:=G2.putF rt
        generalize upd Hg lf (.lst (tr ++ [.ref p])) = Hh at G3
        refine ⟨le0,fun lp2 hlp2=>⟨lp2,_,_,_,_,st',tr ++ [.ref p],[],ou',ts ++ [⟨sh,pks'.map (·.1)⟩],[],rfl,(G3.newP hlp2).mono (by omega),stl',?_,(fun _ h=>nomatch h),(by show ((0:Nat):Int) < _;omega),?_,?_,oul'⟩⟩
        · intro t' ht'
          rcases List.mem_append.mp ht' with z | z
          · exact tok t' z
          · rw [List.mem_singleton.mp z]
            exact ⟨by show 1 <= sh.length;omega,by show (sh.length:Int) <= _;omega,fun p' hp'=>pok' p' (shp.mem_iff.mp hp'),(shp.map (·.1)).symm⟩
        · rw [we]
          simpa using sub'
        · rw [List.length_append]
          show _ + 1 + 0 <= _
          omega
      · exact ⟨lp,_,_,_,_,st',tr,pk',ou',ts,pks',rfl,G.mono (by omega),stl',tok,pok',hlt (by simpa using c1),sub',cnt',oul'⟩
    · rintro σ H8 ⟨lp,v7,v8,v9,v10,st,tr,pk,ou,ts,pks,rfl,g,stl,tok,pok,pkl,sub,cnt,oul⟩
      rw [zu] at sub cnt oul
      rw [zu] at g
      rw [List.take_length] at sub
      have pkn:pk.length = pks.length:=by have:=g.rk.len;rwa [List.length_map] at this
      have trn:tr.length = ts.length:=by have:=g.rt.len;rwa [List.length_map] at this
      refine ⟨_,rfl,_,rfl,_,rfl,b,lp,_,pk,pks,rfl,g.bx,by omega,g.nb.2.2.1,g.hp,g.rk,by omega,fun p sh Hg Sg Bg shp rt=>?_⟩
      have g2:=g.draw Sg Bg
      have shl:sh.length = pks.length:=shp.length_eq
      refine ⟨le1,fun l1 hl1=>?_⟩
      have g3:=g2.new (o:=.lst [.ref p]) hl1
      have rt3:=rt.same (zc (o:=.lst [.ref p]) hl1)
      have L1:upd Hg l1 (.lst [.ref p]) l1 = some (.lst [.ref p]):=zb
      generalize upd Hg l1 (.lst [.ref p]) = Hh at g3 rt3 L1
      refine ⟨_,rfl,le0,fun q hq=>⟨lp,q,_,rfl,rfl,SqL.of (g3.new (o:=.lst []) hq).hp,SqL.of zb,.inr ⟨_,rfl,l1,_,_,rfl,rfl,(zc hq) _ _ L1,?_,?_,?_,fun l2 hl2=>?_⟩⟩⟩
      · split <;> decide
      · split <;> decide
      · show 1 * _ <= sizeLine
        split <;> (first | (show 1 * 1 <= _;omega) | (show 1 * 0 <= _;omega))
      have g4:=g3.new (o:=.lst []) hq
      have rt4:=rt3.same (zc (o:=.lst []) hq)
      generalize upd Hh q (.lst []) = Hi at g4 rt4 hl2
      have fin:∀ (zs:List V) (us:List zN),Reps K Hi (us.map qr) zs -> zs.length <= 1 -> us.length + ts.length <= 60 -> (∀ t ∈ us,ZV J t) -> (jZ (ts ++ us)).Sublist os -> za6 (V.ref lf) (V.ref l2) (upd Hi l2 (.lst zs)) Q:=by
        intro zs us rz zl ul uo us'
        have g5:=g4.new (o:=.lst zs) hl2
        have rz5:=rz.same (zc (o:=.lst zs) hl2)
        refine ⟨lf,l2,tr,zs,rfl,rfl,g5.hf,zb,by omega,fun l3 hl3=>?_⟩
        have n3:=g5.bx.nne hl3
        have g6:=g5.new (o:=.lst (tr ++ zs)) hl3
        refine k l3 os (ts ++ us) (tr ++ zs) _ g6.s (g6.bx.mono (by omega)) n3 (g5.s.none hl3 n3) zb ?_ pm ob ⟨fun t ht=>?_,us',by rw [List.length_append];omega⟩
        · rw [List.map_append]
          exact Reps.app g6.rt (rz5.same (zc hl3))
        · rcases List.mem_append.mp ht with z | z
          · exact tok t z
          · exact uo t z
      cases pks with
      | nil=>
        have e:pk = []:=List.length_eq_zero_iff.mp (by rw [pkn];rfl)
        subst e
        exact fin [] [] rfl (Nat.zero_le _) (by show 0 + _ <= _;omega) (fun _ h=>nomatch h) (by rw [List.append_nil];simpa using sub)
      | cons x r=>
        have hne:∃ y r',pk = y :: r':=by
          cases pk with
          | nil=>simp at pkn
          | cons y r'=>exact ⟨y,r',rfl⟩
        obtain ⟨y,r',rfl⟩:=hne
        refine fin [.ref p] [⟨sh,(x :: r).map (·.1)⟩] ⟨_,_,rfl,rt4,rfl⟩ (Nat.le_refl _) (by simp at cnt;show 1 + _ <= _;omega) (fun t ht=>?_) (by rw [we];exact sub)
        rw [List.mem_singleton.mp ht]
        exact ⟨by show 1 <= sh.length;rw [shl];exact Nat.succ_le_succ (Nat.zero_le _),by show (sh.length:Int) <= _;omega,fun p' hp'=>pok p' (shp.mem_iff.mp hp'),(shp.map (·.1)).symm⟩
end
section
variable {P:Program} {w:World} {K:PySem.W.Frag} {mg:Str -> Option Value} {base:Heap}
def prD (p:Int × Int):Dat:=.tup [.int p.1,.int p.2]
inductive yM (K:PySem.W.Frag) (vs:List V) (H:Hp) (Q:VK):Prop
  | mk (t:Addr) (xs:List V) (as:List (Int × Int)) (_:vs = [.ref t]) (_:SqT K H t xs) (_:Reps K H (as.map prD) xs) (_:as.length <= 1000) (_:∀ (l:Addr) (ys:List V) H',Same H H' -> H' l = some (.lst ys) -> Reps K H' (as.map fun p=>prD p.swap) ys -> Q (.ref l) H'):yM K vs H Q
def Zw (K:PySem.W.Frag):Sp:=fun vs H Q _=>yM K vs H Q
theorem JI:zy ["pairs"] ["pairs"] (zt (zp 1)):=⟨rfl,rfl,rfl,by decide +kernel,rfl,by decide +kernel,by decide +kernel⟩
theorem Wz {f:Addr} {fd:FuncData} (F:Fun K "turned" "turned" (zp 1) f fd) (B:Blt mg):qA P w K mg base CX0 1 f fd ["pairs"] (Zw K):=by
  have nd:=JI.nd
  refine F.ok JI (fun vs H Q E h=>?_) (fun cdv A outer s H vs Q E hr h=>?_)
  · obtain ⟨t,xs,as,rfl,_⟩:=h
    rfl
  · obtain ⟨t,xs,as,rfl,ht,rp,la,k⟩:=h
    have hbig:100000 < sizeLine:=by rw [sizeLine_eq];decide
    have lx:=rp.len
    rw [List.length_map] at lx
    refine ⟨_,(zm (zE (jF [] [] rfl rfl (by kernel_rfl) (jN (pv 0)) (fun _ _ _ _=>qR) (fun _ _ _ _=>(zO (za (pv 1) (za (pv 0) zd))))))),?_⟩
    have l2:∀ x y:V,[x,y].length <= sizeLine:=fun x y=>by rw [sizeLine_eq];show 2 <= _;decide
    refine ⟨_,rfl,t,rfl,⟨_,ht⟩,jP (K:=K) (a:=t) (xs:=xs) (fun i zs H'=>Reps K H' ((as.take i).map fun p=>prD p.swap) zs /\ Same H H') ⟨rfl,Same.refl _⟩ (fun i zs H' ⟨_,sm⟩=>sm.sqT ht) ?_ ?_⟩
    · rintro i x zs H1 hx ⟨rz,sm⟩
      obtain ⟨d,e1,r1⟩:=(rp.same sm).get hx
      rw [List.getElem?_map] at e1
      obtain ⟨p,ep,rfl⟩:=Option.map_eq_some_iff.mp e1
      have hi:i < as.length:=(List.getElem?_eq_some_iff.mp ep).1
      obtain ⟨a,ws,rfl,qa,x1,r1',rfl,e2,x2,r2',rfl,e3,e4⟩:=r1
      cases e2
      cases e3
      cases e4
      refine ⟨a,_,rfl,qa,rfl,_,_,rfl,_,_,rfl,rfl,rfl,?_⟩
      refine ⟨_,rfl,_,rfl,l2 _ _,fun q hq=>⟨?_,?_,sm.trans (zc hq)⟩⟩
      · have:=rz.len
        rw [List.length_map,List.length_take] at this
        omega
      · have e5:as.take (i + 1) = as.take i ++ [p]:=by
          obtain ⟨h1,h2⟩:=List.getElem?_eq_some_iff.mp ep
          rw [<- h2,List.take_append_getElem]
        rw [e5,List.map_append]
        exact Reps.snoc (d:=prD p.swap) ⟨q,_,rfl,SqT.of zb,_,_,rfl,rfl,_,_,rfl,rfl,rfl⟩ (rz.same (zc hq))
    · rintro zs H1 ⟨rz,sm⟩
      rw [lx,List.take_length] at rz
      refine ⟨by have:=rz.len;rw [List.length_map] at this;omega,fun l hl=>k l zs _ (sm.trans (zc hl)) zb (rz.same (zc hl))⟩
end
section
variable {P:Program} {w:World} {K:PySem.W.Frag} {mg:Str -> Option Value} {base:Heap}
def xg (as:List (Int × Int)) (i:Int):List Int:=(as.filter fun p=>decide (p.1 = i)).map (·.2)
structure NB (H0 H:Hp) (kvs:List (Key × V)) (as:List (Int × Int)):Prop where
  at_:∀ i v,z9 kvs (Sum.inl i) = some v -> ∃ l,v = .ref l /\ H0 l = none /\ H l = some (.lst ((xg as i).map V.int))
  no:∀ i,z9 kvs (Sum.inl i) = none -> xg as i = []
  inj:∀ i j l,z9 kvs (Sum.inl i) = some (.ref l) -> z9 kvs (Sum.inl j) = some (.ref l) -> i = j
  few:kvs.length <= as.length
theorem xO (as:List (Int × Int)) (x y i:Int):xg (as ++ [(x,y)]) i = xg as i ++ (if x = i then [y] else []):=by
  unfold xg
  rw [List.filter_append,List.map_append]
  congr 1
  by_cases h:x = i <;> simp [h]
theorem Yn (as:List (Int × Int)) (i:Int):(xg as i).length <= as.length:=by
  unfold xg
  rw [List.length_map]
  exact List.length_filter_le _ _
theorem NB.old {H0 H H1:Hp} {kvs:List (Key × V)} {as:List (Int × Int)} {x y:Int} {l:Addr} (n:NB H0 H kvs as) (s:Same H H1) (e:z9 kvs (Sum.inl x) = some (.ref l)) :
    NB H0 (upd H1 l (.lst ((xg as x).map V.int ++ [.int y]))) kvs (as ++ [(x,y)]):=by
  refine ⟨fun i v hv=>?_,fun i hv=>?_,n.inj,by rw [List.length_append];have:=n.few;omega⟩
  · obtain ⟨l',rfl,h0,h1⟩:=n.at_ i v hv
    refine ⟨l',rfl,h0,?_⟩
    rw [xO]
    by_cases hx:x = i
    · subst hx
      rw [e] at hv
      cases hv
      rw [zb,if_pos rfl,List.map_append]
      rfl
    · have ne:l' ≠ l:=fun z=>hx (n.inj x i l e (by rw [<- z];exact hv))
      rw [zi ne,if_neg hx,List.append_nil]
      exact s _ _ h1
  · rw [xO,n.no i hv,if_neg (fun z=>by rw [<- z,e] at hv;cases hv)]
    rfl
theorem NB.new {H0 H:Hp} {kvs:List (Key × V)} {as:List (Int × Int)} {x y:Int} {m d:Addr} (n:NB H0 H kvs as) (hm:H m = none) (h0:H0 m = none) (hd:H d = some (.dK kvs)) (e:z9 kvs (Sum.inl x) = none) :
    NB H0 (upd (upd (upd H m (.lst [])) d (.dK (qV kvs (Sum.inl x) (.ref m)))) m (.lst ([] ++ [.int y]))) (qV kvs (Sum.inl x) (.ref m)) (as ++ [(x,y)]):=by
  have old:∀ i l,z9 kvs (Sum.inl i) = some (.ref l) -> H l = some (.lst ((xg as i).map V.int)) /\ l ≠ m /\ l ≠ d:=fun i l h=>by
    obtain ⟨l',z,_,h1⟩:=n.at_ i _ h
    cases z
    refine ⟨h1,fun z=>?_,fun z=>?_⟩
    · rw [z,hm] at h1;cases h1
    · rw [z,hd] at h1;cases h1
  refine ⟨fun i v hv=>?_,fun i hv=>?_,fun i j l hi hj=>?_,?_⟩
  · rw [wG] at hv
    rw [xO]
    by_cases hx:i = x
    · subst hx
      rw [if_pos rfl] at hv
      cases hv
      refine ⟨m,rfl,h0,?_⟩
      rw [zb,n.no _ e,if_pos rfl]
      rfl
    · rw [if_neg (fun z=>hx (Sum.inl.inj z))] at hv
      obtain ⟨l,rfl,h1,h2⟩:=n.at_ i v hv
      obtain ⟨_,n1,n2⟩:=old i l hv
      refine ⟨l,rfl,h1,?_⟩
      rw [zi n1,zi n2,zi n1,if_neg (Ne.symm hx),List.append_nil]
      exact h2
  · rw [wG] at hv
    by_cases hx:i = x
    · subst hx;rw [if_pos rfl] at hv;cases hv
    · rw [if_neg (fun z=>hx (Sum.inl.inj z))] at hv
      rw [xO,n.no i hv,if_neg (Ne.symm hx)]
      rfl
  · rw [wG] at hi hj
    by_cases h1:i = x <;> by_cases h2:j = x
    · rw [h1,h2]
    · rw [if_pos (by rw [h1])] at hi
      rw [if_neg (fun z=>h2 (Sum.inl.inj z))] at hj
      cases hi
      exact absurd rfl (old j _ hj).2.1
    · rw [if_neg (fun z=>h1 (Sum.inl.inj z))] at hi
      rw [if_pos (by rw [h2])] at hj
      cases hj
      exact absurd rfl (old i _ hi).2.1
    · rw [if_neg (fun z=>h1 (Sum.inl.inj z))] at hi
      rw [if_neg (fun z=>h2 (Sum.inl.inj z))] at hj
      exact n.inj i j l hi hj
  · have:=jA kvs (Sum.inl x) (.ref m)
    have:=n.few
    rw [List.length_append,List.length_singleton]
    omega
inductive Qb (K:PySem.W.Frag) (vs:List V) (H:Hp) (Q:VK):Prop
  | mk (t:Addr) (xs:List V) (as:List (Int × Int)) (_:vs = [.ref t]) (_:(SqL K H t xs \/ SqT K H t xs)) (_:Reps K H (as.map prD) xs) (_:as.length <= 1000) (_:∀ (d:Addr) (kvs:List (Key × V)) H',Same H H' -> H d = none -> H' d = some (.dK kvs) -> NB H H' kvs as -> Q (.ref d) H'):Qb K vs H Q
def Q5 (K:PySem.W.Frag):Sp:=fun vs H Q _=>Qb K vs H Q
theorem Wf:zy ["pairs", "rows", "one", "other"] ["pairs"] (zt (zp 2)):=⟨rfl,rfl,rfl,by decide +kernel,rfl,by decide +kernel,by decide +kernel⟩
theorem YN {f:Addr} {fd:FuncData} (F:Fun K "next_by" "next_by" (zp 2) f fd) (B:Blt mg):qA P w K mg base CX0 1 f fd ["pairs"] (Q5 K):=by
  have nd:=Wf.nd
  refine F.ok Wf (fun vs H Q E h=>?_) (fun cdv A outer s H vs Q E hr h=>?_)
  · obtain ⟨t,xs,as,rfl,_⟩:=h
    rfl
  · obtain ⟨t,xs,as,rfl,ht,rp,la,k⟩:=h
    have hbig:100000 < sizeLine:=by rw [sizeLine_eq];decide
    have hu1:=wf hr
    have lx:=rp.len
    rw [List.length_map] at lx
    refine ⟨_,(ze (zv (i:=1) nd rfl (Or.inl rfl) Qk)
      (ze (zU PassesOwn.never rfl (Wp (pv 0)) (qx rfl (zq (zn (i:=2) nd rfl (Or.inl rfl)) (zq (zn (i:=3) nd rfl (Or.inl rfl)) zS)))
      (zm (qk (jn PySem.F.plainAttrs_list PySem.F.slot_list_append PySem.F.type_list_append zV (zbe (pv 1) (pv 2) (zJ zd) ⟨rfl,rfl,rfl,rfl⟩) (za (pv 3) zd)))))
      (zm (zE (pv 1))))),?_⟩
    refine fun d hd=>?_
    have e0:NB H (upd H d (.dK [])) [] ([]:List (Int × Int)):=⟨(fun i v z=>nomatch z),(fun _ _=>rfl),(fun i j l z=>nomatch z),Nat.le_refl _⟩
    have s0:Same H (upd H d (.dK [])):=zc hd
    have step:∀ (i:Nat) (x:V) (H1:Hp) (kvs:List (Key × V)),xs[i]? = some x -> H1 d = some (.dK kvs) -> NB H H1 kvs (as.take i) -> Same H H1 -> ∃ (a:Addr) (p:Int × Int),x = .ref a /\ SqT K H1 a [.int p.1,.int p.2] /\ as[i]? = some p /\ i < as.length /\ as.take (i + 1) = as.take i ++ [p]:=fun i x H1 kvs hx _ _ sm=>by
      obtain ⟨dd,e1,r1⟩:=(rp.same sm).get hx
      rw [List.getElem?_map] at e1
      obtain ⟨p,ep,rfl⟩:=Option.map_eq_some_iff.mp e1
      obtain ⟨h1,h2⟩:=List.getElem?_eq_some_iff.mp ep
      obtain ⟨a,ws,rfl,qa,x1,r1',rfl,e2,x2,r2',rfl,e3,e4⟩:=r1
      cases e2
      cases e3
      cases e4
      exact ⟨a,p,rfl,qa,ep,h1,by rw [<- h2,List.take_append_getElem]⟩
    refine ⟨_,rfl,t,rfl,ht.elim (fun hL=>.inl ⟨⟨_,s0.seq hL⟩,qL (K:=K) (a:=t) (xs:=xs) (fun i σ H'=>Ex3 fun (v2 v3:Option V) (kvs:List (Key × V))=>An4 (σ = [some (.ref t),some (.ref d),v2,v3]) (H' d = some (.dK kvs)) (NB H H' kvs (as.take i)) (Same H H'))
      ⟨_,_,[],rfl,zb,e0,s0⟩ (fun i σ H' _ ⟨_,_,_,_,_,_,sm⟩=>sm.seq hL) ?s1 ?e1⟩) (fun hT=>.inr ⟨⟨_,s0.sqT hT⟩,Xk (K:=K) (a:=t) (xs:=xs) (fun i σ H'=>Ex3 fun (v2 v3:Option V) (kvs:List (Key × V))=>An4 (σ = [some (.ref t),some (.ref d),v2,v3]) (H' d = some (.dK kvs)) (NB H H' kvs (as.take i)) (Same H H'))
      ⟨_,_,[],rfl,zb,e0,s0⟩ (fun i σ H' _ ⟨_,_,_,_,_,_,sm⟩=>sm.sqT hT) ?s2 ?e2⟩)⟩
    case e1 | e2=>
      rintro σ H1 ⟨v2,v3,kvs,rfl,h1,n1,sm⟩
      rw [lx,List.take_length] at n1
      exact ⟨_,rfl,k d kvs H1 sm hd h1 n1⟩
    case s1 | s2=>
      rintro i x σ H1 hx ⟨v2,v3,kvs,rfl,h1,n1,sm⟩
      obtain ⟨a,p,rfl,qa,ep,hi,et⟩:=step i x H1 kvs hx h1 n1 sm
      rw [et]
      have few:=n1.few
      rw [List.length_take] at few
      refine ⟨a,_,rfl,qa,rfl,_,_,rfl,_,_,rfl,rfl,?_⟩
      refine ⟨_,rfl,d,rfl,.inl ⟨_,.inl h1⟩,_,rfl,le0,fun m hm=>⟨kvs,Sum.inl p.1,(zc (o:=.lst []) hm) _ _ h1,rfl,by omega,fun v hv=>?_,fun hv=>?_⟩⟩
      · obtain ⟨l,rfl,l0,ll⟩:=n1.at_ _ v hv
        have L:=(zc (o:=.lst []) hm) _ _ ll
        have nd:d ≠ l:=fun z=>by rw [<- z,h1] at ll;cases ll
        have sl:=Yn (as.take i) p.1
        rw [List.length_take] at sl
        refine ⟨.inl ⟨rfl,_,SqL.of L⟩,_,rfl,l,_,_,rfl,rfl,L,by rw [List.length_map];omega,?_⟩
        exact ⟨_,_,kvs,rfl,by rw [zi nd];exact (zc (o:=.lst []) hm) _ _ h1,n1.old (zc hm) hv,fun c o e=>by rw [zi (zf e l0)];exact (zc hm) _ _ (sm _ _ e)⟩
      · have nmd:m ≠ d:=fun z=>by rw [z,h1] at hm;cases hm
        have m0:H m = none:=by
          cases z:H m with
          | none=>rfl
          | some o=>rw [sm _ _ z] at hm;cases hm
        have L:upd (upd H1 m (.lst [])) d (.dK (qV kvs (Sum.inl p.1) (.ref m))) m = some (.lst []):=by rw [zi nmd];exact zb
        refine ⟨.inl ⟨rfl,_,SqL.of L⟩,_,rfl,m,_,_,rfl,rfl,L,by show 0 < _;omega,?_⟩
        exact ⟨_,_,_,rfl,by rw [zi (Ne.symm nmd)];exact zb,n1.new hm m0 h1 hv,fun c o e=>by rw [zi (zf e m0),zi (zf e hd),zi (zf e m0)];exact sm _ _ e⟩
end
def Wk (as:List (Int × Int)):Nat -> Int -> Int -> Prop
  | 0,i,j=>i = j
  | n + 1,i,j=>∃ m,(i,m) ∈ as /\ Wk as n m j
section
variable {as:List (Int × Int)}
theorem Wk.snoc:∀ {n:Nat} {i j k:Int},Wk as n i j -> (j,k) ∈ as -> Wk as (n + 1) i k
  | 0,i,j,k,h,e=>by cases (show i = j from h);exact ⟨k,e,rfl⟩
  | n + 1,i,j,k,⟨m,h,h'⟩,e=>⟨m,h,Wk.snoc h' e⟩
theorem Wk.add:∀ {n m:Nat} {i j k:Int},Wk as n i j -> Wk as m j k -> Wk as (n + m) i k
  | 0,m,i,j,k,h,e=>by cases (show i = j from h);rw [Nat.zero_add];exact e
  | n + 1,m,i,j,k,⟨x,h,h'⟩,e=>by rw [Nat.add_right_comm];exact ⟨x,h,Wk.add h' e⟩
theorem Wk.split:∀ {n m:Nat} {i k:Int},Wk as (n + m) i k -> ∃ j,Wk as n i j /\ Wk as m j k
  | 0,m,i,k,h=>by rw [Nat.zero_add] at h;exact ⟨i,rfl,h⟩
  | n + 1,m,i,k,h=>by
    rw [Nat.add_right_comm] at h
    obtain ⟨x,h1,h2⟩:=h
    obtain ⟨j,h3,h4⟩:=Wk.split h2
    exact ⟨j,⟨x,h1,h3⟩,h4⟩
theorem Wk.closed {C:Int -> Prop} (c:∀ x y,C x -> (x,y) ∈ as -> C y):∀ {n:Nat} {i j:Int},C i -> Wk as n i j -> C j
  | 0,i,j,h,e=>by cases (show i = j from e);exact h
  | n + 1,i,j,h,⟨m,e,w⟩=>Wk.closed c (c i m h e) w
theorem Wk.back:∀ {n:Nat} {i j:Int},Wk as n i j -> Wk (as.map Prod.swap) n j i
  | 0,i,j,h=>Eq.symm h
  | n + 1,i,j,⟨m,e,w⟩=>Wk.snoc (Wk.back w) (List.mem_map.mpr ⟨(i,m),e,rfl⟩)
theorem Qv {i j:Int}:j ∈ xg as i ↔ (i,j) ∈ as:=by
  unfold xg
  rw [List.mem_map]
  constructor
  · rintro ⟨⟨a,b⟩,h,rfl⟩
    obtain ⟨h1,h2⟩:=List.mem_filter.mp h
    rw [<- of_decide_eq_true h2]
    exact h1
  · intro h
    exact ⟨(i,j),List.mem_filter.mpr ⟨h,decide_eq_true rfl⟩,rfl⟩
end
theorem yz (as:List (Int × Int)):(as.map Prod.swap).map Prod.swap = as:=by
  rw [List.map_map]
  exact List.map_id'' (fun _=>rfl) as
def dkI (ps:List (Int × Int)):List (Key × V):=ps.map fun p=>(Sum.inl p.1,V.int p.2)
theorem Xp (ps:List (Int × Int)):(dkI ps).length = ps.length:=List.length_map _
theorem ZP:∀ (ps:List (Int × Int)) (i:Int),(∃ v,z9 (dkI ps) (Sum.inl i) = some (.int v) /\ i ∈ ps.map (·.1)) \/ (z9 (dkI ps) (Sum.inl i) = none /\ i ∉ ps.map (·.1))
  | [],i=>.inr ⟨rfl,by simp⟩
  | p :: ps,i=>by
    by_cases h:p.1 = i
    · exact .inl ⟨p.2,qE (by show Sum.inl p.1 = _;rw [h]),by simp [h]⟩
    · have e:z9 (dkI (p :: ps)) (Sum.inl i) = z9 (dkI ps) (Sum.inl i):=qF (fun z=>h (Sum.inl.inj z))
      rcases ZP ps i with ⟨v,h1,h2⟩ | ⟨h1,h2⟩
      · exact .inl ⟨v,e.trans h1,by simp only [List.map_cons,List.mem_cons];exact .inr h2⟩
      · exact .inr ⟨e.trans h1,by simp only [List.map_cons,List.mem_cons];rintro (z | z);exact h z.symm;exact h2 z⟩
theorem zaa {ps:List (Int × Int)} {i v:Int} (h:z9 (dkI ps) (Sum.inl i) = none):qV (dkI ps) (Sum.inl i) (.int v) = dkI (ps ++ [(i,v)]):=by
  rw [vp _ h]
  unfold dkI
  rw [List.map_append]
  rfl
theorem yZ {α:Type} [DecidableEq α]:∀ {l m:List α},l.Nodup -> (∀ x ∈ l,x ∈ m) -> l.length <= m.length
  | [],_,_,_=>Nat.zero_le _
  | x :: l,m,h,s=>by
    have hx:=s x (by simp)
    have h':=List.nodup_cons.mp h
    have:=yZ (l:=l) (m:=m.erase x) h'.2 fun y hy=>(List.mem_erase_of_ne (fun e:y = x=>h'.1 (e ▸ hy))).mpr (s y (List.mem_cons_of_mem _ hy))
    rw [List.length_erase_of_mem hx] at this
    have:=List.length_pos_of_mem hx
    rw [List.length_cons];omega
def InN (n:Nat) (i:Int):Prop:=0 <= i /\ i < n
theorem xD {n:Nat} {l:List Int} (h:l.Nodup) (s:∀ x ∈ l,InN n x):l.length <= n:=by
  have:=yZ (m:=(List.range n).map fun k:Nat=>(k:Int)) h fun x hx=>by
    obtain ⟨h0,h1⟩:=s x hx
    exact List.mem_map.mpr ⟨x.toNat,List.mem_range.mpr (by omega),by omega⟩
  rwa [List.length_map,List.length_range] at this
theorem vd {α:Type} {l:List α} {x:α} (h:l.Nodup) (hx:x ∉ l):(l ++ [x]).Nodup:=by
  rw [List.nodup_append]
  exact ⟨h,by simp,fun a ha b hb e=>hx (by rw [List.mem_singleton] at hb;rw [<- hb,<- e];exact ha)⟩
structure Yj (H:Hp) (rk:List (Key × V)) (as:List (Int × Int)):Prop where
  at_:∀ i v,z9 rk (Sum.inl i) = some v -> ∃ l,v = .ref l /\ H l = some (.lst ((xg as i).map V.int))
  no:∀ i,z9 rk (Sum.inl i) = none -> xg as i = []
def WSt (H:Hp) (as:List (Int × Int)) (n:Nat) (s:Int) (r d:Addr) (m:Nat) (σ:St) (H':Hp):Prop:=
  ∃ (e:Addr) (es:List Int) (ps:List (Int × Int)) (v4 v5 v6:Option V),σ = [some (.int s),some (.ref r),some (.ref d),some (.ref e),v4,v5,v6] /\ H e = none /\ e ≠ d /\ H' e = some (.lst (es.map V.int)) /\ H' d = some (.dK (dkI ps)) /\ Same H H' /\
    (ps.map (·.1)).Nodup /\ (∀ j ∈ ps.map (·.1),∃ k,Wk as k s j) /\ s ∈ ps.map (·.1) /\ (∀ j ∈ es,j ∈ ps.map (·.1)) /\ (∀ x ∈ ps.map (·.1),x ∉ es -> ∀ y,(x,y) ∈ as -> y ∈ ps.map (·.1)) /\ es.length <= 60 /\ m = 2 * (n - ps.length) + (if es = [] then 0 else 1)
structure RSt (as:List (Int × Int)) (s:Int) (d l:Addr) (ps:List (Int × Int)) (H H':Hp) (qs:List (Int × Int)) (rs:List Int):Prop where
  hd:H' d = some (.dK (dkI qs))
  hl:H' l = some (.lst (rs.map V.int))
  sm:Same H H'
  nd:(qs.map (·.1)).Nodup
  snd:∀ j ∈ qs.map (·.1),∃ k,Wk as k s j
  eq:qs.map (·.1) = ps.map (·.1) ++ rs
section
variable {P:Program} {w:World} {K:PySem.W.Frag} {mg:Str -> Option Value} {base:Heap}
inductive yN (K:PySem.W.Frag) (vs:List V) (H:Hp) (Q:VK):Prop
  | mk (s:Int) (r:Addr) (rk:List (Key × V)) (as:List (Int × Int)) (n:Nat) (_:vs = [.int s,.ref r]) (_:H r = some (.dK rk)) (_:Yj H rk as) (_:n <= 60) (_:InN n s) (_:(∀ p ∈ as,InN n p.2)) (_:as.length <= 1000) (_:∀ (d:Addr) (ps:List (Int × Int)) H',Same H H' -> H d = none -> H' d = some (.dK (dkI ps)) -> (ps.map (·.1)).Nodup -> ps.length <= n -> (∀ j,j ∈ ps.map (·.1) ↔ ∃ k,Wk as k s j) -> Q (.ref d) H'):yN K vs H Q
def Zx (K:PySem.W.Frag):Sp:=fun vs H Q _=>yN K vs H Q
theorem JJ:zy ["start", "rows", "steps", "edge", "reached", "part", "other"] ["start", "rows"] (zt (zp 3)):=⟨rfl,rfl,rfl,by decide +kernel,rfl,by decide +kernel,by decide +kernel⟩
theorem WA {f:Addr} {fd:FuncData} (F:Fun K "steps_from" "steps_from" (zp 3) f fd) (B:Blt mg):qA P w K mg base CX0 1 f fd ["start", "rows"] (Zx K):=by
  have nd:=JJ.nd
  refine F.ok JJ (fun vs H Q E h=>?_) (fun cdv A outer s H vs Q E hr h=>?_)
  · obtain ⟨s,r,rk,as,n,rfl,_⟩:=h
    rfl
  · obtain ⟨s,r,rk,as,n,rfl,hR,ro,n60,ins,ina,al,k⟩:=h
    have hbig:100000 < sizeLine:=by rw [sizeLine_eq];decide
    have hu1:=wf hr
    refine ⟨_,(ze (zv (i:=2) nd rfl (Or.inl rfl) (YE (Wm (pv 0) zg Yw) rfl rfl (by intro z;cases z) (by show 1 <= 15;decide)))
      (ze (zv (i:=3) nd rfl (Or.inl rfl) (zJ (za (pv 0) zd)))
      (ze (Qi PassesOwn.never (Yu (pv 3))
      (ze (zv (i:=4) nd rfl (Or.inl rfl) (zJ zd))
        (ze (zU PassesOwn.never rfl (zL (pv 3)) (zn (i:=5) nd rfl (Or.inl rfl))
        (zm (zU PassesOwn.never rfl (zL (Wv hu1 (pv 1) (pv 5) (zJ zd) ⟨rfl,rfl,rfl,rfl⟩)) (zn (i:=6) nd rfl (Or.inl rfl))
          (zm (jz (Q9 (vT hu1 (pv 6) (pv 2)))
            (ze (JV hu1 (pv 2) (pv 6) (zA qh (vw hu1 (pv 2) (pv 5) (fun _ _=>rfl)) zg) rfl)
              (zm (qk (jn PySem.F.plainAttrs_list PySem.F.slot_list_append PySem.F.type_list_append zV (pv 4) (za (pv 6) zd)))))
            qM)))))
        (zm (zv (i:=3) nd rfl (Or.inl rfl) (pv 4))))))
      (zm (zE (pv 2)))))),?_⟩
    refine fun d hd=>⟨_,rfl,zb,[(Sum.inl s,.int 0)],rfl,(by show 1 <= 15;decide),_,rfl,le1,fun e he=>?_⟩
    have ed:e ≠ d:=fun z=>by rw [z,zb] at he;cases he
    have e0:H e = none:=by rw [zi ed,zi ed] at he;exact he
    have s0:Same H (upd (upd (upd H d (.dK [])) d (.dK (qG [] [(Sum.inl s,V.int 0)]))) e (.lst [.int s])):=fun c o z=>by rw [zi (zf z e0),zi (zf z hd),zi (zf z hd)];exact z
    have dd0:(upd (upd (upd H d (.dK [])) d (.dK (qG [] [(Sum.inl s,V.int 0)]))) e (.lst [.int s])) d = some (.dK (dkI [(s,0)])):=by rw [zi (Ne.symm ed),zb];rfl
    have ee0:(upd (upd (upd H d (.dK [])) d (.dK (qG [] [(Sum.inl s,V.int 0)]))) e (.lst [.int s])) e = some (.lst ([s].map V.int)):=zb
    generalize upd (upd (upd H d (.dK [])) d (.dK (qG [] [(Sum.inl s,V.int 0)]))) e (.lst [.int s]) = H1 at s0 dd0 ee0
    refine ⟨WSt H as n s r d,⟨_,e,[s],[(s,0)],_,_,_,rfl,e0,ed,ee0,dd0,s0,by simp,fun j hj=>⟨0,by simp at hj;exact hj.symm⟩,by simp,by simp,fun x hx hn=>absurd hx (by simpa using hn),by simp,rfl⟩,?_⟩
    rintro m σ H2 ⟨e,es,ps,v4,v5,v6,rfl,en,ned,he2,hd2,s2,nd2,snd,hs2,sub2,cl2,el,rfl⟩
    have inn:∀ j ∈ ps.map (·.1),InN n j:=fun j hj=>by
      obtain ⟨k,wk⟩:=snd j hj
      exact Wk.closed (C:=InN n) (fun x y _ h=>ina _ h) ins wk
    have pl:ps.length <= n:=by have:=xD nd2 inn;rwa [List.length_map] at this
    refine ⟨_,rfl,e,_,rfl,SqL.of he2,?_⟩
    cases es with
    | nil=>
      refine ifF (by rfl) ?_
      refine ⟨_,rfl,k d ps H2 s2 hd hd2 nd2 pl fun j=>⟨snd j,fun ⟨k,wk⟩=>Wk.closed (C:=fun j=>j ∈ ps.map (·.1)) (fun x y hx h=>cl2 x hx (by simp) y h) hs2 wk⟩⟩
    | cons e1 er=>
      refine ifT (by rfl) ?_
      refine ⟨fun σ' H'=>∃ m',m' < 2 * (n - ps.length) + (if e1 :: er = [] then 0 else 1) /\ WSt H as n s r d m' σ' H',fun _ _ h=>h,?_⟩
      refine ⟨le0,fun l hl=>?_⟩
      have lH:H l = none:=by
        cases z:H l with
        | none=>rfl
        | some o=>rw [s2 _ _ z] at hl;cases hl
      have ld:l ≠ d:=fun z=>by rw [z,hd2] at hl;cases hl
      have le:l ≠ e:=fun z=>by rw [z,he2] at hl;cases hl
      refine ⟨_,rfl,e,rfl,⟨_,SqL.of ((zc hl) _ _ he2)⟩,qL (K:=K) (a:=e) (xs:=(e1 :: er).map V.int) (fun i σ H'=>Ex4 fun (v5 v6:Option V) (qs:List (Int × Int)) (rs:List Int)=>An4 (σ = [some (.int s),some (.ref r),some (.ref d),some (.ref e),some (.ref l),v5,v6]) (H' e = some (.lst ((e1 :: er).map V.int))) (RSt as s d l ps H H' qs rs) ((∀ x ∈ (e1 :: er).take i,∀ y,(x,y) ∈ as -> y ∈ qs.map (·.1))))
        ⟨_,_,ps,[],rfl,(zc hl) _ _ he2,⟨(zc hl) _ _ hd2,zb,s2.trans (zc hl),nd2,snd,by simp⟩,by simp⟩ (fun i σ H' _ ⟨_,_,_,_,_,h,_,_⟩=>SqL.of h) ?_ ?_⟩
      · rintro i x σ H3 hx ⟨v5,v6,qs,rs,rfl,he3,R3,cl3⟩
        rw [List.getElem?_map] at hx
        obtain ⟨x,ex,rfl⟩:=Option.map_eq_some_iff.mp hx
        have et:(e1 :: er).take (i + 1) = (e1 :: er).take i ++ [x]:=by
          obtain ⟨h1,h2⟩:=List.getElem?_eq_some_iff.mp ex
          rw [<- h2,List.take_append_getElem]
        have xk:x ∈ ps.map (·.1):=sub2 x (List.mem_of_getElem? ex)
        have xq:x ∈ qs.map (·.1):=by rw [R3.eq];exact List.mem_append_left _ xk
        refine ⟨_,rfl,r,rfl,.inl ⟨_,.inl (R3.sm _ _ hR)⟩,_,rfl,le0,fun q hq=>?_⟩
        have sq:=zc (H:=H3) (o:=.lst []) hq
        have qd:q ≠ d:=fun z=>by rw [z,R3.hd] at hq;cases hq
        have ql:q ≠ l:=fun z=>by rw [z,R3.hl] at hq;cases hq
        refine ⟨_,.inl ⟨rk,Sum.inl x,.inl (sq _ _ (R3.sm _ _ hR)),rfl,rfl⟩,?_⟩
        have tt:∃ t,(z9 rk (Sum.inl x)).getD (.ref q) = .ref t /\ upd H3 q (.lst []) t = some (.lst ((xg as x).map V.int)) /\ t ≠ d /\ t ≠ l:=by
          cases z:z9 rk (Sum.inl x) with
          | none=>exact ⟨q,rfl,by rw [ro.no x z];exact zb,qd,ql⟩
          | some v=>
            obtain ⟨t,rfl,ht⟩:=ro.at_ x v z
            exact ⟨t,rfl,sq _ _ (R3.sm _ _ ht),zf ht hd,zf ht lH⟩
        obtain ⟨t,etq,ht,td,tl⟩:=tt
        rw [etq]
        refine ⟨t,rfl,⟨_,SqL.of ht⟩,qL (K:=K) (a:=t) (xs:=(xg as x).map V.int) (fun k σ H'=>Ex3 fun (v6:Option V) (qs:List (Int × Int)) (rs:List Int)=>An6 (σ = [some (.int s),some (.ref r),some (.ref d),some (.ref e),some (.ref l),some (.int x),v6]) (H' e = some (.lst ((e1 :: er).map V.int))) (H' t = some (.lst ((xg as x).map V.int))) (RSt as s d l ps H H' qs rs) ((∀ x ∈ (e1 :: er).take i,∀ y,(x,y) ∈ as -> y ∈ qs.map (·.1))) (∀ y ∈ (xg as x).take k,y ∈ qs.map (·.1)))
          ⟨_,qs,rs,rfl,sq _ _ he3,ht,⟨sq _ _ R3.hd,sq _ _ R3.hl,R3.sm.trans sq,R3.nd,R3.snd,R3.eq⟩,cl3,by simp⟩ (fun i σ H' _ ⟨_,_,_,_,_,h,_,_,_⟩=>SqL.of h) ?_ ?_⟩
        · rintro j y σ H4 hy ⟨v6,qs,rs,rfl,he4,ht4,R4,cl4,dn4⟩
          rw [List.getElem?_map] at hy
          obtain ⟨y,ey,rfl⟩:=Option.map_eq_some_iff.mp hy
          have ety:(xg as x).take (j + 1) = (xg as x).take j ++ [y]:=by
            obtain ⟨h1,h2⟩:=List.getElem?_eq_some_iff.mp ey
            rw [<- h2,List.take_append_getElem]
          have xy:(x,y) ∈ as:=Qv.mp (List.mem_of_getElem? ey)
          have xk4:x ∈ qs.map (·.1):=by rw [R4.eq];exact List.mem_append_left _ xk
          refine ⟨_,rfl,_,rfl,d,_,rfl,.inl ⟨_,Sum.inl y,.inl R4.hd,rfl,rfl⟩,?_⟩
          rcases ZP qs y with ⟨v,hv,my⟩ | ⟨hv,my⟩
          · rw [hv]
            refine ⟨_,rfl,ifF (by rfl) ?_⟩
            refine ⟨_,qs,rs,rfl,he4,ht4,R4,cl4,fun z hz=>?_⟩
            rw [ety] at hz
            rcases List.mem_append.mp hz with h | h
            · exact dn4 z h
            · rw [List.mem_singleton.mp h];exact my
          · rw [hv]
            refine ⟨_,rfl,ifT (by rfl) ?_⟩
            rcases ZP qs x with ⟨vx,hvx,_⟩ | ⟨_,z⟩
            · have inq:∀ j ∈ qs.map (·.1),InN n j:=fun j hj=>by
                obtain ⟨k,wk⟩:=R4.snd j hj
                exact Wk.closed (C:=InN n) (fun x y _ h=>ina _ h) ins wk
              have ql:qs.length <= n:=by have:=xD R4.nd inq;rwa [List.length_map] at this
              have lq:qs.length = ps.length + rs.length:=by
                have:=congrArg List.length R4.eq
                rwa [List.length_append,List.length_map,List.length_map] at this
              refine ⟨_,rfl,_,rfl,d,_,rfl,.inl ⟨_,Sum.inl x,.inl R4.hd,rfl,hvx.symm⟩,_,_,rfl,rfl,_,rfl,_,rfl,d,_,rfl,.inl ⟨_,Sum.inl y,R4.hd,rfl,by rw [Xp];omega,rfl⟩,?_⟩
              rw [zaa hv]
              have H5l:upd H4 d (.dK (dkI (qs ++ [(y,vx + 1)]))) l = some (.lst (rs.map V.int)):=by rw [zi ld];exact R4.hl
              refine ⟨_,rfl,.inl ⟨rfl,_,SqL.of H5l⟩,_,rfl,l,_,_,rfl,rfl,H5l,by rw [List.length_map];omega,?_⟩
              refine ⟨_,qs ++ [(y,vx + 1)],rs ++ [y],rfl,by rw [zi (Ne.symm le),zi ned];exact he4,by rw [zi tl,zi td];exact ht4,⟨by rw [zi (Ne.symm ld)];exact zb,by rw [zb,List.map_append];rfl,fun c o z=>by rw [zi (zf z lH),zi (zf z hd)];exact R4.sm _ _ z,?_,?_,by rw [List.map_append,R4.eq,List.append_assoc];rfl⟩,fun z hz u hu=>?_,fun z hz=>?_⟩
              · rw [List.map_append]
                exact vd R4.nd my
              · intro z hz
                rw [List.map_append] at hz
                rcases List.mem_append.mp hz with h | h
                · exact R4.snd z h
                · obtain ⟨k,wk⟩:=R4.snd x xk4
                  rw [List.mem_singleton.mp h]
                  exact ⟨k + 1,wk.snoc xy⟩
              · rw [List.map_append]
                exact List.mem_append_left _ (cl4 z hz u hu)
              · rw [ety] at hz
                rw [List.map_append]
                rcases List.mem_append.mp hz with h | h
                · exact List.mem_append_left _ (dn4 z h)
                · exact List.mem_append_right _ h
            · exact absurd xk4 z
        · rintro σ H4 ⟨v6,qs,rs,rfl,he4,ht4,R4,cl4,dn4⟩
          rw [List.length_map,List.take_length] at dn4
          refine ⟨_,_,qs,rs,rfl,he4,R4,fun z hz y hy=>?_⟩
          rw [et] at hz
          rcases List.mem_append.mp hz with h | h
          · exact cl4 z h y hy
          · rw [List.mem_singleton.mp h] at hy
            exact dn4 y (Qv.mpr hy)
      · rintro σ H3 ⟨v5,v6,qs,rs,rfl,he3,R3,cl3⟩
        rw [List.length_map,List.take_length] at cl3
        have inq:∀ j ∈ qs.map (·.1),InN n j:=fun j hj=>by
          obtain ⟨k,wk⟩:=R3.snd j hj
          exact Wk.closed (C:=InN n) (fun x y _ h=>ina _ h) ins wk
        have ql:qs.length <= n:=by have:=xD R3.nd inq;rwa [List.length_map] at this
        have lq:qs.length = ps.length + rs.length:=by
          have:=congrArg List.length R3.eq
          rwa [List.length_append,List.length_map,List.length_map] at this
        refine ⟨_,rfl,2 * (n - qs.length) + (if rs = [] then 0 else 1),?_,l,rs,qs,_,_,_,rfl,lH,ld,R3.hl,R3.hd,R3.sm,R3.nd,R3.snd,by rw [R3.eq];exact List.mem_append_left _ hs2,fun j hj=>by rw [R3.eq];exact List.mem_append_right _ hj,fun x hx hn y hy=>?_,by omega,rfl⟩
        · rw [if_neg (by simp:¬ e1 :: er = [])]
          split
          · omega
          · rename_i h
            have:=List.length_pos_iff.mpr h
            omega
        · rw [R3.eq] at hx
          rcases List.mem_append.mp hx with h | h
          · by_cases hx2:x ∈ e1 :: er
            · exact cl3 x hx2 y hy
            · rw [R3.eq];exact List.mem_append_left _ (cl2 x h hx2 y hy)
          · exact absurd h hn
end
theorem zan {ms ns:List Int} (p:ms.Perm ns) (nd:ns.Nodup) (h:ms.Pairwise (· <= ·)):ms.Pairwise (· < ·):=by
  have n':ms.Pairwise (· ≠ ·):=p.nodup_iff.mpr nd
  exact (h.and n').imp fun ⟨a,b⟩=>by omega
section
variable {P:Program} {w:World} {K:PySem.W.Frag} {mg:Str -> Option Value} {base:Heap}
inductive JG (K:PySem.W.Frag) (vs:List V) (H:Hp) (Q:VK):Prop
  | mk (s:Int) (r:Addr) (rk:List (Key × V)) (as:List (Int × Int)) (n:Nat) (_:vs = [.int s,.ref r]) (_:H r = some (.dK rk)) (_:Yj H rk as) (_:n <= 60) (_:InN n s) (_:(∀ p ∈ as,InN n p.2)) (_:as.length <= 1000) (_:∀ (l:Addr) (ms:List Int) H',Same H H' -> H l = none -> H' l = some (.lst (ms.map V.int)) -> ms.length <= 60 -> ms.Pairwise (· < ·) -> (∀ j,j ∈ ms ↔ j ≠ s /\ ∃ k,Wk as k s j) -> Q (.ref l) H'):JG K vs H Q
def V6 (K:PySem.W.Frag):Sp:=fun vs H Q _=>JG K vs H Q
theorem zau:zy ["part", "rows"] ["part", "rows"] (zt (zp 4)):=⟨rfl,rfl,rfl,by decide +kernel,rfl,by decide +kernel,by decide +kernel⟩
theorem zbo {f:Addr} {fd:FuncData} (F:Fun K "all_from" "all_from" (zp 4) f fd) (B:Blt mg) (Dsteps_from:Dfn P w K mg base "steps_from" 1 ["start", "rows"] (Zx K)):qA P w K mg base CX0 2 f fd ["part", "rows"] (V6 K):=by
  have nd:=zau.nd
  refine F.ok zau (fun vs H Q E h=>?_) (fun cdv A outer s H vs Q E hr h=>?_)
  · obtain ⟨s,r,rk,as,n,rfl,_⟩:=h
    rfl
  · obtain ⟨s,r,rk,as,n,rfl,hR,ro,n60,ins,ina,al,k⟩:=h
    have hbig:100000 < sizeLine:=by rw [sizeLine_eq];decide
    refine ⟨_,(zm (zE (zr jq rfl B.sorted ji (za (jd ["part"] [0] rfl rfl (by kernel_rfl) (Wq (zj Dsteps_from (hr.mono (by decide)) rfl (za (pv 0) (za (pv 1) zd)))) (fun _ _ _ _=>(qI (zw Qm (pv 0) (pv 1) (zB _)))) (fun _ _ _ _=>(pv 0))) zd)))),?_⟩
    refine ⟨_,rfl,_,rfl,s,r,rk,as,n,rfl,hR,ro,n60,ins,ina,al,fun d ps H1 s1 hd hd1 nd1 lp mem=>⟨d,_,rfl,hd1,fun o=>QA (d:=d) (o:=o) (kvs:=dkI ps) (fun i zs H'=>zs = (((ps.take i).map (·.1)).filter fun j=>decide (j ≠ s)).map V.int /\ H' = upd H1 d (.frz o (.dK (dkI ps)))) ⟨rfl,rfl⟩ (fun i zs H' ⟨_,h⟩=>by rw [h];exact zb) ?_ ?_⟩⟩
    · rintro i kk v zs H2 hx ⟨rfl,rfl⟩
      unfold dkI at hx
      rw [List.getElem?_map] at hx
      obtain ⟨p,ep,e1⟩:=Option.map_eq_some_iff.mp hx
      cases e1
      have et:ps.take (i + 1) = ps.take i ++ [p]:=by
        obtain ⟨h1,h2⟩:=List.getElem?_eq_some_iff.mp ep
        rw [<- h2,List.take_append_getElem]
      have hi:=(List.getElem?_eq_some_iff.mp ep).1
      rw [et,List.map_append,List.filter_append,List.map_append]
      have lf:=List.length_filter_le (fun j=>decide (j ≠ s)) ((ps.take i).map (·.1))
      rw [List.length_map,List.length_take] at lf
      refine ⟨rfl,_,rfl,_,rfl,rfl,_,rfl,?_⟩
      by_cases c:p.1 = s
      · refine ifF (by show (!decide (V.int p.1 = V.int s)) = false;rw [c];simp) ⟨?_,rfl⟩
        simp [c]
      · refine ifT (by show (!decide (V.int p.1 = V.int s)) = true;rw [decide_eq_false (fun z=>c (V.int.inj z))];rfl) ⟨_,rfl,by rw [List.length_map];omega,?_,rfl⟩
        simp [c,kV]
    · rintro zs H2 ⟨rfl,rfl⟩
      rw [Xp,List.take_length]
      have lf:=List.length_filter_le (fun j=>decide (j ≠ s)) (ps.map (·.1))
      rw [List.length_map] at lf
      refine ⟨by rw [List.length_map];omega,fun l hl=>⟨l,(ps.map (·.1)).filter fun j=>decide (j ≠ s),rfl,SqL.of zb,by omega,fun l2 ms hl2 pm pw=>?_⟩⟩
      have ld:l ≠ d:=fun z=>by rw [z,zb] at hl;cases hl
      have h1l:H1 l = none:=by rw [zi ld] at hl;exact hl
      have s3:Same H (upd (upd H1 d (.frz o (.dK (dkI ps)))) l (.lst (((ps.map (·.1)).filter fun j=>decide (j ≠ s)).map V.int))):=fun c o z=>by
        rw [zi (zf (s1 _ _ z) h1l),zi (zf z hd)]
        exact s1 _ _ z
      refine k l2 ms _ (s3.trans (zc hl2)) ?_ zb (by rw [pm.length_eq];omega) (zan pm (nd1.filter _) pw) fun j=>?_
      · cases z:H l2 with
        | none=>rfl
        | some o=>rw [s3 _ _ z] at hl2;cases hl2
      · rw [pm.mem_iff,List.mem_filter,mem j]
        constructor
        · rintro ⟨a,b⟩;exact ⟨of_decide_eq_true b,a⟩
        · rintro ⟨a,b⟩;exact ⟨b,decide_eq_true a⟩
def asI (J:Job):List (Int × Int):=J.as.map fun p=>((p.1:Int),(p.2:Int))
theorem Xz (J:Job):(asI J).map prD = J.as.map zZ:=by
  unfold asI
  rw [List.map_map]
  rfl
theorem wC (J:Job):(asI J).length = J.as.length:=List.length_map _
inductive yT (K:PySem.W.Frag) (vs:List V) (H:Hp) (Q:VK):Prop
  | mk (s:Int) (p:Addr) (J:Job) (_:vs = [.ref p,.int s]) (_:Rep K H (jQ J) (.ref p)) (_:J.ps.length <= 60) (_:InN J.ps.length s) (_:(∀ q ∈ asI J,InN J.ps.length q.1 /\ InN J.ps.length q.2)) (_:J.as.length <= 300) (_:∀ (l:Addr) (ms:List Int) H',Same H H' -> H l = none -> H' l = some (.lst (ms.map V.int)) -> ms.length <= 60 -> ms.Pairwise (· < ·) -> (∀ j,j ∈ ms ↔ j ≠ s /\ ∃ k,Wk (asI J) k j s) -> Q (.ref l) H'):yT K vs H Q
def ZD (K:PySem.W.Frag):Sp:=fun vs H Q _=>yT K vs H Q
theorem Jn {J:Job} {H:Hp} {p:Addr} (h:Rep K H (jQ J) (.ref p)):∃ (t:Addr) (x0 x1 x2 x3:V) (xs:List V),SqT K H p [x0,x1,x2,x3,.ref t] /\ SqT K H t xs /\ Reps K H ((asI J).map prD) xs:=by
  obtain ⟨a,xs,e,qa,x0,_,rfl,_,x1,_,rfl,_,x2,_,rfl,_,x3,_,rfl,_,x4,r4,rfl,e4,rfl⟩:=h
  cases e
  obtain ⟨t,ys,rfl,qt,ry⟩:=e4
  exact ⟨t,_,_,_,_,ys,qa,qt,by rw [Xz];exact ry⟩
theorem JP:zy ["job", "part"] ["job", "part"] (zt (zp 5)):=⟨rfl,rfl,rfl,by decide +kernel,rfl,by decide +kernel,by decide +kernel⟩
theorem WG {f:Addr} {fd:FuncData} (F:Fun K "ahead_of" "ahead_of" (zp 5) f fd) (B:Blt mg) (Dturned:Dfn P w K mg base "turned" 1 ["pairs"] (Zw K)) (Dnext_by:Dfn P w K mg base "next_by" 1 ["pairs"] (Q5 K)) (Dall_from:Dfn P w K mg base "all_from" 2 ["part", "rows"] (V6 K)):qA P w K mg base CX0 3 f fd ["job", "part"] (ZD K):=by
  have nd:=JP.nd
  refine F.ok JP (fun vs H Q E h=>?_) (fun cdv A outer s H vs Q E hr h=>?_)
  · obtain ⟨s,p,J,rfl,_⟩:=h
    rfl
  · obtain ⟨s,p,J,rfl,rp,n60,ins,ina,al,k⟩:=h
    have hbig:100000 < sizeLine:=by rw [sizeLine_eq];decide
    refine ⟨_,(zm (zE (zj Dall_from (hr.mono (by decide)) rfl (za (pv 1) (za (zj Dnext_by (hr.mono (by decide)) rfl (za (zj Dturned (hr.mono (by decide)) rfl (za (zx qW (pv 0) zg (fun _ _=>rfl)) zd)) zd)) zd))))),?_⟩
    obtain ⟨t,x0,x1,x2,x3,xs,qa,qt,rx⟩:=Jn rp
    refine ⟨_,rfl,_,rfl,p,_,_,_,rfl,rfl,qa,rfl,t,xs,asI J,rfl,qt,rx,by rw [wC];omega,fun l0 ys H0 s0 hl0 ry=>?_⟩
    have em:((asI J).map Prod.swap).map prD = (asI J).map fun p=>prD p.swap:=by rw [List.map_map];rfl
    refine ⟨l0,ys,(asI J).map Prod.swap,rfl,.inl (SqL.of hl0),by rw [em];exact ry,by rw [List.length_map,wC];omega,fun d kvs H1 s1 hd hd1 nb=>?_⟩
    refine ⟨s,d,kvs,(asI J).map Prod.swap,J.ps.length,rfl,hd1,⟨fun i v hv=>let ⟨l,a,_,b⟩:=nb.at_ i v hv;⟨l,a,b⟩,nb.no⟩,n60,ins,fun q hq=>?_,by rw [List.length_map,wC];omega,fun l ms H2 s2 hl hl2 mlen pw mem=>?_⟩
    · obtain ⟨q',hq',rfl⟩:=List.mem_map.mp hq
      exact (ina q' hq').1
    refine k l ms H2 (s0.trans (s1.trans s2)) ?_ hl2 mlen pw fun j=>?_
    · cases z:H l with
      | none=>rfl
      | some o=>rw [s1 _ _ (s0 _ _ z)] at hl;cases hl
    · rw [mem j]
      refine ⟨fun ⟨a,k,b⟩=>⟨a,k,?_⟩,fun ⟨a,k,b⟩=>⟨a,k,b.back⟩⟩
      have:=b.back
      rwa [yz] at this
end
def dkB (ks:List Int):List (Key × V):=ks.map fun j=>(Sum.inl j,V.bl true)
def ZU (ks:List Int) (j:Int):List Int:=if j ∈ ks then ks else ks ++ [j]
def vh (ks js:List Int):List Int:=js.foldl ZU ks
theorem Xq:∀ (ks:List Int) (i:Int),(z9 (dkB ks) (Sum.inl i) = some (.bl true) /\ i ∈ ks) \/ (z9 (dkB ks) (Sum.inl i) = none /\ i ∉ ks)
  | [],i=>.inr ⟨rfl,by simp⟩
  | p :: ps,i=>by
    by_cases h:p = i
    · exact .inl ⟨qE (by show Sum.inl p = _;rw [h]),by simp [h]⟩
    · have e:z9 (dkB (p :: ps)) (Sum.inl i) = z9 (dkB ps) (Sum.inl i):=qF (fun z=>h (Sum.inl.inj z))
      rcases Xq ps i with ⟨h1,h2⟩ | ⟨h1,h2⟩
      · exact .inl ⟨e.trans h1,List.mem_cons_of_mem _ h2⟩
      · exact .inr ⟨e.trans h1,by simp only [List.mem_cons];rintro (z | z);exact h z.symm;exact h2 z⟩
theorem zab (ks:List Int) (j:Int):qV (dkB ks) (Sum.inl j) (.bl true) = dkB (ZU ks j):=by
  unfold ZU
  rcases Xq ks j with ⟨h1,h2⟩ | ⟨h1,h2⟩
  · rw [if_pos h2]
    unfold qV
    rw [if_pos (by rw [j6,h1];rfl)]
    unfold dkB
    rw [List.map_map]
    refine List.map_congr_left fun x _=>?_
    show (if (Sum.inl x:Key) = Sum.inl j then ((Sum.inl x:Key),V.bl true) else (Sum.inl x,V.bl true)) = _
    split <;> rfl
  · rw [if_neg h2,vp _ h1]
    unfold dkB
    rw [List.map_append]
    rfl
theorem wa:∀ (js ks:List Int),qG (dkB ks) (dkB js) = dkB (vh ks js)
  | [],ks=>rfl
  | j :: js,ks=>by
    show qG (qV (dkB ks) (Sum.inl j) (.bl true)) (dkB js) = dkB (vh (ZU ks j) js)
    rw [zab,wa js]
theorem WL {ks:List Int} {j x:Int}:x ∈ ZU ks j ↔ x ∈ ks \/ x = j:=by
  unfold ZU
  split
  · rename_i h
    constructor
    · exact .inl
    · rintro (z | z)
      · exact z
      · rw [z];exact h
  · rw [List.mem_append,List.mem_singleton]
theorem xa:∀ {js ks:List Int} {x:Int},x ∈ vh ks js ↔ x ∈ ks \/ x ∈ js
  | [],ks,x=>by simp [vh]
  | j :: js,ks,x=>by
    show x ∈ vh (ZU ks j) js ↔ _
    rw [xa,WL,List.mem_cons,or_assoc]
theorem Jf {ks:List Int} {j:Int} (h:ks.Nodup):(ZU ks j).Nodup:=by
  unfold ZU
  split
  · exact h
  · rename_i z
    exact vd h z
theorem vc:∀ {js ks:List Int},ks.Nodup -> (vh ks js).Nodup
  | [],_,h=>h
  | j :: js,ks,h=>vc (js:=js) (Jf h)
theorem wB (ks:List Int):(dkB ks).length = ks.length:=List.length_map _
theorem yK {α:Type} {l:List α} {i:Nat} {x:α} (h:l[i]? = some x):l.take (i + 1) = l.take i ++ [x]:=by
  obtain ⟨h1,h2⟩:=List.getElem?_eq_some_iff.mp h
  rw [<- h2,List.take_append_getElem]
structure Ov (H H':Hp) (ds:List Addr) (κ:Nat -> List Int):Prop where
  nd:ds.Nodup
  at_:∀ (p:Nat) (d:Addr),ds[p]? = some d -> H d = none /\ H' d = some (.dK (dkB (κ p)))
  sm:Same H H'
theorem Ov.snoc {H H1 H2:Hp} {ds:List Addr} {κ:Nat -> List Int} {d:Addr} (o:Ov H H1 ds κ) (s:Same H1 H2) (h1:H1 d = none) (h2:H2 d = some (.dK (dkB (κ ds.length)))):Ov H H2 (ds ++ [d]) κ:=by
  refine ⟨vd o.nd fun z=>?_,fun p e he=>?_,o.sm.trans s⟩
  · obtain ⟨p,hp⟩:=List.getElem?_of_mem z
    rw [(o.at_ p d hp).2] at h1
    cases h1
  · by_cases hp:p < ds.length
    · rw [List.getElem?_append_left hp] at he
      exact ⟨(o.at_ p e he).1,s _ _ (o.at_ p e he).2⟩
    · rw [List.getElem?_append_right (by omega)] at he
      have:p = ds.length:=by
        have:=(List.getElem?_eq_some_iff.mp he).1
        simp at this;omega
      subst this
      simp at he
      subst he
      refine ⟨?_,h2⟩
      cases z:H d with
      | none=>rfl
      | some o'=>rw [o.sm _ _ z] at h1;cases h1
def Jm (as:List (Int × Int)) (p:Nat):List Int:=vh [] ((as.filter fun q=>decide (q.2 = (p:Int))).map (·.1))
theorem ZS {ds:List Addr} {p:Nat} {d:Addr} (h:ds[p]? = some d):atI (ds.map V.ref) (p:Int) = some (.ref d):=by
  have hp:=(List.getElem?_eq_some_iff.mp h).1
  obtain ⟨v,h1,h2⟩:=yo (xs:=ds.map V.ref) (i:=(p:Int)) (by omega) (by rw [List.length_map];omega)
  rw [h1,<- h2,Int.toNat_natCast,List.getElem?_map,h]
  rfl
theorem Ov.upd {H H':Hp} {ds:List Addr} {κ:Nat -> List Int} {p:Nat} {d:Addr} (o:Ov H H' ds κ) (h:ds[p]? = some d) (ks:List Int):Ov H (upd H' d (.dK (dkB ks))) ds (fun x=>if x = p then ks else κ x):=by
  refine ⟨o.nd,fun q e he=>⟨(o.at_ q e he).1,?_⟩,fun c o' z=>by rw [zi (zf z (o.at_ p d h).1)];exact o.sm _ _ z⟩
  by_cases c:q = p
  · subst c
    rw [h] at he
    cases he
    rw [zb,if_pos rfl]
  · have ne:e ≠ d:=fun z=>by
      subst z
      obtain ⟨h1,h2⟩:=List.getElem?_eq_some_iff.mp h
      obtain ⟨h3,h4⟩:=List.getElem?_eq_some_iff.mp he
      exact c ((List.getElem_inj o.nd).mp (h4.trans h2.symm))
    rw [zi ne,if_neg c]
    exact (o.at_ q e he).2
theorem Ov.same {H H' H2:Hp} {ds:List Addr} {κ:Nat -> List Int} (o:Ov H H' ds κ) (s:Same H' H2):Ov H H2 ds κ:=⟨o.nd,fun p d h=>⟨(o.at_ p d h).1,s _ _ (o.at_ p d h).2⟩,o.sm.trans s⟩
def Jv (as:List (Int × Int)) (κ:Nat -> List Int):Prop:=∀ p:Nat,(κ p).Nodup /\ ∀ q ∈ κ p,∃ k,1 <= k /\ Wk as k q p
def zal (as:List (Int × Int)) (κ:Nat -> List Int) (m p:Nat):Prop:=∀ q k,1 <= k -> k <= m -> Wk as k q p -> q ∈ κ p
theorem Qy {as:List (Int × Int)} {p:Nat} {q:Int}:q ∈ Jm as p ↔ (q,(p:Int)) ∈ as:=by
  unfold Jm
  rw [xa,List.mem_map]
  constructor
  · rintro (z | ⟨⟨a,b⟩,h,rfl⟩)
    · exact absurd z (by simp)
    · obtain ⟨h1,h2⟩:=List.mem_filter.mp h
      rw [<- of_decide_eq_true h2]
      exact h1
  · intro h
    exact .inr ⟨_,List.mem_filter.mpr ⟨h,decide_eq_true rfl⟩,rfl⟩
theorem zcC (as:List (Int × Int)):Jv as (Jm as):=fun p=>⟨vc List.nodup_nil,fun q h=>⟨1,Nat.le_refl _,_,Qy.mp h,rfl⟩⟩
theorem zcD (as:List (Int × Int)) (p:Nat):zal as (Jm as) 1 p:=fun q k h1 h2 wk=>by
  cases (show k = 1 by omega)
  obtain ⟨m,h,e⟩:=wk
  cases (show m = (p:Int) from e)
  exact Qy.mpr h
theorem Wk.rank {as:List (Int × Int)} {rk:Int -> Nat} (h:∀ q ∈ as,rk q.1 < rk q.2):∀ {k:Nat} {a b:Int},Wk as k a b -> rk a + k <= rk b
  | 0,a,b,e=>by cases (show a = b from e);exact Nat.le_refl _
  | k + 1,a,b,⟨m,e,w⟩=>by
    have:=Wk.rank h w
    have:rk a < rk m:=h (a,m) e
    omega
theorem Wk.in1 {as:List (Int × Int)} {n:Nat} (h:∀ q ∈ as,InN n q.1 /\ InN n q.2):∀ {k:Nat} {a b:Int},1 <= k -> Wk as k a b -> InN n a
  | k + 1,a,b,_,⟨m,e,w⟩=>(h _ e).1
theorem Y7 {as:List (Int × Int)} {κ:Nat -> List Int} {p o:Nat} (g:Jv as κ) (h:(o:Int) ∈ κ p):Jv as (fun x=>if x = p then vh (κ p) (κ o) else κ x):=fun x=>by
  dsimp only
  by_cases c:x = p
  · subst c
    rw [if_pos rfl]
    refine ⟨vc (g x).1,fun q hq=>?_⟩
    rcases xa.mp hq with z | z
    · exact (g x).2 q z
    · obtain ⟨k1,a1,w1⟩:=(g o).2 q z
      obtain ⟨k2,a2,w2⟩:=(g x).2 _ h
      exact ⟨k1 + k2,by omega,w1.add w2⟩
  · rw [if_neg c]
    exact g x
theorem Vx {as:List (Int × Int)} {κ κ':Nat -> List Int} {n m p:Nat} {ks:List Int} (ina:∀ q ∈ as,InN n q.1 /\ InN n q.2) (f:∀ x < n,zal as κ m x) (hp:p < n) (sub:∀ x q,q ∈ κ x -> q ∈ κ' x) (s1:∀ q ∈ κ' p,q ∈ ks) (s2:∀ o ∈ κ' p,∀ q ∈ κ' o.toNat,q ∈ ks) :
    ∀ q k,1 <= k -> k <= 2 * m -> Wk as k q p -> q ∈ ks:=fun q k h1 h2 wk=>by
  by_cases c:k <= m
  · exact s1 q (sub p q (f p hp q k h1 c wk))
  · have e:k = m + (k - m):=by omega
    rw [e] at wk
    by_cases m0:m = 0
    · omega
    obtain ⟨j,w1,w2⟩:=wk.split
    have hj:=Wk.in1 ina (by omega) w2
    have ej:((j.toNat:Nat):Int) = j:=by have:=hj.1;omega
    have mj:=sub p j (f p hp j (k - m) (by omega) (by omega) w2)
    refine s2 j mj q (sub _ _ (f j.toNat (by have:=hj.1;have:=hj.2;omega) q m (by omega) (Nat.le_refl _) ?_))
    rw [ej]
    exact w1
section
variable {P:Program} {w:World} {K:PySem.W.Frag} {mg:Str -> Option Value} {base:Heap}
def YX (ms:List Int):Dat:=.lst (ms.map Dat.int)
theorem jL {H:Hp}:∀ ms:List Int,Reps K H (ms.map Dat.int) (ms.map V.int)
  | []=>rfl
  | m :: ms=>⟨_,_,rfl,rfl,jL ms⟩
inductive Qa (K:PySem.W.Frag) (vs:List V) (H:Hp) (Q:VK):Prop
  | mk (t:Addr) (xs:List V) (as:List (Int × Int)) (n:Nat) (rk:Int -> Nat) (_:vs = [.int n,.ref t]) (_:(SqL K H t xs \/ SqT K H t xs)) (_:Reps K H (as.map prD) xs) (_:as.length <= 1000) (_:n <= 60) (_:(∀ q ∈ as,InN n q.1 /\ InN n q.2)) (_:(∀ q ∈ as,rk q.1 < rk q.2)) (_:(∀ i,rk i <= 60)) (_:∀ (l:Addr) (mss:List (List Int)) H',Same H H' -> H l = none -> Rep K H' (.lst (mss.map YX)) (.ref l) -> mss.length = n -> (∀ p ms,mss[p]? = some ms -> ms.Pairwise (· < ·) /\ ∀ j,j ∈ ms ↔ ∃ k,1 <= k /\ Wk as k j (p:Nat)) -> Q (.ref l) H'):Qa K vs H Q
def Q4 (K:PySem.W.Frag):Sp:=fun vs H Q _=>Qa K vs H Q
theorem We:zy ["_law_many", "_law_aheads_here", "_law_found", "_law_turn", "_law_part", "_law_one"] ["_law_many", "_law_aheads_here"] (zt (zp 31)):=⟨rfl,rfl,rfl,by decide +kernel,rfl,by decide +kernel,by decide +kernel⟩
theorem YM {f:Addr} {fd:FuncData} (F:Fun K "_law_over" "_law_over" (zp 31) f fd) (B:Blt mg):qA P w K mg base CX0 1 f fd ["_law_many", "_law_aheads_here"] (Q4 K):=by
  have nd:=We.nd
  refine F.ok We (fun vs H Q E h=>?_) (fun cdv A outer s H vs Q E hr h=>?_)
  · obtain ⟨t,xs,as,n,rk,rfl,_⟩:=h
    rfl
  · obtain ⟨t,xs,as,n,rk,rfl,ht,rp,al,n60,ina,rks,rk60,k⟩:=h
    have hbig:100000 < sizeLine:=by rw [sizeLine_eq];decide
    have hu1:=wf hr
    have lx:=rp.len
    rw [List.length_map] at lx
    refine ⟨_,(ze (za8 ["_law_aheads_here"] [1] rfl rfl (by kernel_rfl) (qe rfl B.range (za (pv 0) zd)) (fun _ _ _ _=>qR) (fun _ _ _ _=>(zM (yj hr.hd) rfl B.dict Zk (za (YB (K:=K) rfl ["_law_part"] [0] rfl rfl (by kernel_rfl) (Yz (K:=K) rfl (pv 1)) (fun _ _ _ _=>(qI (zw jg (pv 1) (pv 2) (zB _)))) (fun _ _ _ _=>(zO (za (pv 0) (za JY zd))))) zd))) (zn (i:=2) nd rfl (Or.inl rfl)))
      (ze (zU PassesOwn.never rfl (qe rfl B.range (za zg zd)) (zn (i:=3) nd rfl (Or.inl rfl))
      (zm (zU PassesOwn.never rfl (qe rfl B.range (za (pv 0) zd)) (zn (i:=4) nd rfl (Or.inl rfl))
        (zm (zU PassesOwn.never rfl (zL (zM (QN hr.hd) rfl B.list qQ (za (zx zD (pv 2) (pv 4) (fun _ _=>rfl)) zd))) (zn (i:=5) nd rfl (Or.inl rfl))
          (zm (qk (YD (zx zD (pv 2) (pv 4) (fun _ _=>rfl)) (zx zD (pv 2) (pv 5) (fun _ _=>rfl)) ⟨rfl,rfl,rfl,rfl⟩))))))))
      (zm (zE (jd [] [] rfl rfl (by kernel_rfl) (zL (pv 2)) (fun _ _ _ _=>qR) (fun _ _ _ _=>(zr (yD hr.hd) rfl B.sorted ji (za (pv 0) zd)))))))),?_⟩
    have e62:(2:Int) ^ 62 = 4611686018427387904:=by decide
    have l2:∀ x y:V,[x,y].length <= sizeLine:=fun x y=>by rw [sizeLine_eq];show 2 <= _;decide
    refine ⟨_,rfl,_,rfl,(by rw [e62];omega),(by rw [e62];omega),w8 (fun i zs H1=>∃ ds:List Addr,zs = ds.map V.ref /\ ds.length = i /\ Ov H H1 ds (Jm as)) ⟨[],rfl,rfl,List.nodup_nil,(fun p d e=>by simp at e),Same.refl _⟩ ?_ ?_⟩
    · rintro i zs H1 hi ⟨ds,rfl,ld,ov⟩
      have rp1:=rp.same ov.sm
      have i0:(0:Int) + (i:Int) = (i:Int):=Int.zero_add _
      rw [i0]
      refine ⟨rfl,_,rfl,t,rfl,ht.elim (fun hL=>.inl ⟨⟨_,ov.sm.seq hL⟩,qH (K:=K) (a:=t) (xs:=xs) (fun j ys H2=>PrsL H2 ys (dkB (((as.take j).filter fun q=>decide (q.2 = (i:Int))).map (·.1))) /\ Same H1 H2) ⟨PrsL.nil,Same.refl _⟩ (fun j ys H2 ⟨_,sm⟩=>(ov.sm.trans sm).seq hL) ?s1 ?e1⟩)
        (fun hT=>.inr ⟨⟨_,ov.sm.sqT hT⟩,jP (K:=K) (a:=t) (xs:=xs) (fun j ys H2=>PrsL H2 ys (dkB (((as.take j).filter fun q=>decide (q.2 = (i:Int))).map (·.1))) /\ Same H1 H2) ⟨PrsL.nil,Same.refl _⟩ (fun j ys H2 ⟨_,sm⟩=>(ov.sm.trans sm).sqT hT) ?s2 ?e2⟩)⟩
      case s1 | s2=>
        rintro j x ys H2 hx ⟨pr,sm⟩
        obtain ⟨dd,e1,r1⟩:=(rp1.same sm).get hx
        rw [List.getElem?_map] at e1
        obtain ⟨q,eq,rfl⟩:=Option.map_eq_some_iff.mp e1
        obtain ⟨a,ws,rfl,qa,x1,r1',rfl,e2,x2,r2',rfl,e3,e4⟩:=r1
        cases e2
        cases e3
        cases e4
        have hj:=(List.getElem?_eq_some_iff.mp eq).1
        rw [yK eq,List.filter_append,List.map_append]
        refine ⟨a,_,rfl,qa,rfl,_,_,rfl,_,_,rfl,rfl,rfl,_,rfl,_,rfl,rfl,_,rfl,?_⟩
        by_cases c:q.2 = (i:Int)
        · refine ifT (by show decide (V.int q.2 = V.int (i:Int)) = true;rw [c];exact decide_eq_true rfl) ⟨_,rfl,l2 _ _,fun T hT=>⟨?_,?_,sm.trans (zc hT)⟩⟩
          · have:=pr.1
            have:=List.length_filter_le (fun q:Int × Int=>decide (q.2 = (i:Int))) (as.take j)
            rw [wB,List.length_map] at *
            rw [List.length_take] at this
            omega
          · rw [List.filter_cons,if_pos (decide_eq_true c)]
            have e:∀ a b,dkB (a ++ b) = dkB a ++ dkB b:=fun a b=>List.map_append
            rw [e]
            exact (pr.same (zc hT)).snoc (k:=Sum.inl q.1) zb
        · refine ifF (by show decide (V.int q.2 = V.int (i:Int)) = false;exact decide_eq_false fun z=>c (V.int.inj z)) ⟨?_,sm⟩
          rw [List.filter_cons,if_neg (by simpa using c)]
          simpa using pr
      case e1 | e2=>
        rintro ys H2 ⟨pr,sm⟩
        rw [lx,List.take_length] at pr
        have ly:ys.length <= 1000:=by
          have:=pr.1
          have:=List.length_filter_le (fun q:Int × Int=>decide (q.2 = (i:Int))) as
          rw [wB,List.length_map] at *
          omega
        refine ⟨by omega,fun l hl=>⟨l,ys,_,rfl,zb,pr.same (zc hl),fun d hd=>⟨by rw [List.length_map];omega,ds ++ [d],by rw [List.map_append];rfl,by rw [List.length_append,ld];rfl,?_⟩⟩⟩
        have dl:d ≠ l:=fun z=>by rw [z,zb] at hd;cases hd
        have d2:H2 d = none:=by rw [zi dl] at hd;exact hd
        refine ov.snoc (d:=d) ((sm.trans (zc hl)).trans (zc hd)) ?_ ?_
        · cases z:H1 d with
          | none=>rfl
          | some o'=>rw [sm _ _ z] at d2;cases d2
        · rw [zb,ld]
          have:(qG [] (dkB ((as.filter fun q=>decide (q.2 = (i:Int))).map (·.1)))) = dkB (Jm as i):=wa _ []
          rw [this]
    · rintro zs H1 ⟨ds,rfl,ld,ov⟩
      rw [Int.toNat_natCast] at ld
      have lr:(ds.map V.ref).length = n:=by rw [List.length_map];exact ld
      refine ⟨by omega,fun F hF=>?_⟩
      have F0:H F = none:=by
        cases z:H F with
        | none=>rfl
        | some o'=>rw [ov.sm _ _ z] at hF;cases hF
      refine ⟨7,rfl,(by decide),(by decide),qK (fun t' σ H2=>Ex4 fun (v3 v4 v5:Option V) (κ:Nat -> List Int)=>An5 (σ = [some (.int n),some (.ref t),some (.ref F),v3,v4,v5]) (H2 F = some (.lst (ds.map V.ref))) (Ov H H2 ds κ) (Jv as κ) (∀ x < n,zal as κ (2 ^ t') x))
        ⟨_,_,_,Jm as,rfl,zb,ov.same (zc hF),zcC as,fun x _=>zcD as x⟩ ?_ ?_⟩
      · rintro t' σ H2 ht' ⟨v3,v4,v5,κ,rfl,hF2,ov2,g2,f2⟩
        refine ⟨_,rfl,_,rfl,(by rw [e62];omega),(by rw [e62];omega),qK (fun p σ H3=>Ex3 fun (v4 v5:Option V) (κ':Nat -> List Int)=>An6 (σ = [some (.int n),some (.ref t),some (.ref F),some (.int (0 + (t':Int))),v4,v5]) (H3 F = some (.lst (ds.map V.ref))) (Ov H H3 ds κ') (Jv as κ') ((∀ x q,q ∈ κ x -> q ∈ κ' x)) (∀ x < p,zal as κ' (2 ^ (t' + 1)) x))
          ⟨_,_,κ,rfl,hF2,ov2,g2,fun _ _ h=>h,fun x hx=>absurd hx (Nat.not_lt_zero _)⟩ ?_ ?_⟩
        · rintro p σ H3 hp ⟨v4,v5,κ',rfl,hF3,ov3,g3,sub3,f3⟩
          rw [Int.toNat_natCast] at hp
          have i0:(0:Int) + (p:Int) = (p:Int):=Int.zero_add _
          rw [i0]
          have ed:ds[p]? = some (ds[p]'(by omega)):=List.getElem?_eq_getElem _
          generalize ds[p]'(by omega) = d at ed
          obtain ⟨d0,hd3⟩:=ov3.at_ p d ed
          refine ⟨_,rfl,_,rfl,F,_,_,_,rfl,rfl,SqL.of hF3,ZS ed,d,_,rfl,.inl hd3,fun L hL=>⟨L,rfl,⟨_,SqL.of zb⟩,?_⟩⟩
          have em:(dkB (κ' p)).map (fun kv=>kV kv.1) = (κ' p).map V.int:=by
            unfold dkB
            rw [List.map_map]
            rfl
          rw [em]
          have Ld:L ≠ d:=fun z=>by rw [z,hd3] at hL;cases hL
          refine qL (K:=K) (a:=L) (xs:=(κ' p).map V.int) (fun i σ H4=>Ex2 fun (v5:Option V) (ks:List Int)=>An7 (σ = [some (.int n),some (.ref t),some (.ref F),some (.int (0 + (t':Int))),some (.int (p:Int)),v5]) (H4 F = some (.lst (ds.map V.ref))) (H4 L = some (.lst ((κ' p).map V.int))) (Ov H H4 ds (fun x=>if x = p then ks else κ' x)) (Jv as (fun x=>if x = p then ks else κ' x)) ((∀ q ∈ κ' p,q ∈ ks)) (∀ o ∈ (κ' p).take i,∀ q ∈ κ' o.toNat,q ∈ ks))
            ⟨_,κ' p,rfl,(zc hL) _ _ hF3,zb,?_,?_,fun _ h=>h,fun o ho=>absurd ho (by simp)⟩ (fun i σ H' _ ⟨_,_,_,_,h,_,_,_,_⟩=>SqL.of h) ?_ ?_
          · have:(fun x=>if x = p then κ' p else κ' x) = κ':=funext fun x=>by by_cases c:x = p <;> simp [c]
            rw [this]
            exact ov3.same (zc hL)
          · have:(fun x=>if x = p then κ' p else κ' x) = κ':=funext fun x=>by by_cases c:x = p <;> simp [c]
            rw [this]
            exact g3
          · rintro i x σ H4 hx ⟨v5,ks,rfl,hF4,hL4,ov4,g4,a4,b4⟩
            rw [List.getElem?_map] at hx
            obtain ⟨o,eo,rfl⟩:=Option.map_eq_some_iff.mp hx
            have mo:o ∈ κ' p:=List.mem_of_getElem? eo
            obtain ⟨k1,hk1,wk1⟩:=(g3 p).2 o mo
            obtain ⟨o0,o1⟩:=Wk.in1 ina hk1 wk1
            have oi:((o.toNat:Nat):Int) = o:=by omega
            have nop:o.toNat ≠ p:=fun z=>by
              have:=wk1.rank rks
              rw [z] at oi
              rw [oi] at this
              omega
            have ee:ds[o.toNat]? = some (ds[o.toNat]'(by omega)):=List.getElem?_eq_getElem _
            generalize ds[o.toNat]'(by omega) = e at ee
            have hd4:=(ov4.at_ p d ed).2
            have he4:=(ov4.at_ o.toNat e ee).2
            rw [if_pos rfl] at hd4
            rw [if_neg nop] at he4
            have nde:d ≠ e:=fun z=>by
              subst z
              obtain ⟨h1,h2⟩:=List.getElem?_eq_some_iff.mp ed
              obtain ⟨h3,h4⟩:=List.getElem?_eq_some_iff.mp ee
              exact nop ((List.getElem_inj ov4.nd).mp (h4.trans h2.symm))
            have ao:=ZS ee
            rw [oi] at ao
            have inq:∀ (κ:Nat -> List Int),Jv as κ -> ∀ x,(κ x).length <= 60:=fun κ g x=>by
              have:=xD (n:=n) (g x).1 fun q hq=>let ⟨k,h1,w⟩:=(g x).2 q hq;Wk.in1 ina h1 w
              omega
            have l1:=inq _ g4 p
            rw [if_pos rfl] at l1
            have l2:=inq _ g3 o.toNat
            have LF:L ≠ F:=fun z=>by rw [z,hF3] at hL;cases hL
            have Fd:F ≠ d:=fun z=>by rw [z,hd4] at hF4;cases hF4
            refine ⟨_,rfl,_,rfl,F,_,_,_,rfl,rfl,SqL.of hF4,ZS ed,d,rfl,.inl ⟨_,.inl hd4⟩,_,rfl,_,rfl,F,_,_,_,rfl,rfl,SqL.of hF4,ao,e,_,_,rfl,nde,hd4,he4,by rw [wB,wB];omega,?_⟩
            rw [wa]
            have ef:(fun x=>if x = p then vh ks (κ' o.toNat) else (fun x=>if x = p then ks else κ' x) x) = fun x=>if x = p then vh ks (κ' o.toNat) else κ' x:=funext fun x=>by by_cases c:x = p <;> simp [c]
            have eg:(fun x=>if x = p then vh ((fun x=>if x = p then ks else κ' x) p) ((fun x=>if x = p then ks else κ' x) o.toNat) else (fun x=>if x = p then ks else κ' x) x) = fun x=>if x = p then vh ks (κ' o.toNat) else κ' x:=funext fun x=>by by_cases c:x = p <;> simp [c,nop]
            refine ⟨_,vh ks (κ' o.toNat),rfl,by rw [zi Fd];exact hF4,by rw [zi Ld];exact hL4,?_,?_,fun q hq=>xa.mpr (.inl (a4 q hq)),fun z hz q hq=>?_⟩
            · have:=ov4.upd ed (vh ks (κ' o.toNat))
              rw [ef] at this
              exact this
            · have:=Y7 (p:=p) (o:=o.toNat) g4 (by rw [if_pos rfl,oi];exact a4 o mo)
              rw [eg] at this
              exact this
            · rw [yK eo] at hz
              rcases List.mem_append.mp hz with h | h
              · exact xa.mpr (.inl (b4 z h q hq))
              · rw [List.mem_singleton.mp h] at hq
                exact xa.mpr (.inr hq)
          · rintro σ H4 ⟨v5,ks,rfl,hF4,hL4,ov4,g4,a4,b4⟩
            rw [List.length_map,List.take_length] at b4
            refine ⟨_,_,_,rfl,hF4,ov4,g4,fun x q hq=>?_,fun x hx=>?_⟩
            · show q ∈ (if x = p then ks else κ' x)
              by_cases c:x = p
              · rw [if_pos c]
                subst c
                exact a4 q (sub3 x q hq)
              · rw [if_neg c]
                exact sub3 x q hq
            · by_cases c:x = p
              · subst c
                intro q k h1 h2 wk
                show q ∈ (if x = x then ks else κ' x)
                rw [if_pos rfl]
                exact Vx ina f2 hp sub3 a4 b4 q k h1 (by rw [Nat.pow_succ,Nat.mul_comm] at h2;exact h2) wk
              · have:=f3 x (by omega)
                intro q k h1 h2 wk
                show q ∈ (if x = p then ks else κ' x)
                rw [if_neg c]
                exact this q k h1 h2 wk
        · rintro σ H3 ⟨v4,v5,κ',rfl,hF3,ov3,g3,sub3,f3⟩
          rw [Int.toNat_natCast] at f3
          exact ⟨_,_,_,κ',rfl,hF3,ov3,g3,f3⟩
      · rintro σ H2 ⟨v3,v4,v5,κ,rfl,hF2,ov2,g2,f2⟩
        have all:∀ (p:Nat),p < n -> ∀ j,j ∈ κ p ↔ ∃ k,1 <= k /\ Wk as k j p:=fun p hp j=>⟨fun h=>(g2 p).2 j h,fun ⟨k,h1,wk⟩=>f2 p hp j k h1 (by have:=wk.rank rks;have:=rk60 (p:Int);show k <= 128;omega) wk⟩
        refine ⟨_,rfl,F,rfl,⟨_,SqL.of hF2⟩,qH (K:=K) (a:=F) (xs:=ds.map V.ref) (fun i zs H3=>Ex1 fun (mss:List (List Int))=>An4 (mss.length = i) (Reps K H3 (mss.map YX) zs) (Same H2 H3) (∀ p ms,mss[p]? = some ms -> ms.Pairwise (· < ·) /\ ∀ j,j ∈ ms ↔ j ∈ κ p)) ⟨[],rfl,rfl,Same.refl _,fun p ms e=>by simp at e⟩ (fun i zs H3 ⟨_,_,_,sm,_⟩=>SqL.of (sm _ _ hF2)) ?_ ?_⟩
        · rintro i x zs H3 hx ⟨mss,lm,rm,sm,am⟩
          rw [List.getElem?_map] at hx
          obtain ⟨d,ed,rfl⟩:=Option.map_eq_some_iff.mp hx
          have hi:=(List.getElem?_eq_some_iff.mp ed).1
          have hd:=sm _ _ (ov2.at_ i d ed).2
          have lk:(κ i).length <= 60:=by
            have:=xD (n:=n) (g2 i).1 fun q hq=>let ⟨k,h1,w⟩:=(g2 i).2 q hq;Wk.in1 ina h1 w
            omega
          have ek:dkB (κ i) = ((κ i).map fun j=>(j,V.bl true)).map fun kv=>(Sum.inl kv.1,kv.2):=by unfold dkB;rw [List.map_map];rfl
          have ek2:((κ i).map fun j=>(j,V.bl true)).map (·.1) = κ i:=by rw [List.map_map];exact List.map_id'' (fun _=>rfl) _
          refine ⟨rfl,_,rfl,d,(κ i).map fun j=>(j,V.bl true),rfl,.inl (by rw [<- ek];exact hd),by rw [List.length_map];omega,fun l ms hl pm pw=>⟨?_,mss ++ [ms],by rw [List.length_append,lm];rfl,?_,sm.trans (zc hl),fun p ms' e=>?_⟩⟩
          · have:=rm.len
            rw [List.length_map] at this
            omega
          · rw [List.map_append]
            refine Reps.snoc (d:=YX ms) ⟨l,_,rfl,SqL.of zb,jL _⟩ (rm.same (zc hl))
          · rw [ek2] at pm
            by_cases c:p < mss.length
            · rw [List.getElem?_append_left c] at e
              exact am p ms' e
            · rw [List.getElem?_append_right (by omega)] at e
              have:p = mss.length:=by
                have:=(List.getElem?_eq_some_iff.mp e).1
                simp at this;omega
              subst this
              simp at e
              subst e
              rw [lm]
              exact ⟨zan pm (g2 i).1 pw,fun j=>pm.mem_iff⟩
        · rintro zs H3 ⟨mss,lm,rm,sm,am⟩
          rw [lr] at lm
          have lz:=rm.len
          rw [List.length_map] at lz
          refine ⟨by omega,fun l hl=>k l mss _ ((ov2.sm.trans sm).trans (zc hl)) ?_ ⟨l,zs,rfl,SqL.of zb,rm.same (zc hl)⟩ lm fun p ms e=>?_⟩
          · cases z:H l with
            | none=>rfl
            | some o'=>rw [(ov2.sm.trans sm) _ _ z] at hl;cases hl
          · have hp:=(List.getElem?_eq_some_iff.mp e).1
            obtain ⟨a,b⟩:=am p ms e
            exact ⟨a,fun j=>by rw [b j,all p (by omega) j]⟩
end
theorem Same.none {H H1:Hp} {t:Addr} (s:Same H H1) (h:H1 t = Option.none):H t = Option.none:=s.free h
def atK (fs:List vN) (kd:Str) (n:Nat):List Nat:=(List.range n).filter fun i=>decide (fs[i]?.map vN.k = some kd)
theorem wc (fs:List vN) (kd:Str) (n:Nat):(atK fs kd n).length <= n:=Nat.le_trans (List.length_filter_le _ _) (by rw [List.length_range];exact Nat.le_refl _)
theorem Xx {fs:List vN} {kd:Str} {n:Nat} {f:vN} (h:fs[n]? = some f) (e:f.k = kd):atK fs kd (n + 1) = atK fs kd n ++ [n]:=by
  unfold atK
  rw [List.range_succ,List.filter_append,List.filter_cons_of_pos (by rw [h];exact decide_eq_true (by show some f.k = _;rw [e]))]
  rfl
theorem Xy {fs:List vN} {kd:Str} {n:Nat} {f:vN} (h:fs[n]? = some f) (e:f.k ≠ kd):atK fs kd (n + 1) = atK fs kd n:=by
  unfold atK
  rw [List.range_succ,List.filter_append,List.filter_cons_of_neg (by rw [h];simpa using e),List.filter_nil,List.append_nil]
theorem qg (os:List Nat) (n:Nat):zo (os ++ [n]) = zo os ++ [.int (n:Int)]:=by
  unfold zo
  rw [List.map_append]
  rfl
section
variable {P:Program} {w:World} {K:PySem.W.Frag} {mg:Str -> Option Value} {base:Heap}
theorem xT {H:Hp} {J:Job} {jp:Addr} (h:Rep K H (jQ J) (.ref jp)):∃ (g fs ps as:Addr) (fv pv:List V),SqT K H jp [.ref g,.int J.hd,.ref fs,.ref ps,.ref as] /\ Rep K H (.tup [.int J.gx,.int J.gy]) (.ref g) /\ SqT K H fs fv /\ Reps K H (J.fs.map jJ) fv /\ SqT K H ps pv /\ Reps K H (J.ps.map jf) pv /\ Rep K H (vH J.as) (.ref as):=by
  obtain ⟨a,xs,e,q,x0,r0,e0,h0,x1,r1,e1,h1,x2,r2,e2,h2,x3,r3,e3,h3,x4,r4,e4,h4,e5⟩:=h
  cases e
  subst e0 e1 e2 e3 e4
  have e5':r4 = []:=e5
  subst e5'
  have h1':x1 = .int J.hd:=h1
  subst h1'
  obtain ⟨g,gx,rfl,gq⟩:=h0
  obtain ⟨fs,fx,rfl,fq,fr⟩:=h2
  obtain ⟨ps,px,rfl,pq,pr⟩:=h3
  obtain ⟨as,ax,rfl,aq⟩:=h4
  exact ⟨g,fs,ps,as,fx,px,q,⟨g,gx,rfl,gq⟩,fq,fr,pq,pr,⟨as,ax,rfl,aq⟩⟩
inductive JE (K:PySem.W.Frag) (vs:List V) (H:Hp) (Q:VK):Prop
  | mk (jp:Addr) (J:Job) (kd:Str) (_:vs = [.ref jp,.str kd]) (_:Rep K H (jQ J) (.ref jp)) (_:J.fs.length <= 100) (_:∀ (l:Addr) H',H l = none -> Same H H' -> H' l = some (.lst (zo (atK J.fs kd J.fs.length))) -> Q (.ref l) H'):JE K vs H Q
def V1 (K:PySem.W.Frag):Sp:=fun vs H Q _=>JE K vs H Q
theorem zas:zy ["job", "kind"] ["job", "kind"] (zt (zp 6)):=⟨rfl,rfl,rfl,by decide +kernel,rfl,by decide +kernel,by decide +kernel⟩
theorem zbm {f:Addr} {fd:FuncData} (F:Fun K "feeders_for" "feeders_for" (zp 6) f fd) (B:Blt mg):qA P w K mg base CX0 1 f fd ["job", "kind"] (V1 K):=by
  have nd:=zas.nd
  refine F.ok zas (fun vs H Q E h=>?_) (fun cdv A outer s H vs Q E hr h=>?_)
  · obtain ⟨jp,J,kd,rfl,_⟩:=h
    rfl
  · obtain ⟨jp,J,kd,rfl,rj,fl,k⟩:=h
    have hbig:100000 < sizeLine:=by rw [sizeLine_eq];decide
    obtain ⟨g,fs,ps,as,fv,pxs,qj,_,qf,rf,qp,rp,_⟩:=xT rj
    have lf:=rf.len
    rw [List.length_map] at lf
    refine ⟨_,(zm (zE (jF ["kind"] [1] rfl rfl (by kernel_rfl) (vq rfl B.enumerate (za (zx qW (pv 0) zg (fun _ _=>rfl)) zd)) (fun _ _ _ _=>(qI (zw jg (zx (qZ (K:=K) rfl) (pv 1) zg (fun _ _=>rfl)) (pv 2) (zB _)))) (fun _ _ _ _=>(pv 0))))),?_⟩
    refine ⟨_,rfl,jp,_,_,_,rfl,rfl,qj,rfl,fs,rfl,⟨_,qf⟩,w9 (K:=K) (a:=fs) (xs:=fv) (fun i zs H3=>zs = zo (atK J.fs kd i) /\ Same H H3) ⟨rfl,Same.refl _⟩ (fun i zs H3 ⟨_,s3⟩=>s3.sqT qf) ?_ ?_⟩
    · rintro i x zs H3 T hx ⟨rfl,s3⟩ hT
      obtain ⟨d,e1,r1⟩:=(rf.same s3).get hx
      rw [List.getElem?_map] at e1
      obtain ⟨fe,efe,rfl⟩:=Option.map_eq_some_iff.mp e1
      have hi:=(List.getElem?_eq_some_iff.mp efe).1
      have sT:=s3.trans (zc (o:=.tup [.int (i:Int),x]) hT)
      obtain ⟨fa,fc,rfl,qfa,_⟩:=xc (r1.same (zc (o:=.tup [.int (i:Int),x]) hT))
      have le:=wc J.fs kd i
      refine ⟨T,_,rfl,SqT.of zb,rfl,_,_,rfl,_,_,rfl,rfl,rfl,?_⟩
      refine ⟨_,rfl,fa,_,_,_,rfl,rfl,qfa,rfl,_,rfl,rfl,_,rfl,qO (fun c=>⟨_,rfl,?_,?_,sT⟩) (fun c=>⟨?_,sT⟩)⟩
      · rw [zu];omega
      · rw [Xx efe (V.str.inj (of_decide_eq_true c)),qg]
      · rw [Xy efe fun z=>c (decide_eq_true (by rw [z]))]
    · rintro zs H3 ⟨rfl,s3⟩
      rw [lf]
      have le:=wc J.fs kd J.fs.length
      exact ⟨by rw [zu];omega,fun l hl=>k l _ (s3.none hl) (s3.trans (zc hl)) zb⟩
end
def upF (g:Nat -> Int) (f:Nat) (v:Int):Nat -> Int:=fun k=>if k = f then v else g k
def qB (n:Nat) (g:Nat -> Int):List V:=(List.range n).map fun k=>V.int (g k)
theorem qU (n:Nat) (g:Nat -> Int):(qB n g).length = n:=by unfold qB;rw [List.length_map,List.length_range]
theorem xz {n f:Nat} {g:Nat -> Int} (h:f < n):(qB n g)[f]? = some (.int (g f)):=by
  unfold qB
  rw [List.getElem?_map,List.getElem?_range h]
  rfl
theorem wP {n f:Nat} {g:Nat -> Int} {v:Int} (h:f < n):(qB n g).set f (.int v) = qB n (upF g f v):=by
  refine List.ext_getElem? fun i=>?_
  rw [List.getElem?_set]
  by_cases hi:i < n
  · rw [xz hi,qU]
    unfold upF
    by_cases e:f = i
    · subst e
      rw [if_pos rfl,if_pos h,xz h,if_pos rfl]
    · rw [if_neg e,xz hi,if_neg (Ne.symm e)]
  · have e1:(qB n (upF g f v))[i]? = none:=List.getElem?_eq_none (by rw [qU];omega)
    have e2:(qB n g)[i]? = none:=List.getElem?_eq_none (by rw [qU];omega)
    rw [e1,e2,if_neg (show ¬ f = i by omega)]
theorem xh {n f:Nat} {g:Nat -> Int} (h:f < n):atI (qB n g) (f:Int) = some (.int (g f)):=by
  exact qm (xz h)
def s1 (s:(Nat -> Int) × List (Nat × Nat)) (p:Nat × Nat):(Nat -> Int) × List (Nat × Nat):=if 0 < s.1 p.2 then (upF s.1 p.2 (s.1 p.2 - 1),s.2 ++ [p]) else s
def P1 (st:Nat -> Int) (ps:List (Nat × Nat)):(Nat -> Int) × List (Nat × Nat):=ps.foldl s1 (st,[])
theorem XC (st:Nat -> Int) (ps:List (Nat × Nat)) (p:Nat × Nat):P1 st (ps ++ [p]) = s1 (P1 st ps) p:=by unfold P1;rw [List.foldl_append];rfl
def zbv (J:Job) (p:Nat):Str:=((J.ps[p]?).map ZW.k).getD ""
def rdy (J:Job) (p:Nat) (fr:Nat -> Int):List Nat:=(atK J.fs (zbv J p) J.fs.length).filter fun k=>decide (0 < fr k)
def s2 (J:Job) (s:(Nat -> Int) × List (Nat × Option Nat)) (p:Nat × Nat):(Nat -> Int) × List (Nat × Option Nat):=
  if p.1 ∈ s.2.map (·.1) then s else match rdy J p.1 s.1 with
    | []=>(s.1,s.2 ++ [(p.1,none)])
    | k :: _=>(upF s.1 k (s.1 k - 1),s.2 ++ [(p.1,some k)])
def som (l:List (Nat × Nat)):List (Nat × Option Nat):=l.map fun q=>(q.1,some q.2)
def P2 (J:Job) (st:Nat -> Int) (all ps:List (Nat × Nat)):(Nat -> Int) × List (Nat × Option Nat):=ps.foldl (s2 J) ((P1 st all).1,som (P1 st all).2)
theorem ZX (J:Job) (st:Nat -> Int) (all ps:List (Nat × Nat)) (p:Nat × Nat):P2 J st all (ps ++ [p]) = s2 J (P2 J st all ps) p:=by unfold P2;rw [List.foldl_append];rfl
def Cnt1 (st:Nat -> Int) (s:(Nat -> Int) × List (Nat × Nat)):Prop:=∀ k,(((s.2.map (·.2)).count k:Nat):Int) + s.1 k = st k
def Cnt2 (st:Nat -> Int) (s:(Nat -> Int) × List (Nat × Option Nat)):Prop:=∀ k,(((s.2.map (·.2)).count (some k):Nat):Int) + s.1 k = st k
theorem Cnt1.step {st:Nat -> Int} {s:(Nat -> Int) × List (Nat × Nat)} (h:Cnt1 st s) (p:Nat × Nat):Cnt1 st (s1 s p):=by
  unfold s1
  split
  · intro k
    have hk:=h k
    show ((((s.2 ++ [p]).map (·.2)).count k:Nat):Int) + upF s.1 p.2 (s.1 p.2 - 1) k = st k
    rw [List.map_append,List.count_append]
    unfold upF
    by_cases e:k = p.2
    · subst e
      rw [if_pos rfl,show ([p].map (·.2)).count p.2 = 1 by simp]
      omega
    · rw [if_neg e,show ([p].map (·.2)).count k = 0 by
        rw [List.map_cons,List.map_nil]
        exact List.count_eq_zero.mpr (by simpa using e)]
      omega
  · exact h
theorem zbJ (st:Nat -> Int) (ps:List (Nat × Nat)):Cnt1 st (P1 st ps):=by
  unfold P1
  have:∀ (ps:List (Nat × Nat)) s,Cnt1 st s -> Cnt1 st (ps.foldl s1 s):=by
    intro ps
    induction ps with
    | nil=>intro s h;exact h
    | cons p r ih=>intro s h;exact ih _ (h.step p)
  exact this ps _ fun k=>by show ((0:Nat):Int) + st k = st k;omega
theorem ZY (st:Nat -> Int) (ps:List (Nat × Nat)):(P1 st ps).2.Sublist ps:=by
  unfold P1
  have:∀ (ps:List (Nat × Nat)) s (q:List (Nat × Nat)),s.2.Sublist q -> (ps.foldl s1 s).2.Sublist (q ++ ps):=by
    intro ps
    induction ps with
    | nil=>intro s q h;rw [List.append_nil];exact h
    | cons p r ih=>
      intro s q h
      rw [show q ++ p :: r = (q ++ [p]) ++ r by simp]
      refine ih (s1 s p) (q ++ [p]) ?_
      unfold s1
      split
      · exact h.append (List.Sublist.refl _)
      · exact h.trans (List.sublist_append_left _ _)
  exact this ps (st,[]) [] (List.Sublist.refl _)
theorem xx (l:List (Nat × Nat)):(som l).map (·.1) = l.map (·.1):=by
  unfold som
  rw [List.map_map]
  rfl
theorem Yp (l:List (Nat × Nat)) (k:Nat):((som l).map (·.2)).count (some k) = (l.map (·.2)).count k:=by
  induction l with
  | nil=>rfl
  | cons a r ih=>
    show ((some a.2) :: (som r).map (·.2)).count (some k) = (a.2 :: r.map (·.2)).count k
    rw [List.count_cons,List.count_cons,ih]
    by_cases e:a.2 = k
    · rw [e];simp
    · simp [e]
theorem Yr {J:Job} {p k:Nat} {fr:Nat -> Int} (h:k ∈ rdy J p fr):k < J.fs.length /\ 0 < fr k:=by
  obtain ⟨h1,h2⟩:=List.mem_filter.mp h
  obtain ⟨h3,_⟩:=List.mem_filter.mp h1
  exact ⟨List.mem_range.mp h3,of_decide_eq_true h2⟩
theorem Cnt2.step {J:Job} {st:Nat -> Int} {s:(Nat -> Int) × List (Nat × Option Nat)} (h:Cnt2 st s) (p:Nat × Nat):Cnt2 st (s2 J s p):=by
  unfold s2
  split
  · exact h
  · split
    · intro k
      have hk:=h k
      show ((((s.2 ++ [(p.1,none)]).map (fun q:Nat × Option Nat=>q.2)).count (some k):Nat):Int) + s.1 k = st k
      rw [List.map_append,List.count_append,show (([(p.1,none)]:List (Nat × Option Nat)).map fun q=>q.2).count (some k) = 0 from rfl]
      omega
    · rename_i f r e
      intro k
      have hk:=h k
      show ((((s.2 ++ [(p.1,some f)]).map (fun q:Nat × Option Nat=>q.2)).count (some k):Nat):Int) + upF s.1 f (s.1 f - 1) k = st k
      rw [List.map_append,List.count_append]
      unfold upF
      by_cases e:k = f
      · subst e
        rw [if_pos rfl,show (([(p.1,some k)]:List (Nat × Option Nat)).map fun q=>q.2).count (some k) = 1 by simp]
        omega
      · rw [if_neg e,show (([(p.1,some f)]:List (Nat × Option Nat)).map fun q=>q.2).count (some k) = 0 by
          rw [List.map_cons,List.map_nil]
          exact List.count_eq_zero.mpr (by simpa using e)]
        omega
theorem zbI (J:Job) (st:Nat -> Int) (all ps:List (Nat × Nat)):Cnt2 st (P2 J st all ps):=by
  unfold P2
  have:∀ (ps:List (Nat × Nat)) s,Cnt2 st s -> Cnt2 st (ps.foldl (s2 J) s):=by
    intro ps
    induction ps with
    | nil=>intro s h;exact h
    | cons p r ih=>intro s h;exact ih _ (h.step p)
  refine this ps _ fun k=>?_
  show ((((som (P1 st all).2).map (·.2)).count (some k):Nat):Int) + (P1 st all).1 k = st k
  rw [Yp]
  exact zbJ st all k
structure Ky2 (st:Nat -> Int) (all ps:List (Nat × Nat)) (s:(Nat -> Int) × List (Nat × Option Nat)):Prop where
  nd:(s.2.map (·.1)).Nodup
  al:∀ p ∈ ps,p.1 ∈ s.2.map (·.1)
  sub:∀ x ∈ s.2.map (·.1),x ∈ all.map (·.1)
  non:∀ q ∈ s.2,q.2 = none -> q.1 ∈ ps.map (·.1)
  len:s.2.length <= all.length
theorem y3 {l m:List Nat} (h:l.Nodup) (hs:∀ x ∈ l,x ∈ m):l.length <= m.length:=h.length_le_of_subset hs
theorem Ky2.step {J:Job} {st:Nat -> Int} {all ps:List (Nat × Nat)} {s:(Nat -> Int) × List (Nat × Option Nat)} (h:Ky2 st all ps s) {p:Nat × Nat} (hp:p ∈ all):Ky2 st all (ps ++ [p]) (s2 J s p):=by
  have old:∀ {v:Option Nat} (q:Nat × Option Nat),q ∈ s.2 ++ [(p.1,v)] -> q ∈ s.2 \/ q.1 = p.1:=fun q hq=>by
    rcases List.mem_append.mp hq with h1 | h1
    · exact .inl h1
    · rw [List.mem_singleton.mp h1];exact .inr rfl
  have new:∀ (g:Nat -> Int) (v:Option Nat),p.1 ∉ s.2.map (·.1) -> Ky2 st all (ps ++ [p]) (g,s.2 ++ [(p.1,v)]):=fun g v hn=>by
    have nd:((s.2 ++ [(p.1,v)]).map (·.1)).Nodup:=by
      rw [List.map_append]
      refine List.nodup_append.mpr ⟨h.nd,by simp,fun a ha b hb=>?_⟩
      rw [List.map_cons,List.map_nil,List.mem_singleton] at hb
      intro e
      exact hn (by rw [<- hb,<- e];exact ha)
    have sub:∀ x ∈ (s.2 ++ [(p.1,v)]).map (·.1),x ∈ all.map (·.1):=fun x hx=>by
      rw [List.map_append] at hx
      rcases List.mem_append.mp hx with h1 | h1
      · exact h.sub x h1
      · rw [List.map_cons,List.map_nil,List.mem_singleton] at h1
        rw [h1]
        exact List.mem_map.mpr ⟨p,hp,rfl⟩
    refine ⟨nd,fun q hq=>?_,sub,fun q hq e=>?_,?_⟩
    · rw [List.map_append]
      rcases List.mem_append.mp hq with h1 | h1
      · exact List.mem_append_left _ (h.al q h1)
      · rw [List.mem_singleton.mp h1]
        exact List.mem_append_right _ (List.mem_singleton.mpr rfl)
    · rw [List.map_append]
      rcases old q hq with h1 | h1
      · exact List.mem_append_left _ (h.non q h1 e)
      · exact List.mem_append_right _ (by rw [h1];exact List.mem_singleton.mpr rfl)
    · have:=y3 nd sub
      rw [List.length_map,List.length_map] at this
      exact this
  unfold s2
  split
  · rename_i hin
    refine ⟨h.nd,fun q hq=>?_,h.sub,fun q hq e=>?_,h.len⟩
    · rcases List.mem_append.mp hq with h1 | h1
      · exact h.al q h1
      · rw [List.mem_singleton.mp h1];exact hin
    · rw [List.map_append]
      exact List.mem_append_left _ (h.non q hq e)
  · rename_i hn
    split
    · exact new _ _ hn
    · exact new _ _ hn
theorem zak {st:Nat -> Int} {all:List (Nat × Nat)} (h:(all.map (·.1)).Nodup):Ky2 st all [] ((P1 st all).1,som (P1 st all).2):=by
  have hs:=ZY st all
  refine ⟨?_,(fun p hp=>nomatch hp),fun x hx=>?_,fun q hq e=>?_,?_⟩
  · show ((som (P1 st all).2).map (·.1)).Nodup
    rw [xx]
    exact (hs.map (·.1)).nodup h
  · have hx':x ∈ (som (P1 st all).2).map (·.1):=hx
    rw [xx] at hx'
    exact (hs.map (·.1)).subset hx'
  · obtain ⟨u,_,rfl⟩:=List.mem_map.mp (show q ∈ som (P1 st all).2 from hq)
    cases e
  · show (som (P1 st all).2).length <= _
    unfold som
    rw [List.length_map]
    exact hs.length_le
theorem wD {J:Job} {st:Nat -> Int} {all:List (Nat × Nat)} (h:(all.map (·.1)).Nodup):∀ {i:Nat},i <= all.length -> Ky2 st all (all.take i) (P2 J st all (all.take i))
  | 0,_=>zak h
  | i + 1,hi=>by
    have ih:=wD (J:=J) (st:=st) h (i:=i) (by omega)
    obtain ⟨p,ep⟩:∃ p,all[i]? = some p:=⟨all[i]'(by omega),List.getElem?_eq_getElem (by omega)⟩
    rw [zQ ep,ZX]
    exact ih.step (List.mem_of_getElem? ep)
def oI (o:Option Nat):Option Int:=o.map fun k:Nat=>(k:Int)
def dkO (fd:List (Nat × Option Nat)):List (Key × V):=fd.map fun q=>(Sum.inl (q.1:Int),xV (oI q.2))
def lkF (fd:List (Nat × Option Nat)) (p:Nat):Option (Option Nat):=(fd.find? fun q=>decide (q.1 = p)).map (·.2)
theorem jV (p:Nat):∀ fd:List (Nat × Option Nat),z9 (dkO fd) (Sum.inl (p:Int)) = (lkF fd p).map fun o=>xV (oI o)
  | []=>rfl
  | q :: r=>by
    by_cases e:q.1 = p
    · rw [show lkF (q :: r) p = some q.2 by unfold lkF;rw [List.find?_cons,decide_eq_true e];rfl]
      exact qE (p:=(Sum.inl (q.1:Int),xV (oI q.2))) (by rw [e])
    · rw [show lkF (q :: r) p = lkF r p by unfold lkF;rw [List.find?_cons,decide_eq_false e],<- jV p r]
      exact qF (p:=(Sum.inl (q.1:Int),xV (oI q.2))) (fun z=>e (by
        have z':=Sum.inl.inj z
        exact Int.ofNat.inj z'))
theorem xG {fd:List (Nat × Option Nat)} {p:Nat}:lkF fd p = none ↔ p ∉ fd.map (·.1):=by
  unfold lkF
  rw [Option.map_eq_none_iff,List.find?_eq_none]
  constructor
  · intro h hm
    obtain ⟨q,hq,e⟩:=List.mem_map.mp hm
    exact h q hq (decide_eq_true e)
  · intro h q hq e
    exact h (List.mem_map.mpr ⟨q,hq,of_decide_eq_true e⟩)
theorem J8 {fd:List (Nat × Option Nat)} {p:Nat} {o:Option Nat} (h:lkF fd p = some o):(p,o) ∈ fd:=by
  unfold lkF at h
  obtain ⟨q,e,rfl⟩:=Option.map_eq_some_iff.mp h
  have h1:=List.find?_some e
  have h2:=List.mem_of_find?_eq_some e
  have:q.1 = p:=of_decide_eq_true h1
  rw [<- this]
  exact h2
theorem zbp {fd:List (Nat × Option Nat)} (nd:(fd.map (·.1)).Nodup) {p:Nat} {o:Option Nat} (h:(p,o) ∈ fd):lkF fd p = some o:=by
  induction fd with
  | nil=>cases h
  | cons q r ih=>
    rw [List.map_cons,List.nodup_cons] at nd
    rcases List.mem_cons.mp h with e | h
    · subst e
      unfold lkF
      rw [List.find?_cons,decide_eq_true rfl]
      rfl
    · have hne:¬ q.1 = p:=fun e=>nd.1 (List.mem_map.mpr ⟨(p,o),h,e.symm⟩)
      rw [show lkF (q :: r) p = lkF r p by unfold lkF;rw [List.find?_cons,decide_eq_false hne]]
      exact ih nd.2 h
theorem Xm {fd:List (Nat × Option Nat)} {p:Nat} {o:Option Nat} (h:p ∉ fd.map (·.1)):qV (dkO fd) (Sum.inl (p:Int)) (xV (oI o)) = dkO (fd ++ [(p,o)]):=by
  rw [vp _ (by rw [jV,xG.mpr h];rfl)]
  unfold dkO
  rw [List.map_append]
  rfl
def qT (fd:List (Nat × Option Nat)):List (Nat × Nat):=fd.filterMap fun q=>q.2.map fun k=>(q.1,k)
def zX (fd:List (Nat × Option Nat)):List Nat:=(fd.filter fun q=>decide (q.2 = none)).map (·.1)
theorem Vf (l:List (Nat × Nat)):qT (som l) = l:=by
  unfold qT som
  rw [List.filterMap_map]
  induction l with
  | nil=>rfl
  | cons a r ih=>rw [List.filterMap_cons];show a :: _ = _;rw [ih]
theorem X8 (l:List (Nat × Nat)):zX (som l) = []:=by
  unfold zX som
  rw [List.filter_eq_nil_iff.mpr (fun q hq=>?_)]
  · rfl
  · obtain ⟨u,_,rfl⟩:=List.mem_map.mp hq
    simp
theorem yU (fd:List (Nat × Option Nat)) (p:Nat) (o:Option Nat):qT (fd ++ [(p,o)]) = qT fd ++ (match o with | some k=>[(p,k)] | none=>[]):=by
  unfold qT
  rw [List.filterMap_append]
  cases o <;> rfl
theorem vP (fd:List (Nat × Option Nat)) (p:Nat) (o:Option Nat):zX (fd ++ [(p,o)]) = zX fd ++ (match o with | some k=>[] | none=>[p]):=by
  unfold zX
  rw [List.filter_append,List.map_append]
  cases o <;> rfl
theorem Vq {fd:List (Nat × Option Nat)} {p:Nat}:p ∈ zX fd ↔ (p,none) ∈ fd:=by
  unfold zX
  rw [List.mem_map]
  constructor
  · rintro ⟨q,hq,rfl⟩
    obtain ⟨h1,h2⟩:=List.mem_filter.mp hq
    have:q.2 = none:=of_decide_eq_true h2
    rw [<- this]
    exact h1
  · intro h
    exact ⟨(p,none),List.mem_filter.mpr ⟨h,decide_eq_true rfl⟩,rfl⟩
theorem vX {fd:List (Nat × Option Nat)} {p k:Nat}:(p,k) ∈ qT fd ↔ (p,some k) ∈ fd:=by
  unfold qT
  rw [List.mem_filterMap]
  constructor
  · rintro ⟨q,hq,e⟩
    obtain ⟨j,e1,e2⟩:=Option.map_eq_some_iff.mp e
    cases e2
    rw [<- e1]
    exact hq
  · intro h
    exact ⟨(p,some k),h,rfl⟩
def dkN (l:List (Nat × Nat)):List (Key × V):=dkO (som l)
theorem Xn {l:List (Nat × Nat)} {p k:Nat} (h:p ∉ l.map (·.1)):qV (dkN l) (Sum.inl (p:Int)) (.int (k:Int)) = dkN (l ++ [(p,k)]):=by
  have:=Xm (fd:=som l) (p:=p) (o:=some k) (by rw [xx];exact h)
  unfold dkN
  rw [show som (l ++ [(p,k)]) = som l ++ [(p,some k)] by unfold som;rw [List.map_append];rfl,<- this]
  rfl
theorem QI {l:List (Nat × Nat)} {p:Nat}:z9 (dkN l) (Sum.inl (p:Int)) = none ↔ p ∉ l.map (·.1):=by
  unfold dkN
  rw [jV,Option.map_eq_none_iff,xG,xx]
open Classical in
noncomputable def yC (as:List (Int × Int)) (wt:List Nat) (p:Nat):Bool:=decide (∃ j ∈ wt,∃ k,Wk as k (j:Int) (p:Int))
open Classical in
theorem wU {as:List (Int × Int)} {wt:List Nat} {p:Nat}:yC as wt p = true ↔ ∃ j ∈ wt,∃ k,Wk as k (j:Int) (p:Int):=by
  unfold yC
  exact decide_eq_true_iff
def fdN (fd:List (Nat × Option Nat)) (p:Nat):Nat:=((lkF fd p).getD none).getD 0
noncomputable def jI (fd:List (Nat × Option Nat)) (ob:Nat -> Bool) (t:zN):zN:=⟨(t.pk.filter fun p=>!ob p.1).map fun p=>(p.1,fdN fd p.1),t.ly.filter fun p=>!ob p⟩
noncomputable def jX (fd:List (Nat × Option Nat)) (ob:Nat -> Bool) (ts:List zN):List zN:=(ts.map (jI fd ob)).filter fun t=>!t.pk.isEmpty
def zk (ts:List zN):List (Nat × Nat):=ts.flatMap (·.pk)
def srt (l:List Int):List Int:=l.mergeSort fun a b=>decide (a <= b)
theorem Z5 (l:List Int):(srt l).Perm l:=List.mergeSort_perm _ _
theorem zaQ (l:List Int):(srt l).Pairwise (· <= ·):=by
  have:=List.pairwise_mergeSort (le:=fun a b:Int=>decide (a <= b)) (fun a b c h1 h2=>decide_eq_true (Int.le_trans (of_decide_eq_true h1) (of_decide_eq_true h2))) (fun a b=>by
    rcases Int.le_total a b with h | h
    · rw [decide_eq_true h];rfl
    · rw [decide_eq_true h,Bool.or_true]) l
  exact this.imp fun h=>of_decide_eq_true h
theorem Ws {a b:List Int} (h:a.Perm b) (ha:a.Pairwise (· <= ·)) (hb:b.Pairwise (· <= ·)):a = b:=by
  induction a generalizing b with
  | nil=>exact (List.Perm.nil_eq h)
  | cons x a ih=>
    cases b with
    | nil=>exact absurd h.length_eq (by simp)
    | cons y b=>
      rw [List.pairwise_cons] at ha hb
      have xy:x = y:=by
        have h1:y ∈ x :: a:=h.mem_iff.mpr List.mem_cons_self
        have h2:x ∈ y :: b:=h.mem_iff.mp List.mem_cons_self
        rcases List.mem_cons.mp h1 with z | z
        · exact z.symm
        · rcases List.mem_cons.mp h2 with u | u
          · exact u
          · have:=ha.1 y z
            have:=hb.1 x u
            omega
      subst xy
      rw [ih (List.Perm.cons_inv h) ha.2 hb.2]
theorem Zv {ms l:List Int} (h:ms.Perm l) (hp:ms.Pairwise (· <= ·)):ms = srt l:=Ws (h.trans (Z5 l).symm) hp (zaQ l)
def nI (l:List Nat):List Int:=l.map fun k:Nat=>(k:Int)
noncomputable def jH (fd:List (Nat × Option Nat)) (ob:Nat -> Bool) (ps:List (Nat × Nat)):List Nat:=(ps.filter fun p=>!ob p.1 && decide (fdN fd p.1 ≠ p.2)).map (·.1)
noncomputable def xm (ob:Nat -> Bool) (ps:List (Nat × Nat)):List Nat:=(ps.map (·.1)).filter ob
noncomputable def J7 (fd:List (Nat × Option Nat)) (ob:Nat -> Bool) (ts:List zN):Dat:=.tup [.lst ((jX fd ob ts).map qr),.lst ((srt (nI (jH fd ob (zk ts)))).map Dat.int),.lst ((srt (nI (xm ob (zk ts)))).map Dat.int)]
end L2
namespace L2
open PySem PySem.Spec PyProof.Rows
theorem xt (ts:List zN) (t:zN):zk (ts ++ [t]) = zk ts ++ t.pk:=by
  unfold zk
  rw [List.flatMap_append]
  simp
theorem yp (ts:List zN) (i:Nat):(zk (ts.take i)).length <= (zk ts).length:=by
  have e:zk ts = zk (ts.take i) ++ zk (ts.drop i):=by
    unfold zk
    rw [<- List.flatMap_append,List.take_append_drop]
  rw [e,List.length_append]
  omega
theorem Same.put {m:Addr} {H H':Hp} {o:HO} (s:Same H H') (h:H m = Option.none):Same H (upd H' m o):=fun c u e=>by
  rw [zi (zf e h)]
  exact s c u e
section
variable {P:Program} {w:World} {K:PySem.W.Frag} {mg:Str -> Option Value} {base:Heap}
theorem jK {H:Hp} {t:zN} {x:V} (h:Rep K H (qr t) x):∃ a b c xs ys,x = .ref a /\ SqT K H a [.ref b,.ref c] /\ SqT K H b xs /\ Reps K H (t.pk.map zZ) xs /\ SqT K H c ys /\ Reps K H (t.ly.map wW) ys:=by
  obtain ⟨a,vs,rfl,qa,x0,r0,e0,h0,x1,r1,e1,h1,e2⟩:=h
  subst e0 e1
  cases (show r1 = [] from e2)
  obtain ⟨b,xs,rfl,qb,rb⟩:=h0
  obtain ⟨c,ys,rfl,qc,rc⟩:=h1
  exact ⟨a,b,c,xs,ys,rfl,qa,qb,rb,qc,rc⟩
inductive VT (K:PySem.W.Frag) (vs:List V) (H:Hp) (Q:VK):Prop
  | mk (l:Addr) (xs:List V) (ts:List zN) (_:vs = [.ref l]) (_:SqL K H l xs) (_:Reps K H (ts.map qr) xs) (_:(zk ts).length <= 60) (_:∀ (p:Addr) (ys:List V) H',Same H H' -> H p = none -> H' p = some (.lst ys) -> Reps K H' ((zk ts).map zZ) ys -> Q (.ref p) H'):VT K vs H Q
def ZA (K:PySem.W.Frag):Sp:=fun vs H Q _=>VT K vs H Q
theorem zb0:zy ["plan"] ["plan"] (zt (zp 8)):=⟨rfl,rfl,rfl,by decide +kernel,rfl,by decide +kernel,by decide +kernel⟩
theorem zcn {f:Addr} {fd:FuncData} (F:Fun K "picks_in" "picks_in" (zp 8) f fd) (B:Blt mg):qA P w K mg base CX0 1 f fd ["plan"] (ZA K):=by
  have nd:=zb0.nd
  refine F.ok zb0 (fun vs H Q E h=>?_) (fun cdv A outer s H vs Q E hr h=>?_)
  · obtain ⟨l,xs,ts,rfl,_⟩:=h
    rfl
  · obtain ⟨l,xs,ts,rfl,hl,rl,al,k⟩:=h
    have hbig:1000000 < sizeLine:=by rw [sizeLine_eq];decide
    have ll:=rl.len
    rw [List.length_map] at ll
    refine ⟨_,(zm (zE (YC [] [] rfl rfl (by kernel_rfl) (zL (pv 0)) (fun _ _ _ _=>qR) (fun _ _ _ _=>(JX (K:=K) rfl (pv 0))) (fun _ _ _ _=>qR) (fun _ _ _ _=>(pv 2))))),?_⟩
    refine ⟨_,rfl,l,rfl,⟨_,hl⟩,WT (K:=K) (a:=l) (xs:=xs) (fun i zs H1=>Reps K H1 ((zk (ts.take i)).map zZ) zs /\ Same H H1) ⟨rfl,Same.refl _⟩ (fun i zs H1 ⟨_,sm⟩=>sm.seq hl) ?_ ?_⟩
    · rintro i x zs H1 hx ⟨rz,sm⟩
      obtain ⟨d,e1,r1⟩:=(rl.same sm).get hx
      rw [List.getElem?_map] at e1
      obtain ⟨t,et,rfl⟩:=Option.map_eq_some_iff.mp e1
      obtain ⟨a,b,c,ps,ys,rfl,qa,qb,rb,qc,rc⟩:=jK r1
      have lb:=rb.len
      rw [List.length_map] at lb
      have zl:=rz.len
      rw [List.length_map] at zl
      have le1:=yp ts (i + 1)
      rw [zQ et,xt,List.length_append] at le1
      refine ⟨a,_,rfl,qa,rfl,_,_,rfl,_,_,rfl,rfl,rfl,?_⟩
      refine ⟨_,rfl,b,rfl,⟨_,qb⟩,zby (K:=K) (a:=b) (xs:=ps) (fun j ws H2=>Reps K H2 ((zk (ts.take i) ++ t.pk.take j).map zZ) ws /\ Same H1 H2) ⟨by simpa using rz,Same.refl _⟩ (fun j ws H2 ⟨_,s2⟩=>s2.sqT qb) ?_ ?_⟩
      · rintro j y ws H2 hy ⟨rw2,s2⟩
        obtain ⟨d2,e2,r2⟩:=(rb.same s2).get hy
        rw [List.getElem?_map] at e2
        obtain ⟨p,ep,rfl⟩:=Option.map_eq_some_iff.mp e2
        have hj:=(List.getElem?_eq_some_iff.mp ep).1
        have wl:=rw2.len
        rw [List.length_map,List.length_append,List.length_take] at wl
        refine ⟨⟨rfl,rfl,trivial⟩,?_⟩
        refine ⟨_,rfl,by omega,?_,s2⟩
        rw [zQ ep,<- List.append_assoc,List.map_append (l₂:=[p])]
        exact rw2.snoc r2
      · rintro ws H2 ⟨rw2,s2⟩
        refine ⟨?_,sm.trans s2⟩
        rw [lb,List.take_length] at rw2
        rw [zQ et,xt]
        exact rw2
    rintro zs H1 ⟨rz,sm⟩
    rw [ll,List.take_length] at rz
    have zl:=rz.len
    rw [List.length_map] at zl
    exact ⟨by omega,fun p hp=>k p zs _ (sm.trans (zc hp)) (sm.free hp) zb (rz.same (zc hp))⟩
def kpN (l:List (Nat × Nat)):List (Key × V):=l.map fun q=>(Sum.inl (q.1:Int),V.int (q.2:Int))
inductive VR (K:PySem.W.Frag) (vs:List V) (H:Hp) (Q:VK):Prop
  | mk (l c:Addr) (xs:List V) (ts:List zN) (n:Nat) (st:Nat -> Int) (_:vs = [.ref l,.ref c]) (_:SqL K H l xs) (_:Reps K H (ts.map qr) xs) (_:(zk ts).length <= 60) (_:SqL K H c (qB n st)) (_:n <= 100) (_:(∀ p ∈ zk ts,p.2 < n)) (_:∀ (p:Addr) (ys:List V) H',Same H H' -> H p = none -> H' p = some (.lst ys) -> PrsL H' ys (kpN (P1 st (zk ts)).2) -> Q (.ref p) H'):VR K vs H Q
def zaR (K:PySem.W.Frag):Sp:=fun vs H Q _=>VR K vs H Q
theorem zbY:zy ["plan", "stock", "taken", "stay", "part", "feeder"] ["plan", "stock"] (zt (zp 9)):=⟨rfl,rfl,rfl,by decide +kernel,rfl,by decide +kernel,by decide +kernel⟩
def XF (l:_) (c:_) (tk:_) (sy:_) (H:_) (H3:_) (pl:_) (ys:List V) (n:_) (st:Nat -> Int) (ts:List zN):=fun (i:Nat) (σ:St) (H4:Hp)=>(Ex3 fun (v4 v5:Option V) (zs:List V)=>An7 (σ = [some (.ref l),some (.ref c),some (.ref tk),some (.ref sy),v4,v5]) (Same H H4) (SameT H3 H4) (H4 pl = some (.lst ys)) (H4 tk = some (.lst (qB n fun k=>st k - (P1 st ((zk ts).take i)).1 k))) (H4 sy = some (.lst zs)) (PrsL H4 zs (kpN (P1 st ((zk ts).take i)).2)):Prop)
theorem zcl {f:Addr} {fd:FuncData} (F:Fun K "staying_picks" "staying_picks" (zp 9) f fd) (B:Blt mg) (Dpicks_in:Dfn P w K mg base "picks_in" 1 ["plan"] (ZA K)):qA P w K mg base CX0 2 f fd ["plan", "stock"] (zaR K):=by
  have nd:=zbY.nd
  refine F.ok zbY (fun vs H Q E h=>?_) (fun cdv A outer s H vs Q E hr h=>?_)
  · obtain ⟨l,c,xs,ts,n,st,rfl,_⟩:=h
    rfl
  · obtain ⟨l,c,xs,ts,n,st,rfl,hl,rl,al,hc,n1,fn,k⟩:=h
    have hbig:1000000 < sizeLine:=by rw [sizeLine_eq];decide
    refine ⟨_,(ze (ZH [] [] rfl rfl (by kernel_rfl) (zL (pv 1)) (fun _ _ _ _=>qR) (fun _ _ _ _=>zg) (zn (i:=2) nd rfl (Or.inl rfl)))
      (ze (zv (i:=3) nd rfl (Or.inl rfl) (zJ zd))
      (ze (zU PassesOwn.never rfl (zL (zj Dpicks_in (hr.mono (by decide)) rfl (za (pv 0) zd))) (qx rfl (zq (zn (i:=4) nd rfl (Or.inl rfl)) (zq (zn (i:=5) nd rfl (Or.inl rfl)) zS)))
      (zm (jz (zw JZ (zx zD (pv 2) (pv 5) (fun _ _=>rfl)) (zx zD (pv 1) (pv 5) (fun _ _=>rfl)) (zB _))
        (ze (Yv (pv 2) (pv 5) WW zg zbx jM)
          (zm (qk (jn PySem.F.plainAttrs_list PySem.F.slot_list_append PySem.F.type_list_append zV (pv 3) (za (zO (za (pv 4) (za (pv 5) zd))) zd)))))
        qM)))
      (zm (zE (pv 3)))))),?_⟩
    refine ⟨_,rfl,c,rfl,⟨_,hc⟩,qH (K:=K) (a:=c) (xs:=qB n st) (fun i zs H1=>zs = qB i (fun _=>0) /\ Same H H1) ⟨rfl,Same.refl _⟩ (fun i zs H1 ⟨_,sm⟩=>sm.seq hc) ?_ ?_⟩
    · rintro i x zs H1 hx ⟨rfl,sm⟩
      have il:=(List.getElem?_eq_some_iff.mp hx).1
      rw [qU] at il
      refine ⟨rfl,by rw [qU];omega,?_,sm⟩
      unfold qB
      rw [List.range_succ,List.map_append]
      rfl
    rintro zs H1 ⟨e1,sm⟩
    rw [qU n st] at e1
    subst e1
    refine ⟨by rw [qU];omega,fun tk htk=>⟨le0,fun sy hsy=>?_⟩⟩
    have ntk:tk ≠ sy:=zf zb hsy
    have tk0:H tk = none:=sm.free htk
    have sy0:H sy = none:=sm.free (by rw [<- hsy,zi (Ne.symm ntk)])
    have T2:upd (upd H1 tk (.lst (qB n fun _=>0))) sy (.lst []) tk = some (.lst (qB n fun _=>0)):=(zc hsy) _ _ zb
    have Y2:upd (upd H1 tk (.lst (qB n fun _=>0))) sy (.lst []) sy = some (.lst []):=zb
    have s2:=(sm.trans (zc (o:=.lst (qB n fun _=>0)) htk)).trans (zc (o:=.lst []) hsy)
    generalize upd (upd H1 tk (.lst (qB n fun _=>0))) sy (.lst []) = H2 at *
    refine ⟨_,rfl,l,xs,ts,rfl,s2.seq hl,rl.same s2,al,fun pl ys H3 s3 pl0 hpl rp=>?_⟩
    have npt:pl ≠ tk:=Ne.symm (zf T2 pl0)
    have nps:pl ≠ sy:=Ne.symm (zf Y2 pl0)
    have lp:=rp.len
    rw [List.length_map] at lp
    refine ⟨pl,rfl,⟨_,SqL.of hpl⟩,qL (K:=K) (a:=pl) (xs:=ys) (XF l c tk sy H H3 pl ys n st ts) ⟨_,_,[],rfl,s2.trans s3,SameT.refl _,hpl,?_,s3 _ _ Y2,PrsL.nil⟩ (fun i σ H4 _ ⟨_,_,_,_,_,_,h,_,_,_⟩=>SqL.of h) ?_ ?_⟩
    · rw [s3 _ _ T2]
      have e0:(fun k=>st k - (P1 st ((zk ts).take 0)).1 k) = fun _=>0:=funext fun k=>by
        show st k - st k = 0
        omega
      rw [e0]
    · rintro i x σ H4 hx ⟨v4,v5,zs,rfl,s4,T4,hp4,ht4,hy4,pr4⟩
      obtain ⟨d,e1,r1⟩:=(rp.keep T4 (zG _)).get hx
      rw [List.getElem?_map] at e1
      obtain ⟨p,ep,rfl⟩:=Option.map_eq_some_iff.mp e1
      obtain ⟨pa,rfl,qp⟩:=qD r1
      have il:=(List.getElem?_eq_some_iff.mp ep).1
      have pf:=fn p (List.mem_of_getElem? ep)
      have hc4:=s4.seq hc
      have es:P1 st ((zk ts).take (i + 1)) = s1 (P1 st ((zk ts).take i)) p:=by rw [zQ ep,XC]
      have zl:zs.length <= 60:=by
        have h1:=pr4.1
        have h2:=(ZY st ((zk ts).take i)).length_le
        rw [List.length_take] at h2
        unfold kpN at h1
        rw [List.length_map] at h1
        omega
      refine ⟨pa,_,rfl,qp,rfl,_,_,rfl,_,_,rfl,rfl,?_⟩
      refine ⟨_,rfl,_,rfl,tk,_,_,_,rfl,rfl,SqL.of ht4,xh pf,_,rfl,_,rfl,c,_,_,_,rfl,rfl,hc4,xh pf,_,_,rfl,rfl,_,rfl,qO (fun cc=>?_) (fun cc=>?_)⟩
      · have c':0 < (P1 st ((zk ts).take i)).1 p.2:=by have:=of_decide_eq_true cc;omega
        refine ⟨_,rfl,_,rfl,tk,_,p.2,_,rfl,rfl,SqL.of ht4,xz pf,_,_,rfl,rfl,tk,_,_,p.2,rfl,rfl,ht4,by rw [qU];exact vB pf,?_⟩
        rw [wP pf]
        have eg:upF (fun k=>st k - (P1 st ((zk ts).take i)).1 k) p.2 (st p.2 - (P1 st ((zk ts).take i)).1 p.2 + 1) = fun k=>st k - (P1 st ((zk ts).take (i + 1))).1 k:=funext fun k=>by
          rw [es,s1,if_pos c']
          unfold upF
          show (if k = p.2 then _ else _) = st k - (if k = p.2 then _ else _)
          by_cases e:k = p.2
          · rw [if_pos e,if_pos e,e];omega
          · rw [if_neg e,if_neg e]
        rw [eg]
        have s5:=s4.put (o:=.lst (qB n fun k=>st k - (P1 st ((zk ts).take (i + 1))).1 k)) tk0
        have T5:=T4.trans (SameT.put (ys:=qB n fun k=>st k - (P1 st ((zk ts).take (i + 1))).1 k) ht4)
        have hp5:upd H4 tk (.lst (qB n fun k=>st k - (P1 st ((zk ts).take (i + 1))).1 k)) pl = some (.lst ys):=by rw [zi npt];exact hp4
        have ht5:upd H4 tk (.lst (qB n fun k=>st k - (P1 st ((zk ts).take (i + 1))).1 k)) tk = some (.lst (qB n fun k=>st k - (P1 st ((zk ts).take (i + 1))).1 k)):=zb
        have hy5:upd H4 tk (.lst (qB n fun k=>st k - (P1 st ((zk ts).take (i + 1))).1 k)) sy = some (.lst zs):=by rw [zi (Ne.symm ntk)];exact hy4
        have pr5:PrsL (upd H4 tk (.lst (qB n fun k=>st k - (P1 st ((zk ts).take (i + 1))).1 k))) zs (kpN (P1 st ((zk ts).take i)).2):=⟨pr4.1,fun j x e=>by
          obtain ⟨T,kk,v,h1,h2,h3⟩:=pr4.2 j x e
          exact ⟨T,kk,v,h1,by rw [zi (fun z=>by rw [z,ht4] at h2;cases h2)];exact h2,h3⟩⟩
        generalize upd H4 tk (.lst (qB n fun k=>st k - (P1 st ((zk ts).take (i + 1))).1 k)) = H5 at *
        refine ⟨_,rfl,.inl ⟨rfl,_,SqL.of hy5⟩,_,rfl,_,rfl,le2,fun q hq=>?_⟩
        have s6:=zc (H:=H5) (o:=.tup [.int p.1,.int p.2]) hq
        have nqs:q ≠ sy:=Ne.symm (zf hy5 hq)
        refine ⟨sy,zs,.ref q,rfl,rfl,s6 _ _ hy5,by omega,_,_,zs ++ [.ref q],rfl,(s5.trans s6).put sy0,(T5.trans (SameT.of s6)).trans (SameT.put (s6 _ _ hy5)),?_,?_,zb,?_⟩
        · rw [zi nps];exact s6 _ _ hp5
        · rw [zi ntk];exact s6 _ _ ht5
        · rw [es,s1,if_pos c',show kpN ((P1 st ((zk ts).take i)).2 ++ [p]) = kpN (P1 st ((zk ts).take i)).2 ++ [(Sum.inl (p.1:Int),V.int (p.2:Int))] by unfold kpN;rw [List.map_append];rfl]
          have pr6:=(pr5.same s6).snoc (T:=q) (k:=Sum.inl (p.1:Int)) (v:=V.int (p.2:Int)) zb
          exact ⟨pr6.1,fun j x e=>by
            obtain ⟨T,kk,v,h1,h2,h3⟩:=pr6.2 j x e
            exact ⟨T,kk,v,h1,by rw [zi (fun z=>by rw [z,s6 _ _ hy5] at h2;cases h2)];exact h2,h3⟩⟩
      · have c':¬ 0 < (P1 st ((zk ts).take i)).1 p.2:=fun z=>cc (decide_eq_true (by omega))
        refine ⟨_,_,zs,rfl,s4,T4,hp4,?_,hy4,?_⟩
        · rw [ht4,es,s1,if_neg c']
        · rw [es,s1,if_neg c'];exact pr4
    · rintro σ H4 ⟨v4,v5,zs,rfl,s4,T4,hp4,ht4,hy4,pr4⟩
      rw [lp,List.take_length] at pr4
      exact ⟨_,rfl,k sy zs H4 s4 sy0 hy4 pr4⟩
end
theorem wX:∀ (kps acc:List (Key × V)),((acc ++ kps).map (·.1)).Nodup -> qG acc kps = acc ++ kps
  | [],acc,_=>by rw [List.append_nil];rfl
  | q :: r,acc,h=>by
    have e:acc ++ q :: r = (acc ++ [q]) ++ r:=by simp
    have hn:q.1 ∉ acc.map (·.1):=by
      rw [List.map_append,List.map_cons] at h
      obtain ⟨_,_,h3⟩:=List.nodup_append.mp h
      exact fun hm=>h3 _ hm _ List.mem_cons_self rfl
    have hv:z9 acc q.1 = none:=by
      unfold z9
      rw [Option.map_eq_none_iff,List.find?_eq_none]
      intro x hx ex
      exact hn (List.mem_map.mpr ⟨x,hx,of_decide_eq_true ex⟩)
    show qG (qV acc q.1 q.2) r = _
    rw [vp _ hv,e]
    exact wX r (acc ++ [q]) (by rw [<- e];exact h)
theorem Y1 (l:List (Nat × Nat)):kpN l = dkO (som l):=by
  unfold kpN dkO som
  rw [List.map_map]
  rfl
theorem Vr {l:List (Nat × Nat)} (h:(l.map (·.1)).Nodup):((kpN l).map (·.1)).Nodup:=by
  unfold kpN
  rw [List.map_map]
  have:(l.map ((fun p:Key × V=>p.1) ∘ fun q:Nat × Nat=>(Sum.inl (q.1:Int),V.int (q.2:Int)))) = (l.map (·.1)).map fun k:Nat=>(Sum.inl (k:Int):Key):=by rw [List.map_map];rfl
  rw [this]
  exact List.Pairwise.map _ (fun a b z y=>z (Int.ofNat.inj (Sum.inl.inj y))) h
theorem Ya (l:List (Option Nat)) (k:Nat):(l.map oI).count (some (k:Int)) = l.count (some k):=by
  induction l with
  | nil=>rfl
  | cons a r ih=>
    rw [List.map_cons,List.count_cons,List.count_cons,ih]
    cases a with
    | none=>rfl
    | some j=>
      have e:(oI (some j) == some (k:Int)) = (some j == some k):=by
        rw [Bool.eq_iff_iff,beq_iff_eq,beq_iff_eq]
        constructor
        · intro h
          have:=Option.some.inj (show some (j:Int) = some (k:Int) from h)
          rw [Int.ofNat.inj this]
        · intro h
          rw [Option.some.inj h]
          rfl
      rw [e]
theorem Xe {J:Job} {p:Nat} {pa:ZW} (h:J.ps[p]? = some pa):zbv J p = pa.k:=by unfold zbv;rw [h];rfl
theorem z7 {α:Type} (f:α -> Bool) {l:List α} {i:Nat} {x:α} (h:l[i]? = some x):(l.take (i + 1)).filter f = (l.take i).filter f ++ (if f x = true then [x] else []):=by
  rw [zQ h,List.filter_append]
  cases hf:f x
  · rw [List.filter_cons_of_neg (by rw [hf];exact Bool.false_ne_true)];rfl
  · rw [List.filter_cons_of_pos hf];rfl
theorem zbH (fs:List vN) (kd:Str) (n:Nat):(atK fs kd n).Pairwise (· < ·):=List.Pairwise.filter _ List.pairwise_lt_range
theorem za3 (J:Job) (p:Nat) (fr:Nat -> Int):(rdy J p fr).Pairwise (· < ·):=List.Pairwise.filter _ (zbH _ _ _)
section
variable {P:Program} {w:World} {K:PySem.W.Frag} {mg:Str -> Option Value} {base:Heap}
structure Brk (J:Job) (ts:List zN):Prop where
  al:(zk ts).length <= 60
  nd:((zk ts).map (·.1)).Nodup
  ok:∀ p ∈ zk ts,p.1 < J.ps.length /\ p.2 < J.fs.length
  fl:J.fs.length <= 60
def zK (J:Job) (st:Nat -> Int) (ts:List zN):List (Nat × Option Nat):=(P2 J st (zk ts) (zk ts)).2
inductive VU (K:PySem.W.Frag) (vs:List V) (H:Hp) (Q:VK):Prop
  | mk (jp l c:Addr) (J:Job) (xs:List V) (ts:List zN) (st:Nat -> Int) (_:vs = [.ref jp,.ref l,.ref c]) (_:Rep K H (jQ J) (.ref jp)) (_:SqL K H l xs) (_:Reps K H (ts.map qr) xs) (_:Brk J ts) (_:SqL K H c (qB J.fs.length st)) (_:∀ (p:Addr) (o:Obj) H',Same H H' -> H p = none -> H' p = some (.frz o (.dK (dkO (zK J st ts)))) -> Q (.ref p) H'):VU K vs H Q
def zaT (K:PySem.W.Frag):Sp:=fun vs H Q _=>VU K vs H Q
theorem zb1:zy ["job", "plan", "stock", "feeders", "part", "feeder", "taken", "ready"] ["job", "plan", "stock"] (zt (zp 10)):=⟨rfl,rfl,rfl,by decide +kernel,rfl,by decide +kernel,by decide +kernel⟩
def XE (jp:_) (l:_) (c:_) (d:_) (H:_) (H3:_) (pl:_) (ys:List V) (J:Job) (st:Nat -> Int) (ts:List zN):=fun (i:Nat) (σ:St) (H4:Hp)=>(Ex4 fun (v4 v5 v6 v7:Option V)=>An5 (σ = [some (.ref jp),some (.ref l),some (.ref c),some (.ref d),v4,v5,v6,v7]) (Same H H4) (SameT H3 H4) (H4 pl = some (.lst ys)) (H4 d = some (.dK (dkO (P2 J st (zk ts) ((zk ts).take i)).2))):Prop)
theorem zco {f:Addr} {fd:FuncData} (F:Fun K "new_feeders" "new_feeders" (zp 10) f fd) (B:Blt mg) (Dpicks_in:Dfn P w K mg base "picks_in" 1 ["plan"] (ZA K)) (Dstaying_picks:Dfn P w K mg base "staying_picks" 2 ["plan", "stock"] (zaR K)) (Dfeeders_for:Dfn P w K mg base "feeders_for" 1 ["job", "kind"] (V1 K)):qA P w K mg base CX0 3 f fd ["job", "plan", "stock"] (zaT K):=by
  have nd:=zb1.nd
  refine F.ok zb1 (fun vs H Q E h=>?_) (fun cdv A outer s H vs Q E hr h=>?_)
  · obtain ⟨jp,l,c,J,xs,ts,st,rfl,_⟩:=h
    rfl
  · obtain ⟨jp,l,c,J,xs,ts,st,rfl,rj,hl,rl,bk,hc,k⟩:=h
    have hbig:1000000 < sizeLine:=by rw [sizeLine_eq];decide
    have hu64:=hr.units
    have hu1:=wf hr
    have al:=bk.al
    have fl:=bk.fl
    refine ⟨_,(ze (zv (i:=3) nd rfl (Or.inl rfl) (zM (yj hr.hd) rfl B.dict Zk (za (zj Dstaying_picks (hr.mono (by decide)) rfl (za (pv 1) (za (pv 2) zd))) zd)))
      (ze (zU PassesOwn.never rfl (zL (zj Dpicks_in (hr.mono (by decide)) rfl (za (pv 1) zd))) (qx rfl (zq (zn (i:=4) nd rfl (Or.inl rfl)) (zq (zn (i:=5) nd rfl (Or.inl rfl)) zS)))
      (zm (jz (Q9 (vT hu1 (pv 4) (pv 3)))
        (ze (zv (i:=6) nd rfl (Or.inr rfl) (zM (Jq hr.hd) rfl B.list qQ (za (Ww PySem.F.slot_dict_values PySem.F.type_dict_values Vm (pv 3)) zd)))
          (ze (ZH ["stock", "taken"] [2,6] rfl rfl (by kernel_rfl) (zL (zj Dfeeders_for (hr.mono (by decide)) rfl (za (pv 0) (za (zx qW (zx qW (zx qW (pv 0) zg (fun _ _=>rfl)) (pv 4) (fun _ _=>rfl)) zg (fun _ _=>rfl)) zd)))) (fun _ _ _ _=>(qI (zw JZ (zbf (K:=K) rfl PySem.F.plainAttrs_list PySem.F.slot_list_count PySem.F.type_list_count Vp (pv 2) (za (pv 0) zd)) (zx (xb (K:=K) rfl) (pv 1) (pv 0) (fun _ _=>rfl)) (zB _)))) (fun _ _ _ _=>(pv 0)) (zn (i:=7) nd rfl (Or.inl rfl)))
          (zm (JV hu1 (pv 3) (pv 4) (Jd (Jp rfl hu64) rfl B.min Ye (za (pv 7) zd) Jc) rfl))))
        qM)))
      (zm (zE (Wu (pv 3)))))),?_⟩
    refine ⟨_,rfl,_,rfl,l,c,xs,ts,_,st,rfl,hl,rl,al,hc,by omega,fun p hp=>(bk.ok p hp).2,fun sy zs H1 s1' sy0 hsy pr=>?_⟩
    refine ⟨sy,zs,_,rfl,hsy,pr,fun d hd=>?_⟩
    have nd1:(((P1 st (zk ts)).2).map (·.1)).Nodup:=((ZY st (zk ts)).map (·.1)).nodup bk.nd
    have d0:H d = none:=s1'.free hd
    have D2:upd H1 d (.dK (qG [] (kpN (P1 st (zk ts)).2))) d = some (.dK (dkO (som (P1 st (zk ts)).2))):=by rw [zb,wX _ [] (by rw [List.nil_append];exact Vr nd1),List.nil_append,Y1]
    have s2':=s1'.trans (zc (H:=H1) (o:=.dK (qG [] (kpN (P1 st (zk ts)).2))) hd)
    generalize upd H1 d (.dK (qG [] (kpN (P1 st (zk ts)).2))) = H2 at *
    clear hsy pr s1'
    refine ⟨_,rfl,l,xs,ts,rfl,s2'.seq hl,rl.same s2',al,fun pl ys H3 s3 pl0 hpl rp=>?_⟩
    have npd:pl ≠ d:=Ne.symm (zf D2 pl0)
    have lp:=rp.len
    rw [List.length_map] at lp
    refine ⟨pl,rfl,⟨_,SqL.of hpl⟩,qL (K:=K) (a:=pl) (xs:=ys) (XE jp l c d H H3 pl ys J st ts) ⟨_,_,_,_,rfl,s2'.trans s3,SameT.refl _,hpl,s3 _ _ D2⟩ (fun i σ H4 _ ⟨_,_,_,_,_,_,_,h,_⟩=>SqL.of h) ?_ ?_⟩
    · rintro i x σ H4 hx ⟨v4,v5,v6,v7,rfl,s4,T4,hp4,hd4⟩
      obtain ⟨dd,e1,r1⟩:=(rp.keep T4 (zG _)).get hx
      rw [List.getElem?_map] at e1
      obtain ⟨p,ep,rfl⟩:=Option.map_eq_some_iff.mp e1
      obtain ⟨pa,rfl,qp⟩:=qD r1
      have il:=(List.getElem?_eq_some_iff.mp ep).1
      obtain ⟨p1,p2⟩:=bk.ok p (List.mem_of_getElem? ep)
      have es:P2 J st (zk ts) ((zk ts).take (i + 1)) = s2 J (P2 J st (zk ts) ((zk ts).take i)) p:=by rw [zQ ep,ZX]
      have ky:=wD (J:=J) (st:=st) bk.nd (i:=i) (by omega)
      have cn:=zbI J st (zk ts) ((zk ts).take i)
      generalize P2 J st (zk ts) ((zk ts).take i) = S at es ky cn hd4
      refine ⟨pa,_,rfl,qp,rfl,_,_,rfl,_,_,rfl,rfl,?_⟩
      refine ⟨_,rfl,_,rfl,d,_,rfl,DGet.k (k:=Sum.inl (p.1:Int)) hd4,_,rfl,qO (fun cc=>?_) (fun cc=>?_)⟩
      · rw [jV] at cc
        have hn:p.1 ∉ S.2.map (·.1):=by
          refine xG.mp ?_
          cases hlk:lkF S.2 p.1 with
          | none=>rfl
          | some o=>rw [hlk] at cc;cases cc
        refine ⟨_,rfl,d,rfl,.inl ⟨_,.inl hd4⟩,d,_,rfl,rfl,.inl hd4,fun pv hpv=>⟨pv,d,_,rfl,zb,.inl ((zc hpv) _ _ hd4),fun tl htl=>?_⟩⟩
        have ev:(dkO S.2).map (·.2) = (S.2.map fun q=>oI q.2).map xV:=by
          unfold dkO
          rw [List.map_map,List.map_map]
          rfl
        have s6:=(zc (H:=H4) (o:=wF pv d) hpv).trans (zc (o:=.lst ((dkO S.2).map (·.2))) htl)
        have L6:upd (upd H4 pv (wF pv d)) tl (.lst ((dkO S.2).map (·.2))) tl = some (.lst ((S.2.map fun q=>oI q.2).map xV)):=by rw [zb,ev]
        generalize upd (upd H4 pv (wF pv d)) tl (.lst ((dkO S.2).map (·.2))) = H6 at *
        have s06:=s4.trans s6
        obtain ⟨g,fs,ps,as,fv,px,qj,_,qf,rf,qp',rp',_⟩:=xT (rj.same s06)
        obtain ⟨pt,ept⟩:∃ pt,J.ps[p.1]? = some pt:=⟨J.ps[p.1],List.getElem?_eq_getElem p1⟩
        obtain ⟨v,ev1,rv1⟩:=Js rp' ept
        obtain ⟨a1,c1,rfl,qa1,_⟩:=vU rv1
        refine ⟨_,rfl,_,rfl,jp,_,_,_,rfl,rfl,qj,qm (j:=3) rfl,_,rfl,ps,_,_,_,rfl,rfl,qp',qm ev1,a1,_,_,_,rfl,rfl,qa1,qm (j:=0) rfl,jp,J,pt.k,rfl,rj.same s06,by omega,fun fl H7 fl0 s7 hfl=>?_⟩
        have s67:=s6.trans s7
        have s07:=s4.trans s67
        have L7:=s7 _ _ L6
        have c7:=s07.seq hc
        have lf:(zo (atK J.fs pt.k J.fs.length)).length = (atK J.fs pt.k J.fs.length).length:=zu _
        have la:=wc J.fs pt.k J.fs.length
        refine ⟨fl,rfl,⟨_,SqL.of hfl⟩,qH (K:=K) (a:=fl) (xs:=zo (atK J.fs pt.k J.fs.length)) (fun i zs H8=>zs = zo (((atK J.fs pt.k J.fs.length).take i).filter fun k=>decide (0 < S.1 k)) /\ Same H7 H8) ⟨rfl,Same.refl _⟩ (fun i zs H8 ⟨_,s8⟩=>SqL.of (s8 _ _ hfl)) ?_ ?_⟩
        · rintro j x zs H8 hx ⟨rfl,s8⟩
          obtain ⟨kk,ek,rfl⟩:=vy hx
          have jl:=(List.getElem?_eq_some_iff.mp ek).1
          have kl:kk < J.fs.length:=List.mem_range.mp (List.mem_filter.mp (List.mem_of_getElem? ek)).1
          have cnk:=cn kk
          have ec:((S.2.map fun q=>oI q.2).count (some (kk:Int))) = (S.2.map (·.2)).count (some kk):=by
            have:(S.2.map fun q=>oI q.2) = (S.2.map (·.2)).map oI:=by rw [List.map_map];rfl
            rw [this]
            exact Ya _ _
          refine ⟨rfl,_,rfl,.inl ⟨rfl,_,SqL.of (s8 _ _ L7)⟩,_,rfl,tl,_,_,rfl,rfl,s8 _ _ L7,_,rfl,_,rfl,c,_,_,_,rfl,rfl,s8.seq c7,xh kl,_,_,rfl,rfl,_,rfl,qO (fun c2=>?_) (fun c2=>?_)⟩
          · have c3:0 < S.1 kk:=by
              have:=of_decide_eq_true c2
              rw [ec] at this
              omega
            refine ⟨_,rfl,?_,?_,s8⟩
            · rw [zu]
              exact Nat.lt_of_le_of_lt (List.length_filter_le _ _) (by rw [List.length_take];omega)
            · rw [z7 _ ek,decide_eq_true c3,if_pos rfl,qg]
          · have c3:¬ 0 < S.1 kk:=fun z=>c2 (decide_eq_true (by rw [ec];omega))
            refine ⟨?_,s8⟩
            rw [z7 _ ek,decide_eq_false c3,if_neg Bool.false_ne_true,List.append_nil]
        rintro zs H8 ⟨e8,s8⟩
        rw [lf,List.take_length,show (atK J.fs pt.k J.fs.length).filter (fun k=>decide (0 < S.1 k)) = rdy J p.1 S.1 by unfold rdy;rw [Xe ept]] at e8
        subst e8
        have lr:(rdy J p.1 S.1).length <= J.fs.length:=by
          unfold rdy
          exact Nat.le_trans (List.length_filter_le _ _) (wc _ _ _)
        refine ⟨by rw [zu];omega,fun rd hrd=>?_⟩
        have s9:=s8.trans (zc (H:=H8) (o:=.lst (zo (rdy J p.1 S.1))) hrd)
        have R9:upd H8 rd (.lst (zo (rdy J p.1 S.1))) rd = some (.lst (zo (rdy J p.1 S.1))):=zb
        generalize upd H8 rd (.lst (zo (rdy J p.1 S.1))) = H9 at *
        have s49:=s67.trans s9
        have fin:∀ o:Option Nat,(P2 J st (zk ts) ((zk ts).take (i + 1))).2 = S.2 ++ [(p.1,o)] -> Ex4 fun (v4 v5 v6 v7:Option V)=>An5 ([some (V.ref jp),some (.ref l),some (.ref c),some (.ref d),some (V.int (p.1:Int)),some (V.int (p.2:Int)),some (V.ref tl),some (V.ref rd)] = [some (.ref jp),some (.ref l),some (.ref c),some (.ref d),v4,v5,v6,v7]) (Same H (upd H9 d (.dK (qV (dkO S.2) (Sum.inl (p.1:Int)) (xV (oI o)))))) (SameT H3 (upd H9 d (.dK (qV (dkO S.2) (Sum.inl (p.1:Int)) (xV (oI o)))))) (upd H9 d (.dK (qV (dkO S.2) (Sum.inl (p.1:Int)) (xV (oI o)))) pl = some (.lst ys)) (upd H9 d (.dK (qV (dkO S.2) (Sum.inl (p.1:Int)) (xV (oI o)))) d = some (.dK (dkO (P2 J st (zk ts) ((zk ts).take (i + 1))).2))):=fun o eo=>by
          refine ⟨_,_,_,_,rfl,(s4.trans s49).put d0,(T4.trans (SameT.of s49)).trans (SameT.putD (s49 _ _ hd4)),?_,?_⟩
          · rw [zi npd];exact s49 _ _ hp4
          · rw [zb,eo,Xm hn]
        have kl:=ky.len
        have dl:(dkO S.2).length < sizeLine:=by
          unfold dkO
          rw [List.length_map]
          omega
        refine ⟨_,rfl,rd,nI (rdy J p.1 S.1),rfl,by rw [show (nI (rdy J p.1 S.1)).map V.int = zo (rdy J p.1 S.1) by unfold nI zo;rw [List.map_map];rfl];exact SqL.of R9,fun e0=>?_,fun m hm hmin=>?_⟩
        · have er:rdy J p.1 S.1 = []:=by
            unfold nI at e0
            exact List.map_eq_nil_iff.mp e0
          obtain ⟨w4,w5,w6,w7,f1,f2,f3,f4,f5⟩:=fin none (by rw [es,s2,if_neg hn,er])
          exact ⟨_,rfl,_,rfl,d,_,rfl,DPut.k (k:=Sum.inl (p.1:Int)) (s49 _ _ hd4) dl,w4,w5,w6,w7,f1,f2,f3,f4,f5⟩
        · obtain ⟨r0,rr,er⟩:∃ r0 rr,rdy J p.1 S.1 = r0 :: rr:=by
            cases h0:rdy J p.1 S.1 with
            | nil=>rw [h0] at hm;cases hm
            | cons a b=>exact ⟨a,b,rfl⟩
          have pw:=za3 J p.1 S.1
          rw [er,List.pairwise_cons] at pw
          have em:m = (r0:Int):=by
            have h1:=hmin (r0:Int) (by rw [er];exact List.mem_cons_self)
            unfold nI at hm
            obtain ⟨k0,hk0,rfl⟩:=List.mem_map.mp hm
            rw [er] at hk0
            rcases List.mem_cons.mp hk0 with z | z
            · rw [z]
            · have:=pw.1 k0 z
              omega
          subst em
          obtain ⟨w4,w5,w6,w7,f1,f2,f3,f4,f5⟩:=fin (some r0) (by rw [es,s2,if_neg hn,er])
          exact ⟨_,rfl,_,rfl,d,_,rfl,DPut.k (k:=Sum.inl (p.1:Int)) (s49 _ _ hd4) dl,w4,w5,w6,w7,f1,f2,f3,f4,f5⟩
      · rw [jV] at cc
        have hin:p.1 ∈ S.2.map (·.1):=Classical.byContradiction fun z=>cc (by rw [xG.mpr z];rfl)
        refine ⟨_,_,_,_,rfl,s4,T4,hp4,?_⟩
        rw [es,s2,if_pos hin]
        exact hd4
    · rintro σ H4 ⟨v4,v5,v6,v7,rfl,s4,T4,hp4,hd4⟩
      rw [lp,List.take_length] at hd4
      refine ⟨_,rfl,d,_,rfl,hd4,fun o=>k d o _ (s4.put d0) d0 zb⟩
end
theorem YT (os:List Nat):(nI os).map V.int = zo os:=by unfold nI zo;rw [List.map_map];rfl
theorem wY {os:List Nat} {k:Nat}:(k:Int) ∈ nI os ↔ k ∈ os:=by
  unfold nI
  rw [List.mem_map]
  exact ⟨fun ⟨j,hj,e⟩=>by rw [<- Int.ofNat.inj e];exact hj,fun h=>⟨k,h,rfl⟩⟩
theorem vW (os:List Nat):(nI os).length = os.length:=List.length_map ..
theorem zaE (j:Int) (os:List Nat):inV (.int j) (zo os) = decide (j ∈ nI os):=by
  rw [Bool.eq_iff_iff,decide_eq_true_iff]
  unfold inV
  rw [List.any_eq_true]
  constructor
  · rintro ⟨y,hy,e⟩
    unfold zo at hy
    obtain ⟨k,hk,rfl⟩:=List.mem_map.mp hy
    have:((k:Int) == j) = true:=e
    rw [<- beq_iff_eq.mp this]
    exact wY.mpr hk
  · intro h
    unfold nI at h
    obtain ⟨k,hk,rfl⟩:=List.mem_map.mp h
    exact ⟨.int (k:Int),List.mem_map.mpr ⟨k,hk,rfl⟩,(show ((k:Int) == (k:Int)) = true from beq_self_eq_true _)⟩
theorem zag {as:List (Int × Int)} {wt:List Nat} {p:Nat} {ms:List Int} (h:∀ j,j ∈ ms ↔ j ≠ (p:Int) /\ ∃ k,Wk as k j (p:Int)):(((p:Int) :: ms).map fun j=>decide (j ∈ nI wt)).any id = yC as wt p:=by
  rw [Bool.eq_iff_iff,wU,List.any_eq_true]
  constructor
  · rintro ⟨b,hb,e⟩
    obtain ⟨j,hj,rfl⟩:=List.mem_map.mp hb
    have hw:j ∈ nI wt:=of_decide_eq_true e
    unfold nI at hw
    obtain ⟨q,hq,rfl⟩:=List.mem_map.mp hw
    rcases List.mem_cons.mp hj with z | z
    · exact ⟨q,hq,0,z⟩
    · exact ⟨q,hq,((h _).mp z).2⟩
  · rintro ⟨q,hq,k,wk⟩
    refine ⟨true,List.mem_map.mpr ⟨(q:Int),?_,decide_eq_true (wY.mpr hq)⟩,rfl⟩
    by_cases e:(q:Int) = (p:Int)
    · rw [e];exact List.mem_cons_self
    · exact List.mem_cons_of_mem _ ((h _).mpr ⟨e,k,wk⟩)
theorem QV {fd:List (Nat × Option Nat)} {i:Nat} {q:Nat × Option Nat} (h:fd[i]? = some q):zX (fd.take (i + 1)) = zX (fd.take i) ++ (if q.2 = none then [q.1] else []):=by
  rw [zQ h,show [q] = [(q.1,q.2)] from rfl,vP]
  cases q.2 <;> rfl
theorem vO (fd:List (Nat × Option Nat)):(zX fd).length <= fd.length:=by
  unfold zX
  rw [List.length_map]
  exact List.length_filter_le _ _
section
variable {P:Program} {w:World} {K:PySem.W.Frag} {mg:Str -> Option Value} {base:Heap}
inductive V3 (K:PySem.W.Frag) (vs:List V) (H:Hp) (Q:VK):Prop
  | mk (jp d:Addr) (o:Obj) (J:Job) (fd:List (Nat × Option Nat)) (_:vs = [.ref jp,.ref d]) (_:Rep K H (jQ J) (.ref jp)) (_:J.ps.length <= 60) (_:(∀ q ∈ asI J,InN J.ps.length q.1 /\ InN J.ps.length q.2)) (_:J.as.length <= 300) (_:H d = some (.frz o (.dK (dkO fd)))) (_:fd.length <= 60) (_:(∀ q ∈ fd,q.1 < J.ps.length)) (_:∀ (l:Addr) (ms:List Int) H',Same H H' -> H l = none -> H' l = some (.lst (ms.map V.int)) -> ms.Perm (nI ((fd.map (·.1)).filter (yC (asI J) (zX fd)))) -> ms.Pairwise (· <= ·) -> Q (.ref l) H'):V3 K vs H Q
def zaY (K:PySem.W.Frag):Sp:=fun vs H Q _=>V3 K vs H Q
theorem zb6:zy ["job", "feeders", "wanting"] ["job", "feeders"] (zt (zp 11)):=⟨rfl,rfl,rfl,by decide +kernel,rfl,by decide +kernel,by decide +kernel⟩
theorem zct {f:Addr} {fd:FuncData} (F:Fun K "dropped_parts" "dropped_parts" (zp 11) f fd) (B:Blt mg) (Dahead_of:Dfn P w K mg base "ahead_of" 3 ["job", "part"] (ZD K)):qA P w K mg base CX0 4 f fd ["job", "feeders"] (zaY K):=by
  have nd:=zb6.nd
  refine F.ok zb6 (fun vs H Q E h=>?_) (fun cdv A outer s H vs Q E hr h=>?_)
  · obtain ⟨jp,d,o,J,fd,rfl,_⟩:=h
    rfl
  · obtain ⟨jp,d,o,J,fd,rfl,rj,pl,ain,al,hd,fl,fp,k⟩:=h
    have hbig:1000000 < sizeLine:=by rw [sizeLine_eq];decide
    have dl:(dkO fd).length = fd.length:=by unfold dkO;rw [List.length_map]
    have dget:∀ {i:Nat} {kk:Key} {v:V},(dkO fd)[i]? = some (kk,v) -> ∃ q,fd[i]? = some q /\ kk = Sum.inl (q.1:Int) /\ v = xV (oI q.2):=fun {i kk v} h=>by
      unfold dkO at h
      rw [List.getElem?_map] at h
      obtain ⟨q,eq,e⟩:=Option.map_eq_some_iff.mp h
      cases e
      exact ⟨q,eq,rfl,rfl⟩
    refine ⟨_,(ze (zv (i:=2) nd rfl (Or.inr rfl) (jF [] [] rfl rfl (by kernel_rfl) (Yy (Ww PySem.F.slot_dict_items PySem.F.type_dict_items Vn (pv 1))) (fun _ _ _ _=>(qI (zw Wy (pv 1) Jc (zB _)))) (fun _ _ _ _=>(pv 0))))
      (zm (zE (zr jq rfl B.sorted ji (za (jd ["wanting", "job"] [2,0] rfl rfl (by kernel_rfl) (Wr (pv 1)) (fun _ _ _ _=>(qI (xi (zr (yk (K:=K) rfl rfl) rfl B.any yn (za (jd ["wanting"] [1] rfl rfl (by kernel_rfl) (Qj (K:=K) rfl (zA ZJ (zJ (za (pv 0) zd)) (zj Dahead_of (hr.mono (by decide)) rfl (za (pv 2) (za (pv 0) zd))))) (fun _ _ _ _=>qR) (fun _ _ _ _=>(qN (jt (K:=K) rfl) (pv 0) (pv 1) (by with_unfolding_all rfl)))) zd))))) (fun _ _ _ _=>(pv 0))) zd))))),?_⟩
    refine ⟨_,rfl,d,rfl,.inl ⟨_,.inr ⟨o,hd⟩⟩,d,o,_,rfl,rfl,hd,fun pv hpv=>⟨pv,d,o,_,rfl,zb,by rw [zi (zf hd hpv)];exact hd,Y0 (d:=d) (o:=o) (kvs:=dkO fd) (fun i zs H1=>zs = zo (zX (fd.take i)) /\ Same H H1) ⟨rfl,zc hpv⟩ (fun i zs H1 ⟨_,s1⟩=>s1 _ _ hd) ?_ ?_⟩⟩
    · rintro i kk v zs H1 T hk ⟨rfl,s1⟩ hT
      obtain ⟨q,eq,rfl,rfl⟩:=dget hk
      have il:=(List.getElem?_eq_some_iff.mp eq).1
      have s2:=s1.trans (zc (o:=.tup [kV (Sum.inl (q.1:Int)),xV (oI q.2)]) hT)
      have wl:=vO (fd.take i)
      rw [List.length_take] at wl
      refine ⟨T,_,rfl,SqT.of zb,rfl,_,_,rfl,_,_,rfl,rfl,rfl,_,rfl,rfl,_,rfl,?_⟩
      rw [QV eq]
      cases e:q.2 with
      | none=>
        rw [e] at s2
        refine ifT (by rw [decide_eq_true];rfl) ⟨_,rfl,by rw [zu];omega,?_,s2⟩
        rw [if_pos rfl,qg]
        rfl
      | some j=>
        rw [e] at s2
        refine ifF (by rw [decide_eq_false];intro z;cases z) ⟨?_,s2⟩
        rw [if_neg (by simp),List.append_nil]
    rintro zs H1 ⟨e1,s1⟩
    rw [dl,List.take_length] at e1
    subst e1
    have wl:=vO fd
    refine ⟨by rw [zu];omega,fun wt hwt=>?_⟩
    have W2:upd H1 wt (.lst (zo (zX fd))) wt = some (.lst (zo (zX fd))):=zb
    have s2:=s1.trans (zc (H:=H1) (o:=.lst (zo (zX fd))) hwt)
    generalize upd H1 wt (.lst (zo (zX fd))) = H2 at *
    have hd2:=s2 _ _ hd
    have fk:(fd.map (·.1)).length = fd.length:=List.length_map ..
    refine ⟨_,rfl,d,o,_,rfl,hd2,QA (d:=d) (o:=o) (kvs:=dkO fd) (fun i zs H3=>zs = zo (((fd.map (·.1)).take i).filter (yC (asI J) (zX fd))) /\ Same H2 H3) ⟨rfl,Same.refl _⟩ (fun i zs H3 ⟨_,s3⟩=>s3 _ _ hd2) ?_ ?_⟩
    · rintro i kk v zs H3 hk ⟨rfl,s3⟩
      obtain ⟨q,eq,rfl,rfl⟩:=dget hk
      have il:=(List.getElem?_eq_some_iff.mp eq).1
      have eq':(fd.map (·.1))[i]? = some q.1:=by rw [List.getElem?_map,eq];rfl
      have qp:=fp q (List.mem_of_getElem? eq)
      refine ⟨rfl,_,rfl,le1,fun p1 hp1=>?_⟩
      have s4:=s3.trans (zc (H:=H3) (o:=.lst [kV (Sum.inl (q.1:Int))]) hp1)
      have P4:upd H3 p1 (.lst [kV (Sum.inl (q.1:Int))]) p1 = some (.lst [.int (q.1:Int)]):=zb
      generalize upd H3 p1 (.lst [kV (Sum.inl (q.1:Int))]) = H4 at s4 P4
      refine ⟨_,rfl,_,rfl,(q.1:Int),jp,J,rfl,rj.same (s2.trans s4),pl,⟨by omega,by omega⟩,ain,al,fun l ms H5 s5 l0 hl ml pw mem=>?_⟩
      refine ⟨p1,l,_,_,rfl,rfl,s5 _ _ P4,hl,by rw [List.length_map];show 1 + _ <= _;omega,fun c hc=>⟨c,rfl,⟨_,SqL.of zb⟩,?_⟩⟩
      have e0:[V.int (q.1:Int)] ++ ms.map V.int = ((q.1:Int) :: ms).map V.int:=rfl
      rw [e0]
      have s6:=(s4.trans s5).trans (zc (H:=H5) (o:=.lst (((q.1:Int) :: ms).map V.int)) hc)
      have C6:upd H5 c (.lst (((q.1:Int) :: ms).map V.int)) c = some (.lst (((q.1:Int) :: ms).map V.int)):=zb
      generalize upd H5 c (.lst (((q.1:Int) :: ms).map V.int)) = H6 at *
      have W6:=s6 _ _ W2
      have lm:(((q.1:Int) :: ms).map V.int).length = ms.length + 1:=by rw [List.length_map];rfl
      refine qH (K:=K) (a:=c) (xs:=((q.1:Int) :: ms).map V.int) (fun j zs H7=>zs = ((((q.1:Int) :: ms).take j).map fun j=>decide (j ∈ nI (zX fd))).map V.bl /\ Same H6 H7) ⟨rfl,Same.refl _⟩ (fun j zs H7 ⟨_,s7⟩=>SqL.of (s7 _ _ C6)) ?_ ?_
      · rintro j x zs H7 hx ⟨rfl,s7⟩
        rw [List.getElem?_map] at hx
        obtain ⟨m,em,rfl⟩:=Option.map_eq_some_iff.mp hx
        have jl:=(List.getElem?_eq_some_iff.mp em).1
        have jl':j < ms.length + 1:=jl
        refine ⟨rfl,_,rfl,_,rfl,wt,_,rfl,.inl (SqL.of (s7 _ _ W6)),rfl,qJ _,?_,?_,s7⟩
        · rw [List.length_map,List.length_map,List.length_take];omega
        · rw [zQ em,List.map_append,List.map_append,if_neg Bool.false_ne_true,zaE];rfl
      rintro zs H7 ⟨rfl,s7⟩
      rw [lm,show ((q.1:Int) :: ms).take (ms.length + 1) = (q.1:Int) :: ms from List.take_of_length_le (by show ms.length + 1 <= _;omega)]
      refine ⟨by rw [List.length_map,List.length_map];show ms.length + 1 <= _;omega,fun D hD=>⟨D,_,rfl,SqL.of zb,?_⟩⟩
      rw [zag mem]
      have s8:=(s6.trans s7).trans (zc (H:=H7) (o:=.lst ((((q.1:Int) :: ms).map fun j=>decide (j ∈ nI (zX fd))).map V.bl)) hD)
      rw [z7 _ eq']
      refine ⟨_,rfl,qO (fun cc=>⟨_,rfl,?_,?_,s8⟩) (fun cc=>⟨?_,s8⟩)⟩
      · rw [zu]
        exact Nat.lt_of_le_of_lt (List.length_filter_le _ _) (by rw [List.length_take];omega)
      · rw [if_pos cc,qg];rfl
      · rw [if_neg cc,List.append_nil]
    rintro zs H3 ⟨e3,s3⟩
    rw [dl,<- fk,List.take_length] at e3
    subst e3
    have ol:=List.length_filter_le (yC (asI J) (zX fd)) (fd.map (·.1))
    refine ⟨by rw [zu];omega,fun D hD=>⟨D,nI ((fd.map (·.1)).filter (yC (asI J) (zX fd))),rfl,by rw [YT];exact SqL.of zb,by rw [vW];omega,fun l ms hl pm pw=>?_⟩⟩
    have s4:=(s2.trans s3).trans (zc (H:=H3) (o:=.lst (zo ((fd.map (·.1)).filter (yC (asI J) (zX fd))))) hD)
    exact k l ms _ (s4.trans (zc hl)) (s4.free hl) zb pm pw
end
theorem QE (j:Int) (is:List Int):inV (.int j) (is.map V.int) = decide (j ∈ is):=by
  rw [Bool.eq_iff_iff,decide_eq_true_iff]
  unfold inV
  rw [List.any_eq_true]
  constructor
  · rintro ⟨y,hy,e⟩
    obtain ⟨k,hk,rfl⟩:=List.mem_map.mp hy
    have:(k == j) = true:=e
    rw [<- beq_iff_eq.mp this]
    exact hk
  · intro h
    exact ⟨.int j,List.mem_map.mpr ⟨j,h,rfl⟩,(show (j == j) = true from beq_self_eq_true _)⟩
theorem vZ:∀ is:List Int,(is.map V.int).all jr = true
  | []=>rfl
  | i :: is=>by
    show (true && (is.map V.int).all jr) = true
    rw [vZ is];rfl
theorem Ql {K:PySem.W.Frag} {H:Hp} {p:Nat × Nat} {a:Addr} (h:SqT K H a [.int p.1,.int p.2]):Rep K H (zZ p) (.ref a):=⟨a,_,rfl,h,_,_,rfl,rfl,_,_,rfl,rfl,rfl⟩
section
variable {P:Program} {w:World} {K:PySem.W.Frag} {mg:Str -> Option Value} {base:Heap}
inductive VX (K:PySem.W.Frag) (vs:List V) (H:Hp) (Q:VK):Prop
  | mk (v:V) (d dr:Addr) (o:Obj) (t:zN) (fd:List (Nat × Option Nat)) (ms:List Int) (ob:Nat -> Bool) (_:vs = [v,.ref d,.ref dr]) (_:Rep K H (qr t) v) (_:H d = some (.frz o (.dK (dkO fd)))) (_:SqL K H dr (ms.map V.int)) (_:(∀ p ∈ t.pk,((p.1:Int) ∈ ms ↔ ob p.1 = true))) (_:(∀ p ∈ t.pk,ob p.1 = false -> lkF fd p.1 = some (some (fdN fd p.1)))) (_:t.ly.Perm (t.pk.map (·.1))) (_:t.pk.length <= 60) (_:∀ a H',Same H H' -> Rep K H' (qr (jI fd ob t)) (.ref a) -> Q (.ref a) H'):VX K vs H Q
def zaU (K:PySem.W.Frag):Sp:=fun vs H Q _=>VX K vs H Q
theorem zb2:zy ["trip", "feeders", "dropped", "picks", "lays", "kept"] ["trip", "feeders", "dropped"] (zt (zp 12)):=⟨rfl,rfl,rfl,by decide +kernel,rfl,by decide +kernel,by decide +kernel⟩
theorem zcp {f:Addr} {fd:FuncData} (F:Fun K "mended_trip" "mended_trip" (zp 12) f fd) (B:Blt mg):qA P w K mg base CX0 1 f fd ["trip", "feeders", "dropped"] (zaU K):=by
  have nd:=zb2.nd
  refine F.ok zb2 (fun vs H Q E h=>?_) (fun cdv A outer s H vs Q E hr h=>?_)
  · obtain ⟨v,d,dr,o,t,fd,ms,ob,rfl,_⟩:=h
    rfl
  · obtain ⟨v,d,dr,o,t,fd,ms,ob,rfl,rt,hd,hdr,hob,hlk,ply,pl,k⟩:=h
    have hbig:1000000 < sizeLine:=by rw [sizeLine_eq];decide
    have hu1:=wf hr
    obtain ⟨a,b,c,xs,ys,rfl,qa,qb,rb,qc,rc⟩:=jK rt
    have lb:=rb.len
    have lc:=rc.len
    rw [List.length_map] at lb lc
    have lly:=ply.length_eq
    rw [List.length_map] at lly
    refine ⟨_,(ze (jm (pv 0) (qx rfl (zq (zn (i:=3) nd rfl (Or.inl rfl)) (zq (zn (i:=4) nd rfl (Or.inl rfl)) zS))))
      (ze (zv (i:=5) nd rfl (Or.inr rfl) (jF ["dropped"] [2] rfl rfl (by kernel_rfl) (jN (pv 3)) (fun _ _ _ _=>(qI (zw (qP (K:=K) rfl) (pv 0) (pv 2) (by with_unfolding_all rfl)))) (fun _ _ _ _=>(pv 0))))
      (zm (zE (zO (za (zM zY rfl B.tuple qz (za (jd ["feeders"] [1] rfl rfl (by kernel_rfl) (zL (pv 5)) (fun _ _ _ _=>qR) (fun _ _ _ _=>(zO (za (pv 0) (za (vw hu1 (pv 1) (pv 0) (fun _ _=>rfl)) zd))))) zd)) (za (zM zY rfl B.tuple qz (za (jd ["kept"] [5] rfl rfl (by kernel_rfl) (jN (pv 4)) (fun _ _ _ _=>(qI (zw (jt (K:=K) rfl) (pv 0) (pv 1) (by with_unfolding_all rfl)))) (fun _ _ _ _=>(pv 0))) zd)) zd))))))),?_⟩
    refine ⟨_,rfl,a,_,rfl,qa,rfl,_,_,rfl,_,_,rfl,rfl,?_⟩
    refine ⟨_,rfl,b,rfl,⟨_,qb⟩,jP (K:=K) (a:=b) (xs:=xs) (fun i zs H1=>zs = zo (((t.pk.take i).filter fun p=>!ob p.1).map (·.1)) /\ Same H H1) ⟨rfl,Same.refl _⟩ (fun i zs H1 ⟨_,s1⟩=>s1.sqT qb) ?_ ?_⟩
    · rintro i x zs H1 hx ⟨rfl,s1⟩
      obtain ⟨dd,ed,rd⟩:=(rb.same s1).get hx
      rw [List.getElem?_map] at ed
      obtain ⟨p,ep,rfl⟩:=Option.map_eq_some_iff.mp ed
      obtain ⟨pa,rfl,qp⟩:=qD rd
      have il:=(List.getElem?_eq_some_iff.mp ep).1
      have hm:=hob p (List.mem_of_getElem? ep)
      refine ⟨pa,_,rfl,qp,rfl,_,_,rfl,_,_,rfl,rfl,rfl,_,rfl,_,rfl,dr,_,rfl,.inl (s1.seq hdr),rfl,vZ _,_,rfl,?_⟩
      rw [if_pos rfl,QE,z7 _ ep]
      cases e:ob p.1 with
      | true=>
        refine ifF (by rw [decide_eq_true (hm.mpr e)];rfl) ⟨?_,s1⟩
        rw [if_neg (by simp),List.append_nil]
      | false=>
        refine ifT (by rw [decide_eq_false (fun z=>by rw [hm.mp z] at e;cases e)];rfl) ⟨_,rfl,?_,?_,s1⟩
        · rw [zu,List.length_map]
          exact Nat.lt_of_le_of_lt (List.length_filter_le _ _) (by rw [List.length_take];omega)
        · rw [if_pos (by simp),List.map_append,<- qg];rfl
    rintro zs H1 ⟨e1,s1⟩
    rw [lb,List.take_length] at e1
    subst e1
    have kl:(((t.pk.filter fun p=>!ob p.1).map (·.1))).length <= t.pk.length:=by rw [List.length_map];exact List.length_filter_le _ _
    refine ⟨by rw [zu];omega,fun kp hkp=>?_⟩
    have K2:upd H1 kp (.lst (zo ((t.pk.filter fun p=>!ob p.1).map (·.1)))) kp = some (.lst (zo ((t.pk.filter fun p=>!ob p.1).map (·.1)))):=zb
    have s2:=s1.trans (zc (H:=H1) (o:=.lst (zo ((t.pk.filter fun p=>!ob p.1).map (·.1)))) hkp)
    generalize upd H1 kp (.lst (zo ((t.pk.filter fun p=>!ob p.1).map (·.1)))) = H2 at *
    generalize ek:t.pk.filter (fun p=>!ob p.1) = kept at *
    have hd2:=s2 _ _ hd
    have lk:(zo (kept.map (·.1))).length = kept.length:=by rw [zu,List.length_map]
    rw [List.length_map] at kl
    refine ⟨_,rfl,kp,rfl,⟨_,SqL.of K2⟩,qH (K:=K) (a:=kp) (xs:=zo (kept.map (·.1))) (fun i zs H3=>Reps K H3 (((kept.take i).map fun p=>(p.1,fdN fd p.1)).map zZ) zs /\ Same H2 H3) ⟨rfl,Same.refl _⟩ (fun i zs H3 ⟨_,s3⟩=>SqL.of (s3 _ _ K2)) ?_ ?_⟩
    · rintro i x zs H3 hx ⟨rz,s3⟩
      obtain ⟨n,en,rfl⟩:=vy hx
      rw [List.getElem?_map] at en
      obtain ⟨p,ep,rfl⟩:=Option.map_eq_some_iff.mp en
      have il:=(List.getElem?_eq_some_iff.mp ep).1
      have hp:=List.mem_of_getElem? ep
      rw [<- ek] at hp
      obtain ⟨hp1,hp2⟩:=List.mem_filter.mp hp
      have hl:=hlk p hp1 (by simpa using hp2)
      have zl:=rz.len
      rw [List.length_map,List.length_map,List.length_take] at zl
      refine ⟨rfl,_,rfl,_,rfl,_,rfl,d,.int (fdN fd p.1:Int),rfl,?_,?_⟩
      · exact .inl ⟨_,Sum.inl (p.1:Int),.inr ⟨o,s3 _ _ hd2⟩,rfl,by rw [jV,hl];rfl⟩
      · refine ⟨le2,fun q hq=>⟨by omega,?_,s3.trans (zc hq)⟩⟩
        rw [zQ ep,List.map_append,List.map_append]
        exact (rz.same (zc hq)).snoc (d:=zZ (p.1,fdN fd p.1)) (Ql (SqT.of zb))
    rintro zs H3 ⟨rz,s3⟩
    rw [lk,List.take_length] at rz
    have zl:=rz.len
    rw [List.length_map,List.length_map] at zl
    refine ⟨by omega,fun l3 hl3=>⟨l3,_,rfl,.inl ⟨SqL.of zb,fun u hu=>?_⟩⟩⟩
    have s4:=(zc (H:=H3) (o:=.lst zs) hl3).trans (zc (o:=.tup zs) hu)
    have qu:upd (upd H3 l3 (.lst zs)) u (.tup zs) u = some (.tup zs):=zb
    have r4:=rz.same s4
    have s34:=s3.trans s4
    generalize upd (upd H3 l3 (.lst zs)) u (.tup zs) = H4 at *
    have qc4:=(s2.trans s34).sqT qc
    have rc4:=rc.same (s2.trans s34)
    have K4:=s34 _ _ K2
    refine ⟨_,rfl,c,rfl,⟨_,qc4⟩,jP (K:=K) (a:=c) (xs:=ys) (fun i zs H5=>zs = zo ((t.ly.take i).filter fun p=>!ob p) /\ Same H4 H5) ⟨rfl,Same.refl _⟩ (fun i zs H5 ⟨_,s5⟩=>s5.sqT qc4) ?_ ?_⟩
    · rintro i x ws H5 hx ⟨rfl,s5⟩
      obtain ⟨dd,ed,rd⟩:=(rc4.same s5).get hx
      rw [List.getElem?_map] at ed
      obtain ⟨n,en,rfl⟩:=Option.map_eq_some_iff.mp ed
      cases (show x = .int (n:Int) from rd)
      have il:=(List.getElem?_eq_some_iff.mp en).1
      refine ⟨rfl,_,rfl,_,rfl,kp,_,rfl,.inl (SqL.of (s5 _ _ K4)),rfl,qJ _,_,rfl,?_⟩
      rw [if_neg Bool.false_ne_true,jU,z7 _ en]
      obtain ⟨p,hp,ep⟩:=List.mem_map.mp (ply.mem_iff.mp (List.mem_of_getElem? en))
      have hin:n ∈ kept.map (·.1) ↔ ob n = false:=by
        constructor
        · intro hm
          obtain ⟨q,hq,eq⟩:=List.mem_map.mp hm
          rw [<- ek] at hq
          have:=(List.mem_filter.mp hq).2
          rw [<- eq]
          simpa using this
        · intro e
          refine List.mem_map.mpr ⟨p,?_,ep⟩
          rw [<- ek]
          exact List.mem_filter.mpr ⟨hp,by rw [ep,e];rfl⟩
      cases e:ob n with
      | true=>
        refine ifF (decide_eq_false (fun z=>by rw [hin.mp z] at e;cases e)) ⟨?_,s5⟩
        rw [if_neg (by simp),List.append_nil]
      | false=>
        refine ifT (decide_eq_true (hin.mpr e)) ⟨_,rfl,?_,?_,s5⟩
        · rw [zu]
          exact Nat.lt_of_le_of_lt (List.length_filter_le _ _) (by rw [List.length_take];omega)
        · rw [if_pos (by simp),qg]
    rintro ws H5 ⟨e5,s5⟩
    rw [lc,List.take_length] at e5
    subst e5
    have wl:=List.length_filter_le (fun p=>!ob p) t.ly
    refine ⟨by rw [zu];omega,fun l5 hl5=>⟨l5,_,rfl,.inl ⟨SqL.of zb,fun u2 hu2=>⟨le2,fun q hq=>?_⟩⟩⟩⟩
    have s6:=(zc (H:=H5) (o:=.lst (zo (t.ly.filter fun p=>!ob p))) hl5).trans (zc (o:=.tup (zo (t.ly.filter fun p=>!ob p))) hu2)
    have s7:=s6.trans (zc (o:=.tup [.ref u,.ref u2]) hq)
    have s8:=s5.trans s7
    refine k q _ ((s2.trans s34).trans s8) ⟨q,_,rfl,SqT.of zb,_,_,rfl,⟨u,zs,rfl,SqT.of (s8 _ _ qu),?_⟩,_,_,rfl,⟨u2,_,rfl,SqT.of ((zc hq) _ _ zb),xS _⟩,rfl⟩
    show Reps K _ (((t.pk.filter fun p=>!ob p.1).map fun p=>(p.1,fdN fd p.1)).map zZ) zs
    rw [ek]
    exact r4.same s8
end
structure MOk (J:Job) (ord os:List Nat) (ts:List zN):Prop where
  jo:JobOk J ord
  po:Yk J os ts
  pm:os.Perm (List.range J.ps.length)
theorem wT {J:Job}:∀ {ts:List zN},(∀ t ∈ ts,ZV J t) -> (jZ ts).Perm ((zk ts).map (·.1))
  | [],_=>List.Perm.nil
  | t :: r,h=>by
    show (t.ly ++ jZ r).Perm ((t.pk ++ zk r).map (·.1))
    rw [List.map_append]
    exact (h t List.mem_cons_self).ly.append (wT fun u hu=>h u (List.mem_cons_of_mem _ hu))
theorem MOk.nd {J:Job} {ord os:List Nat} {ts:List zN} (m:MOk J ord os ts):((zk ts).map (·.1)).Nodup:=by
  have n1:os.Nodup:=m.pm.nodup_iff.mpr List.nodup_range
  exact (wT m.po.tr).nodup_iff.mp (m.po.sub.nodup n1)
theorem MOk.ok {J:Job} {ord os:List Nat} {ts:List zN} (m:MOk J ord os ts):∀ p ∈ zk ts,p.1 < J.ps.length /\ p.2 < J.fs.length:=fun p hp=>by
  unfold zk at hp
  obtain ⟨t,ht,hp⟩:=List.mem_flatMap.mp hp
  obtain ⟨pa,fe,e1,e2,_⟩:=(m.po.tr t ht).ok p hp
  exact ⟨(List.getElem?_eq_some_iff.mp e1).1,(List.getElem?_eq_some_iff.mp e2).1⟩
theorem MOk.brk {J:Job} {ord os:List Nat} {ts:List zN} (m:MOk J ord os ts):Brk J ts:=by
  refine ⟨?_,m.nd,m.ok,Nat.le_trans m.jo.fl (by decide)⟩
  have h:=y3 (m:=List.range J.ps.length) m.nd fun x hx=>by
    obtain ⟨p,hp,rfl⟩:=List.mem_map.mp hx
    exact List.mem_range.mpr (m.ok p hp).1
  rw [List.length_map,List.length_range] at h
  have:=m.jo.pl
  omega
theorem JobOk.ain {J:Job} {ord:List Nat} (jo:JobOk J ord):∀ q ∈ asI J,InN J.ps.length q.1 /\ InN J.ps.length q.2:=fun q hq=>by
  unfold asI at hq
  obtain ⟨p,hp,rfl⟩:=List.mem_map.mp hq
  have h1:=List.mem_range.mp (jo.op.mem_iff.mp (jo.bo.mem1 hp))
  have h2:=List.mem_range.mp (jo.op.mem_iff.mp (jo.bo.mem2 hp))
  exact ⟨⟨by show (0:Int) <= (p.1:Int);omega,by show (p.1:Int) < _;omega⟩,⟨by show (0:Int) <= (p.2:Int);omega,by show (p.2:Int) < _;omega⟩⟩
noncomputable def zH (J:Job) (st:Nat -> Int) (ts:List zN):Nat -> Bool:=yC (asI J) (zX (zK J st ts))
theorem Brk.ky {J:Job} {ts:List zN} (b:Brk J ts) (st:Nat -> Int):Ky2 st (zk ts) (zk ts) (P2 J st (zk ts) (zk ts)):=by
  have:=wD (J:=J) (st:=st) b.nd (i:=(zk ts).length) (Nat.le_refl _)
  rwa [List.take_length] at this
theorem Brk.keys {J:Job} {ts:List zN} (b:Brk J ts) (st:Nat -> Int):((zK J st ts).map (·.1)).Perm ((zk ts).map (·.1)):=by
  have k:=b.ky st
  refine (List.perm_ext_iff_of_nodup k.nd b.nd).mpr fun x=>⟨k.sub x,fun hx=>?_⟩
  obtain ⟨p,hp,rfl⟩:=List.mem_map.mp hx
  exact k.al p hp
theorem Brk.val {J:Job} {ts:List zN} (b:Brk J ts) (st:Nat -> Int):∀ p ∈ zk ts,zH J st ts p.1 = false -> lkF (zK J st ts) p.1 = some (some (fdN (zK J st ts) p.1)):=fun p hp ho=>by
  have hk:p.1 ∈ (zK J st ts).map (·.1):=(b.ky st).al p hp
  cases e:lkF (zK J st ts) p.1 with
  | none=>exact absurd hk (xG.mp e)
  | some o=>
    cases o with
    | none=>
      have h1:=Vq.mpr (J8 e)
      have h2:zH J st ts p.1 = true:=wU.mpr ⟨p.1,h1,0,rfl⟩
      rw [h2] at ho
      cases ho
    | some k=>unfold fdN;rw [e];rfl
theorem jc {α β:Type} {f:β -> Bool} {g:α -> β} {l:List α} {i:Nat} {x:α} (h:l[i]? = some x):((l.take (i + 1)).map g).filter f = ((l.take i).map g).filter f ++ (if f (g x) = true then [g x] else []):=by
  rw [zQ h,List.map_append,List.filter_append]
  cases hf:f (g x)
  · show _ ++ [g x].filter f = _
    rw [List.filter_cons_of_neg (by rw [hf];exact Bool.false_ne_true)];rfl
  · show _ ++ [g x].filter f = _
    rw [List.filter_cons_of_pos hf];rfl
section
variable {P:Program} {w:World} {K:PySem.W.Frag} {mg:Str -> Option Value} {base:Heap}
structure MTold (K:PySem.W.Frag) (H H':Hp) (q a1 a2 a3:Addr) (xs:List V) (fd:List (Nat × Option Nat)) (ob:Nat -> Bool) (ts:List zN):Prop where
  s:Same H H'
  q:SqT K H' q [.ref a1,.ref a2,.ref a3]
  f1:H a1 = none
  f2:H a2 = none
  f3:H a3 = none
  n12:a1 ≠ a2
  n13:a1 ≠ a3
  n23:a2 ≠ a3
  h1:H' a1 = some (.lst xs)
  r1:Reps K H' ((jX fd ob ts).map qr) xs
  h2:H' a2 = some (.lst ((srt (nI (jH fd ob (zk ts)))).map V.int))
  h3:H' a3 = some (.lst ((srt (nI (xm ob (zk ts)))).map V.int))
inductive VY (K:PySem.W.Frag) (vs:List V) (H:Hp) (Q:VK):Prop
  | mk (jp l c:Addr) (J:Job) (ord os:List Nat) (xs:List V) (ts:List zN) (st:Nat -> Int) (_:vs = [.ref jp,.ref l,.ref c]) (_:Rep K H (jQ J) (.ref jp)) (_:SqL K H l xs) (_:Reps K H (ts.map qr) xs) (_:MOk J ord os ts) (_:SqL K H c (qB J.fs.length st)) (_:∀ (q a1 a2 a3:Addr) (ws:List V) H',MTold K H H' q a1 a2 a3 ws (zK J st ts) (zH J st ts) ts -> Q (.ref q) H'):VY K vs H Q
def zaV (K:PySem.W.Frag):Sp:=fun vs H Q _=>VY K vs H Q
theorem zb3:zy ["job", "plan", "stock", "feeders", "dropped", "trips", "moved"] ["job", "plan", "stock"] (zt (zp 13)):=⟨rfl,rfl,rfl,by decide +kernel,rfl,by decide +kernel,by decide +kernel⟩
def X7 (K:_) (ts:List zN) (J:Job) (st:Nat -> Int) (H7:_):=fun (i:Nat) (ws:List V) (H8:Hp)=>(An2 (Reps K H8 ((((ts.take i).map (jI (zK J st ts) (zH J st ts))).filter fun t=>!t.pk.isEmpty).map qr) ws) (Same H7 H8):Prop)
theorem zcq {f:Addr} {fd:FuncData} (F:Fun K "mended_plan" "mended_plan" (zp 13) f fd) (B:Blt mg) (Dpicks_in:Dfn P w K mg base "picks_in" 1 ["plan"] (ZA K)) (Dnew_feeders:Dfn P w K mg base "new_feeders" 3 ["job", "plan", "stock"] (zaT K)) (Ddropped_parts:Dfn P w K mg base "dropped_parts" 4 ["job", "feeders"] (zaY K)) (Dmended_trip:Dfn P w K mg base "mended_trip" 1 ["trip", "feeders", "dropped"] (zaU K)):qA P w K mg base CX0 5 f fd ["job", "plan", "stock"] (zaV K):=by
  have nd:=zb3.nd
  refine F.ok zb3 (fun vs H Q E h=>?_) (fun cdv A outer s H vs Q E hr h=>?_)
  · obtain ⟨jp,l,c,J,ord,os,xs,ts,st,rfl,_⟩:=h
    rfl
  · obtain ⟨jp,l,c,J,ord,os,xs,ts,st,rfl,rj,hl,rl,mo,hc,k⟩:=h
    have hbig:1000000 < sizeLine:=by rw [sizeLine_eq];decide
    have hu1:=wf hr
    have bk:=mo.brk
    have ky:=bk.ky st
    have al:=bk.al
    have tl:=mo.po.len
    have ll:=rl.len
    rw [List.length_map] at ll
    have kys:=bk.keys st
    have vl:=bk.val st
    have fl:(zK J st ts).length <= 60:=Nat.le_trans ky.len al
    have fpl:∀ q ∈ zK J st ts,q.1 < J.ps.length:=fun q hq=>by
      obtain ⟨p,hp,e⟩:=List.mem_map.mp (ky.sub q.1 (List.mem_map.mpr ⟨q,hq,rfl⟩))
      rw [<- e]
      exact (bk.ok p hp).1
    refine ⟨_,(ze (zv (i:=3) nd rfl (Or.inr rfl) (zj Dnew_feeders (hr.mono (by decide)) rfl (za (pv 0) (za (pv 1) (za (pv 2) zd)))))
      (ze (zv (i:=4) nd rfl (Or.inr rfl) (zj Ddropped_parts (hr.mono (by decide)) rfl (za (pv 0) (za (pv 3) zd))))
      (ze (ZH ["feeders", "dropped"] [3,4] rfl rfl (by kernel_rfl) (zL (pv 1)) (fun _ _ _ _=>qR) (fun _ _ _ _=>(zj Dmended_trip (hr.mono (by decide)) rfl (za (pv 0) (za (pv 1) (za (pv 2) zd))))) (zn (i:=5) nd rfl (Or.inl rfl)))
      (ze (ZG ["dropped", "feeders"] [4,3] rfl rfl (by kernel_rfl) (zL (zj Dpicks_in (hr.mono (by decide)) rfl (za (pv 1) zd))) (fun _ _ _ _=>(qI (PW.pt (vS (zw (qP (K:=K) rfl) (pv 0) (pv 2) (by with_unfolding_all rfl)) (xP (zw Qm (vw hu1 (pv 3) (pv 0) (fun _ _=>rfl)) (pv 1) (zB _))))))) (fun _ _ _ _=>(pv 0)) (zn (i:=6) nd rfl (Or.inl rfl)))
      (zm (zE (zO (za (jd [] [] rfl rfl (by kernel_rfl) (zL (pv 5)) (fun _ _ _ _=>(qI (Yt (K:=K) rfl (zx (qZ (K:=K) rfl) (pv 0) zg (fun _ _=>rfl))))) (fun _ _ _ _=>(pv 0))) (za (zr jq rfl B.sorted ji (za (pv 6) zd)) (za (pv 4) zd)))))))))),?_⟩
    refine ⟨_,rfl,_,rfl,_,rfl,jp,l,c,J,xs,ts,st,rfl,rj,hl,rl,bk,hc,fun d o H1 s1 d0 hd=>?_⟩
    refine ⟨_,rfl,_,rfl,jp,d,o,J,zK J st ts,rfl,rj.same s1,mo.jo.pl,mo.jo.ain,mo.jo.al,hd,fl,fpl,fun dl ms H2 s2 dl0 hdl pm pw=>?_⟩
    have em:ms = srt (nI (xm (zH J st ts) (zk ts))):=by
      refine Zv (pm.trans ?_) pw
      unfold nI xm
      exact (kys.filter _).map _
    have hmem:∀ p ∈ zk ts,((p.1:Int) ∈ ms ↔ zH J st ts p.1 = true):=fun p hp=>by
      rw [pm.mem_iff,wY,List.mem_filter]
      exact ⟨fun h=>h.2,fun h=>⟨ky.al p hp,h⟩⟩
    have s02:=s1.trans s2
    have hd2:=s2 _ _ hd
    have hl2:=s02.seq hl
    have rl2:=rl.same s02
    refine ⟨_,rfl,l,rfl,⟨_,hl2⟩,qH (K:=K) (a:=l) (xs:=xs) (fun i zs H3=>Reps K H3 (((ts.take i).map (jI (zK J st ts) (zH J st ts))).map qr) zs /\ Same H2 H3) ⟨rfl,Same.refl _⟩ (fun i zs H3 ⟨_,s3⟩=>s3.seq hl2) ?_ ?_⟩
    · rintro i x zs H3 hx ⟨rz,s3⟩
      obtain ⟨dd,ed,rd⟩:=(rl2.same s3).get hx
      rw [List.getElem?_map] at ed
      obtain ⟨t,et,rfl⟩:=Option.map_eq_some_iff.mp ed
      have il:=(List.getElem?_eq_some_iff.mp et).1
      have htm:=List.mem_of_getElem? et
      have tin:∀ p ∈ t.pk,p ∈ zk ts:=fun p hp=>List.mem_flatMap.mpr ⟨t,htm,hp⟩
      have tok:=mo.po.tr t htm
      have t4:=tok.p2
      have hd4:=mo.jo.hd1
      have zl:=rz.len
      rw [List.length_map,List.length_map,List.length_take] at zl
      refine ⟨rfl,_,rfl,_,rfl,_,rfl,x,d,dl,o,t,zK J st ts,ms,zH J st ts,rfl,rd,s3 _ _ hd2,SqL.of (s3 _ _ hdl),fun p hp=>hmem p (tin p hp),fun p hp=>vl p (tin p hp),tok.ly,by omega,fun a H4 s4 r4=>⟨by omega,?_,s3.trans s4⟩⟩
      rw [zQ et,List.map_append,List.map_append]
      exact (rz.same s4).snoc r4
    rintro zs H3 ⟨rz,s3⟩
    rw [ll,List.take_length] at rz
    have zl:=rz.len
    rw [List.length_map,List.length_map] at zl
    refine ⟨by omega,fun tp htp=>?_⟩
    have T4:upd H3 tp (.lst zs) tp = some (.lst zs):=zb
    have s24:=s3.trans (zc (H:=H3) (o:=.lst zs) htp)
    have r4:=rz.same (zc (H:=H3) (o:=.lst zs) htp)
    generalize upd H3 tp (.lst zs) = H4 at *
    have s04:=s02.trans s24
    refine ⟨_,rfl,l,xs,ts,rfl,s04.seq hl,rl.same s04,al,fun pk ys H5 s5 pk0 hpk rp=>?_⟩
    have lp:=rp.len
    rw [List.length_map] at lp
    have s25:=s24.trans s5
    have hd5:=s25 _ _ hd2
    have dl5:=s25 _ _ hdl
    have ml:∀ i,(jH (zK J st ts) (zH J st ts) ((zk ts).take i)).length <= ((zk ts).take i).length:=fun i=>by
      unfold jH
      rw [List.length_map]
      exact List.length_filter_le _ _
    refine ⟨pk,rfl,⟨_,SqL.of hpk⟩,qH (K:=K) (a:=pk) (xs:=ys) (fun i zs H6=>zs = zo (jH (zK J st ts) (zH J st ts) ((zk ts).take i)) /\ Same H5 H6) ⟨rfl,Same.refl _⟩ (fun i zs H6 ⟨_,s6⟩=>SqL.of (s6 _ _ hpk)) ?_ ?_⟩
    · rintro i x ws H6 hx ⟨rfl,s6⟩
      obtain ⟨dd,ed,rd⟩:=(rp.same s6).get hx
      rw [List.getElem?_map] at ed
      obtain ⟨p,ep,rfl⟩:=Option.map_eq_some_iff.mp ed
      obtain ⟨pa,rfl,qp⟩:=qD rd
      have il:=(List.getElem?_eq_some_iff.mp ep).1
      have hpm:=List.mem_of_getElem? ep
      have hm:=hmem p hpm
      have mli:=ml i
      rw [List.length_take] at mli
      have ft:jH (zK J st ts) (zH J st ts) ((zk ts).take (i + 1)) = jH (zK J st ts) (zH J st ts) ((zk ts).take i) ++ (if (!zH J st ts p.1 && decide (fdN (zK J st ts) p.1 ≠ p.2)) = true then [p.1] else []):=by
        unfold jH
        rw [z7 _ ep,List.map_append]
        split <;> rfl
      refine ⟨pa,_,rfl,qp,rfl,_,_,rfl,_,_,rfl,rfl,rfl,_,rfl,_,rfl,dl,_,rfl,.inl (SqL.of (s6 _ _ dl5)),rfl,vZ _,_,rfl,?_⟩
      rw [if_pos rfl,QE]
      cases e:zH J st ts p.1 with
      | true=>
        refine ifF (by rw [decide_eq_true (hm.mpr e)];rfl) (ifF rfl ⟨?_,s6⟩)
        rw [ft,e,if_neg (by simp),List.append_nil]
      | false=>
        refine ifT (by rw [decide_eq_false (fun z=>by rw [hm.mp z] at e;cases e)];rfl) ?_
        refine ⟨_,rfl,_,rfl,d,.int (fdN (zK J st ts) p.1:Int),rfl,.inl ⟨_,Sum.inl (p.1:Int),.inr ⟨o,s6 _ _ hd5⟩,rfl,by rw [jV,vl p hpm e];rfl⟩,_,rfl,rfl,_,rfl,?_⟩
        by_cases e2:fdN (zK J st ts) p.1 = p.2
        · refine ifF (by rw [e2,decide_eq_true rfl];rfl) ⟨?_,s6⟩
          rw [ft,e,if_neg (by simp [e2]),List.append_nil]
        · refine ifT (by rw [decide_eq_false (show ¬ V.int (fdN (zK J st ts) p.1:Int) = V.int (p.2:Int) from fun z=>e2 (Int.ofNat.inj (V.int.inj z)))];rfl) ⟨_,rfl,?_,?_,s6⟩
          · rw [zu];omega
          · rw [ft,e,if_pos (by simp [e2]),qg]
    rintro ws H6 ⟨e6,s6⟩
    rw [lp,List.take_length] at e6
    subst e6
    have mla:=ml (zk ts).length
    rw [List.take_length] at mla
    refine ⟨by rw [zu];omega,fun mv hmv=>?_⟩
    have M7:upd H6 mv (.lst (zo (jH (zK J st ts) (zH J st ts) (zk ts)))) mv = some (.lst (zo (jH (zK J st ts) (zH J st ts) (zk ts)))):=zb
    have s57:=s6.trans (zc (H:=H6) (o:=.lst (zo (jH (zK J st ts) (zH J st ts) (zk ts)))) hmv)
    generalize upd H6 mv (.lst (zo (jH (zK J st ts) (zH J st ts) (zk ts)))) = H7 at *
    have s47:=s5.trans s57
    have T7:=s47 _ _ T4
    have r7:=r4.same s47
    have zl2:zs.length = ts.length:=zl
    refine ⟨_,rfl,tp,rfl,⟨_,SqL.of T7⟩,qH (K:=K) (a:=tp) (xs:=zs) (X7 K ts J st H7) ⟨rfl,Same.refl _⟩ (fun i ws H8 ⟨_,s8⟩=>SqL.of (s8 _ _ T7)) ?_ ?_⟩
    · rintro i x ws H8 hx ⟨rw8,s8⟩
      obtain ⟨dd,ed,rd⟩:=(r7.same s8).get hx
      rw [List.getElem?_map,List.getElem?_map] at ed
      obtain ⟨t',et',rfl⟩:=Option.map_eq_some_iff.mp ed
      obtain ⟨t,et,rfl⟩:=Option.map_eq_some_iff.mp et'
      obtain ⟨a,b,c',us,vs,rfl,qa,qb,rb,qc,rc⟩:=jK rd
      have lb:=rb.len
      rw [List.length_map] at lb
      have il:=(List.getElem?_eq_some_iff.mp et).1
      have wl:=rw8.len
      have fl2:=List.length_filter_le (fun t:zN=>!t.pk.isEmpty) ((ts.take i).map (jI (zK J st ts) (zH J st ts)))
      rw [List.length_map,List.length_take] at fl2
      rw [List.length_map] at wl
      have ee:(!us.isEmpty) = (!(jI (zK J st ts) (zH J st ts) t).pk.isEmpty):=by
        cases us with
        | nil=>
          rw [show (jI (zK J st ts) (zH J st ts) t).pk = [] from List.length_eq_zero_iff.mp lb.symm]
          rfl
        | cons u us=>
          cases h0:(jI (zK J st ts) (zH J st ts) t).pk with
          | nil=>rw [h0] at lb;cases lb
          | cons=>rfl
      refine ⟨rfl,_,rfl,a,_,_,_,rfl,rfl,qa,qm (j:=0) rfl,b,us,rfl,qb,?_⟩
      rw [ee]
      refine qO (fun cc=>⟨_,rfl,by omega,?_,s8⟩) (fun cc=>⟨?_,s8⟩)
      · rw [jc et,if_pos cc,List.map_append]
        exact rw8.snoc rd
      · rw [jc et,if_neg cc,List.append_nil]
        exact rw8
    rintro ws H8 ⟨rw8,s8⟩
    rw [zl2,List.take_length] at rw8
    have wl:=rw8.len
    rw [List.length_map] at wl
    have fl3:=List.length_filter_le (fun t:zN=>!t.pk.isEmpty) (ts.map (jI (zK J st ts) (zH J st ts)))
    rw [List.length_map] at fl3
    refine ⟨by omega,fun a1 ha1=>?_⟩
    have A9:upd H8 a1 (.lst ws) a1 = some (.lst ws):=zb
    have s79:=s8.trans (zc (H:=H8) (o:=.lst ws) ha1)
    have r9:=rw8.same (zc (H:=H8) (o:=.lst ws) ha1)
    have s29:=(s25.trans s57).trans s79
    have a10:H2 a1 = none:=((s25.trans s57).trans s8).free ha1
    generalize upd H8 a1 (.lst ws) = H9 at *
    refine ⟨_,rfl,mv,nI (jH (zK J st ts) (zH J st ts) (zk ts)),rfl,by rw [YT];exact SqL.of (s79 _ _ M7),by rw [vW];omega,fun a2 m2 ha2 pm2 pw2=>?_⟩
    have s2A:=s29.trans (zc (H:=H9) (o:=.lst (m2.map V.int)) ha2)
    refine ⟨_,rfl,by show 3 <= _;omega,fun q hq=>?_⟩
    have sq:=zc (H:=upd H9 a2 (.lst (m2.map V.int))) (o:=.tup [.ref a1,.ref a2,.ref dl]) hq
    have n13:dl ≠ a1:=zf hdl a10
    have n23:dl ≠ a2:=zf (s29 _ _ hdl) ha2
    have n12:a1 ≠ a2:=zf A9 ha2
    refine k q a1 a2 dl ws _ ⟨s02.trans (s2A.trans sq),SqT.of zb,s02.free a10,s02.free (s29.free ha2),?_,n12,Ne.symm n13,Ne.symm n23,sq _ _ ((zc ha2) _ _ A9),(r9.same (zc ha2)).same sq,?_,?_⟩
    · exact s1.free dl0
    · rw [sq _ _ zb,Zv pm2 pw2]
    · rw [(s2A.trans sq) _ _ hdl,em]
end
section
variable {P:Program} {w:World} {K:PySem.W.Frag} {mg:Str -> Option Value} {base:Heap}
theorem zb8:zy ["_law_plan_here", "_law_found", "_law_picks", "_law_lays"] ["_law_plan_here"] (zt (zp 33)):=⟨rfl,rfl,rfl,by decide +kernel,rfl,by decide +kernel,by decide +kernel⟩
def X6 (l:_) (r:_) (H:_) (K:_) (ts:List zN):=fun (i:Nat) (σ:St) (H1:Hp)=>(Ex3 fun (v2 v3:Option V) (zs:List V)=>An5 (σ = [some (.ref l),some (.ref r),v2,v3]) (Same H H1) (H1 r = some (.lst zs)) (SameT (upd H r (.lst [])) H1) (Reps K H1 ((zk (ts.take i)).map zZ) zs):Prop)
theorem zcv {f:Addr} {fd:FuncData} (F:Fun K "_law_all_picks" "_law_all_picks" (zp 33) f fd) (B:Blt mg):qA P w K mg base CX0 1 f fd ["_law_plan_here"] (ZA K):=by
  have nd:=zb8.nd
  refine F.ok zb8 (fun vs H Q E h=>?_) (fun cdv A outer s H vs Q E hr h=>?_)
  · obtain ⟨l,xs,ts,rfl,_⟩:=h
    rfl
  · obtain ⟨l,xs,ts,rfl,hl,rl,al,k⟩:=h
    have hbig:1000000 < sizeLine:=by rw [sizeLine_eq];decide
    have ll:=rl.len
    rw [List.length_map] at ll
    refine ⟨_,(ze (zv (i:=1) nd rfl (Or.inl rfl) (zJ zd))
      (ze (zU PassesOwn.never rfl (zL (pv 0)) (qx rfl (zq (zn (i:=2) nd rfl (Or.inl rfl)) (zq (zn (i:=3) nd rfl (Or.inl rfl)) zS)))
      (zm (qk (jn PySem.F.plainAttrs_list PySem.F.slot_list_extend PySem.F.type_list_extend YU (pv 1) (za (pv 2) zd)))))
      (zm (zE (pv 1))))),?_⟩
    refine ⟨le0,fun r hr0=>?_⟩
    have s0:=zc (H:=H) (o:=.lst []) hr0
    refine ⟨_,rfl,l,rfl,⟨_,s0.seq hl⟩,qL (K:=K) (a:=l) (xs:=xs) (X6 l r H K ts) ⟨_,_,[],rfl,s0,zb,SameT.refl _,rfl⟩ (fun i σ H1 _ ⟨_,_,_,_,s1,_,_,_⟩=>s1.seq hl) ?_ ?_⟩
    · rintro i x σ H1 hx ⟨v2,v3,zs,rfl,s1,hr1,T1,rz⟩
      obtain ⟨d,ed,rd⟩:=(rl.same s1).get hx
      rw [List.getElem?_map] at ed
      obtain ⟨t,et,rfl⟩:=Option.map_eq_some_iff.mp ed
      obtain ⟨a,b,c,ps,ys,rfl,qa,qb,rb,qc,rc⟩:=jK rd
      have lb:=rb.len
      rw [List.length_map] at lb
      have zl:=rz.len
      rw [List.length_map] at zl
      have le1:=yp ts (i + 1)
      rw [zQ et,xt,List.length_append] at le1
      refine ⟨a,_,rfl,qa,rfl,_,_,rfl,_,_,rfl,rfl,?_⟩
      refine ⟨_,rfl,.inl ⟨rfl,_,SqL.of hr1⟩,_,rfl,?_⟩
      have TT:=SameT.put (ys:=zs ++ ps) hr1
      refine ⟨r,b,zs,ps,rfl,rfl,hr1,qb,by omega,_,_,zs ++ ps,rfl,s1.put hr0,zb,T1.trans TT,?_⟩
      rw [zQ et,xt,List.map_append]
      exact (rz.keep TT (zG _)).app (rb.keep TT (zG _))
    · rintro σ H1 ⟨v2,v3,zs,rfl,s1,hr1,T1,rz⟩
      rw [ll,List.take_length] at rz
      exact ⟨_,rfl,k r zs H1 s1 hr0 hr1 rz⟩
theorem Vi (n:Nat) (g:Nat -> Int) (v:Int):qB (n + 1) (upF g n v) = qB n g ++ [.int v]:=by
  unfold qB
  rw [List.range_succ,List.map_append]
  congr 1
  · refine List.map_congr_left fun k hk=>?_
    have:=List.mem_range.mp hk
    unfold upF
    rw [if_neg (by omega)]
  · show [V.int (upF g n v n)] = _
    unfold upF
    rw [if_pos rfl]
theorem Jz:∀ {ns:List Int},(∀ z ∈ ns,0 <= z /\ z <= 4) -> 0 <= ns.sum /\ ns.sum <= 4 * (ns.length:Int)
  | [],_=>⟨Int.le_refl _,Int.le_refl _⟩
  | a :: r,h=>by
    have h1:=h a List.mem_cons_self
    have h2:=Jz fun z hz=>h z (List.mem_cons_of_mem _ hz)
    rw [List.sum_cons,List.length_cons]
    omega
inductive VS (K:PySem.W.Frag) (vs:List V) (H:Hp) (Q:VK):Prop
  | mk (b jp l:Addr) (J:Job) (ord os:List Nat) (xs:List V) (ts:List zN) (n:Int) (_:vs = [.ref b,.ref jp,.ref l]) (_:BoxAt H b n) (_:n < 600000) (_:Rep K H (jQ J) (.ref jp)) (_:l ≠ b) (_:H l = some (.lst xs)) (_:Reps K H (ts.map qr) xs) (_:MOk J ord os ts) (_:∀ (c:Addr) (st:Nat -> Int) H',SameB b H H' -> BoxAt H' b (n + 100) -> c ≠ b -> H c = none -> H' c = some (.lst (qB J.fs.length st)) -> (∀ k,0 <= st k /\ st k <= 1000) -> Q (.ref c) H'):VS K vs H Q
def zaS (K:PySem.W.Frag):Sp:=fun vs H Q _=>VS K vs H Q
theorem zbZ:zy ["_law_box_here", "_law_job_here", "_law_plan_here", "_law_found", "_law_at", "_law_feeder", "_law_used", "_law_some"] ["_law_box_here", "_law_job_here", "_law_plan_here"] (zt (zp 32)):=⟨rfl,rfl,rfl,by decide +kernel,rfl,by decide +kernel,by decide +kernel⟩
def X5 (b:_) (jp:_) (l:_) (c:_) (H:_) (n:_):=fun (i:Nat) (σ:St) (H1:Hp)=>(Ex5 fun (v4 v5 v6 v7:Option V) (st:Nat -> Int)=>An5 (σ = [some (.ref b),some (.ref jp),some (.ref l),some (.ref c),v4,v5,v6,v7]) (SameB b H H1) (BoxAt H1 b (n + 2 * (i:Int))) (H1 c = some (.lst (qB i st))) ((∀ k,0 <= st k /\ st k <= 1000)):Prop)
theorem zcm {f:Addr} {fd:FuncData} (F:Fun K "_law_stock_now" "_law_stock_now" (zp 32) f fd) (B:Blt mg) (D_take:Dfn P w K mg base "_law_take" 1 ["_law_box_here", "_law_size"] jE):qA P w K mg base CX0 2 f fd ["_law_box_here", "_law_job_here", "_law_plan_here"] (zaS K):=by
  have nd:=zbZ.nd
  refine F.ok zbZ (fun vs H Q E h=>?_) (fun cdv A outer s H vs Q E hr h=>?_)
  · obtain ⟨b,jp,l,J,ord,os,xs,ts,n,rfl,_⟩:=h
    rfl
  · obtain ⟨b,jp,l,J,ord,os,xs,ts,n,rfl,B0,hn,rj,nlb,hl,rl,mo,k⟩:=h
    have hbig:1000000 < sizeLine:=by rw [sizeLine_eq];decide
    have tl:=mo.po.len
    have ll:=rl.len
    rw [List.length_map] at ll
    obtain ⟨g,fs,ps,as,fv,px,qj,_,qf,rf,_,_,_⟩:=xT rj
    have lf:=rf.len
    rw [List.length_map] at lf
    have fl:=mo.jo.fl
    refine ⟨_,(ze (zv (i:=3) nd rfl (Or.inl rfl) (zJ zd))
      (ze (zU PassesOwn.never rfl (vq rfl B.enumerate (za (zx qW (pv 1) zg (fun _ _=>rfl)) zd)) (qx rfl (zq (zn (i:=4) nd rfl (Or.inr rfl)) (zq (zn (i:=5) nd rfl (Or.inl rfl)) zS)))
      (ze (zv (i:=6) nd rfl (Or.inl rfl) (zr (VD rfl) rfl B.sum boot_sum (za (jF ["_law_at"] [4] rfl rfl (by kernel_rfl) (zL (pv 2)) (fun _ _ _ _=>qR) (fun _ _ _ _=>(zr (j4 (K:=K) rfl) rfl B.len boot_len (za (jd ["_law_at"] [2] rfl rfl (by kernel_rfl) (JX (K:=K) rfl (pv 0)) (fun _ _ _ _=>(qI (zw jg (zx (qZ (K:=K) rfl) (pv 0) zg (fun _ _=>rfl)) (pv 1) (zB _)))) (fun _ _ _ _=>(pv 0))) zd)))) zd)))
        (ze (zv (i:=7) nd rfl (Or.inl rfl) (zJ (pa7 zg (zr (Zf rfl) rfl B.max QQ (za zg (za (zA xC (pv 6) zg) zd))) (pv 6) (zA qh (pv 6) zg) (zj D_take (hr.mono (by decide)) rfl (za (pv 0) (za zg zd))) (zx qW (pv 5) zg (fun _ _=>rfl)) zg)))
        (zm (qk (jn PySem.F.plainAttrs_list PySem.F.slot_list_append PySem.F.type_list_append zV (pv 3) (za (zx zD (pv 7) (zj D_take (hr.mono (by decide)) rfl (za (pv 0) (za zg zd))) (fun _ _=>rfl)) zd)))))))
      (zm (zE (pv 3))))),?_⟩
    refine ⟨le0,fun c hc=>?_⟩
    have ncb:=B0.nne hc
    have s0:=zc (H:=H) (o:=.lst []) hc
    refine ⟨_,rfl,jp,_,_,_,rfl,rfl,s0.sqT qj,qm (j:=2) rfl,fs,rfl,⟨_,s0.sqT qf⟩,Vz (K:=K) (a:=fs) (xs:=fv) (X5 b jp l c H n) ⟨_,_,_,_,fun _=>0,rfl,(SameB.refl b H).new hc,(B0.new hc).mono (by omega),zb,fun _=>⟨Int.le_refl 0,show (0:Int) <= 1000 by decide⟩⟩ (fun i σ H1 _ ⟨_,_,_,_,_,_,S1,_,_,_⟩=>qf.keep (SameT.draw B0 S1)) ?_ ?_⟩
    · rintro i x σ H1 T hx ⟨v4,v5,v6,v7,st,rfl,S1,B1,hc1,hst⟩ hT
      have T1:=SameT.draw B0 S1
      obtain ⟨d,ed,rd⟩:=(rf.keep T1 (ju _)).get hx
      rw [List.getElem?_map] at ed
      obtain ⟨fe,ef,rfl⟩:=Option.map_eq_some_iff.mp ed
      obtain ⟨fa,fc,rfl,qfa,_⟩:=xc rd
      have il:=(List.getElem?_eq_some_iff.mp ef).1
      have hfe:=(mo.jo.fa fe (List.mem_of_getElem? ef)).2.2
      have sT:=zc (H:=H1) (o:=.tup [.int (i:Int),.ref fa]) hT
      have S2:=S1.new (o:=.tup [.int (i:Int),.ref fa]) hT
      have B2:=B1.new (o:=.tup [.int (i:Int),.ref fa]) hT
      have hc2:=sT _ _ hc1
      have qfa2:=sT.sqT qfa
      refine ⟨T,_,rfl,SqT.of zb,rfl,_,_,rfl,_,_,rfl,rfl,?_⟩
      generalize upd H1 T (.tup [.int (i:Int),.ref fa]) = H2 at *
      have hl2:=S2 _ _ hl nlb
      have rl2:=rl.keep (SameT.draw B0 S2) (qY ts)
      refine ⟨_,rfl,l,rfl,⟨_,SqL.of hl2⟩,qH (K:=K) (a:=l) (xs:=xs) (fun j zs H3=>∃ ns:List Int,zs = ns.map V.int /\ ns.length = j /\ (∀ z ∈ ns,0 <= z /\ z <= 4) /\ Same H2 H3) ⟨[],rfl,rfl,(fun z hz=>nomatch hz),Same.refl _⟩ (fun j zs H3 ⟨_,_,_,_,s3⟩=>SqL.of (s3 _ _ hl2)) ?_ ?_⟩
      · rintro j x zs H3 hx ⟨ns,rfl,nl,nb,s3⟩
        obtain ⟨d,ed,rd⟩:=(rl2.same s3).get hx
        rw [List.getElem?_map] at ed
        obtain ⟨t,et,rfl⟩:=Option.map_eq_some_iff.mp ed
        have jl:=(List.getElem?_eq_some_iff.mp et).1
        have tok:=mo.po.tr t (List.mem_of_getElem? et)
        have t4:=tok.p2
        have hd4:=mo.jo.hd1
        obtain ⟨a,pb,pc,us,vs,rfl,qa,qb,rb,qc,rc⟩:=jK rd
        have lb:=rb.len
        rw [List.length_map] at lb
        refine ⟨a,_,rfl,qa,rfl,_,_,rfl,_,_,rfl,rfl,rfl,?_⟩
        refine ⟨_,rfl,pb,rfl,⟨_,qb⟩,jP (K:=K) (a:=pb) (xs:=us) (fun m ws H4=>ws.length <= m /\ Same H3 H4) ⟨Nat.le_refl _,Same.refl _⟩ (fun m ws H4 ⟨_,s4⟩=>s4.sqT qb) ?_ ?_⟩
        · rintro m y ws H4 hy ⟨wl,s4⟩
          obtain ⟨d2,e2,r2⟩:=(rb.same s4).get hy
          rw [List.getElem?_map] at e2
          obtain ⟨p,ep,rfl⟩:=Option.map_eq_some_iff.mp e2
          obtain ⟨pa,rfl,qp⟩:=qD r2
          have ml:=(List.getElem?_eq_some_iff.mp ep).1
          refine ⟨rfl,_,rfl,pa,_,_,_,rfl,rfl,qp,qm (j:=1) rfl,_,rfl,rfl,_,rfl,qO (fun cc=>⟨_,rfl,by omega,by rw [List.length_append];show _ + 1 <= _;omega,s4⟩) (fun cc=>⟨by omega,s4⟩)⟩
        · rintro ws H4 ⟨wl,s4⟩
          refine ⟨by omega,fun D hD=>⟨D,ws,rfl,.inl (SqL.of zb),by rw [List.length_map];omega,ns ++ [(ws.length:Int)],?_,?_,?_,s3.trans (s4.trans (zc hD))⟩⟩
          · rw [List.map_append];rfl
          · rw [List.length_append,nl];rfl
          · intro z hz
            rcases List.mem_append.mp hz with hz | hz
            · exact nb z hz
            · rw [List.mem_singleton.mp hz]
              omega
      rintro zs H3 ⟨ns,rfl,nl,nb,s3⟩
      obtain ⟨u0,u1⟩:=Jz nb
      refine ⟨by rw [List.length_map];omega,fun D hD=>⟨D,ns,rfl,SqL.of zb,fun z hz=>by have:=nb z hz;omega,by omega,?_⟩⟩
      generalize ns.sum = used at u0 u1
      have s4:=s3.trans (zc (H:=H3) (o:=.lst (ns.map V.int)) hD)
      have S4:=S2.trans (SameB.of s4)
      have B4:=B2.same s4
      have hc4:=s4 _ _ hc2
      have qfa4:=s4.sqT qfa2
      generalize upd H3 D (.lst (ns.map V.int)) = H4 at *
      refine ⟨_,rfl,_,_,rfl,rfl,_,_,rfl,_,rfl,_,rfl,_,_,rfl,rfl,_,rfl,b,5,_,rfl,B4,by omega,by decide,by decide,fun r H5 r0 r1 B5 S5=>?_⟩
      have qfa5:=qfa4.keep (SameT.draw B4 S5)
      have hc5:=S5 _ _ hc4 ncb
      refine ⟨_,rfl,fa,_,_,_,rfl,rfl,qfa5,qm (j:=2) rfl,by show 7 <= _;omega,fun sm hsm=>?_⟩
      have nsb:=B5.nne hsm
      have hc6:=(zc (H:=H5) (o:=.lst [.int 0,.int (if used - 1 > 0 then used - 1 else 0),.int used,.int (used + 1),.int r,.int fe.m,.int 400]) hsm) _ _ hc5
      have S6:=(S4.trans S5).new (o:=.lst [.int 0,.int (if used - 1 > 0 then used - 1 else 0),.int used,.int (used + 1),.int r,.int fe.m,.int 400]) hsm
      have B6:=B5.new (o:=.lst [.int 0,.int (if used - 1 > 0 then used - 1 else 0),.int used,.int (used + 1),.int r,.int fe.m,.int 400]) hsm
      refine ⟨_,rfl,.inl ⟨rfl,_,SqL.of hc6⟩,_,rfl,_,rfl,b,7,_,rfl,B6,by omega,by decide,by decide,fun r7 H7 r70 r71 B7 S7=>?_⟩
      obtain ⟨v,ev,v0,v1⟩:∃ v,atI [V.int 0,.int (if used - 1 > 0 then used - 1 else 0),.int used,.int (used + 1),.int r,.int fe.m,.int 400] r7 = some (.int v) /\ 0 <= v /\ v <= 1000:=by
        have hc:r7 = 0 \/ r7 = 1 \/ r7 = 2 \/ r7 = 3 \/ r7 = 4 \/ r7 = 5 \/ r7 = 6:=by omega
        rcases hc with rfl | rfl | rfl | rfl | rfl | rfl | rfl
        · exact ⟨0,rfl,by omega,by omega⟩
        · exact ⟨_,rfl,by split <;> omega,by split <;> omega⟩
        · exact ⟨_,rfl,by omega,by omega⟩
        · exact ⟨_,rfl,by omega,by omega⟩
        · exact ⟨_,rfl,by omega,by omega⟩
        · exact ⟨_,rfl,by omega,by omega⟩
        · exact ⟨400,rfl,by omega,by omega⟩
      have hc7:=S7 _ _ hc6 ncb
      refine ⟨sm,_,_,_,rfl,rfl,SqL.of (S7 _ _ zb nsb),ev,c,_,_,rfl,rfl,hc7,by rw [qU];omega,_,_,_,_,upF st i v,rfl,(S6.trans S7).put hc,(B7.other ncb).mono (by omega),?_,fun k=>?_⟩
      · rw [zb,Vi]
      · unfold upF
        by_cases e:k = i
        · rw [if_pos e];exact ⟨v0,v1⟩
        · rw [if_neg e];exact hst k
    · rintro σ H1 ⟨v4,v5,v6,v7,st,rfl,S1,B1,hc1,hst⟩
      rw [lf] at hc1 B1
      exact ⟨_,rfl,k c st H1 S1 (B1.mono (by omega)) ncb hc hc1 hst⟩
end
structure FSt (H H3 H':Hp) (pl fr d wt:Addr) (ys:List V) (n:Nat) (g:Nat -> Int) (l:List (Nat × Nat)) (ws:List Nat):Prop where
  s:Same H H'
  t:SameT H3 H'
  hp:H' pl = some (.lst ys)
  hf:H' fr = some (.lst (qB n g))
  hd:H' d = some (.dK (dkN l))
  hw:H' wt = some (.lst (zo ws))
structure FNe (H:Hp) (pl fr d wt:Addr):Prop where
  f0:H fr = none
  d0:H d = none
  w0:H wt = none
  pf:pl ≠ fr
  pd:pl ≠ d
  pw:pl ≠ wt
  fw:fr ≠ wt
  fd:fr ≠ d
  dw:d ≠ wt
section
variable {H H3 H' H'':Hp} {pl fr d wt:Addr} {ys:List V} {n:Nat} {g g':Nat -> Int} {l l':List (Nat × Nat)} {ws ws':List Nat}
theorem FSt.same (h:FSt H H3 H' pl fr d wt ys n g l ws) (s:Same H' H''):FSt H H3 H'' pl fr d wt ys n g l ws:=⟨h.s.trans s,h.t.trans (SameT.of s),s _ _ h.hp,s _ _ h.hf,s _ _ h.hd,s _ _ h.hw⟩
theorem FSt.putF (h:FSt H H3 H' pl fr d wt ys n g l ws) (e:FNe H pl fr d wt):FSt H H3 (upd H' fr (.lst (qB n g'))) pl fr d wt ys n g' l ws:=
  ⟨h.s.put e.f0,h.t.trans (SameT.put h.hf),by rw [zi e.pf];exact h.hp,zb,by rw [zi (Ne.symm e.fd)];exact h.hd,by rw [zi (Ne.symm e.fw)];exact h.hw⟩
theorem FSt.putD (h:FSt H H3 H' pl fr d wt ys n g l ws) (e:FNe H pl fr d wt):FSt H H3 (upd H' d (.dK (dkN l'))) pl fr d wt ys n g l' ws:=
  ⟨h.s.put e.d0,h.t.trans (SameT.putD h.hd),by rw [zi e.pd];exact h.hp,by rw [zi e.fd];exact h.hf,zb,by rw [zi (Ne.symm e.dw)];exact h.hw⟩
theorem FSt.putW (h:FSt H H3 H' pl fr d wt ys n g l ws) (e:FNe H pl fr d wt):FSt H H3 (upd H' wt (.lst (zo ws'))) pl fr d wt ys n g l ws':=
  ⟨h.s.put e.w0,h.t.trans (SameT.put h.hw),by rw [zi e.pw];exact h.hp,by rw [zi e.fw];exact h.hf,by rw [zi e.dw];exact h.hd,zb⟩
end
theorem Xo (l:List (Nat × Nat)):(dkN l).length = l.length:=by unfold dkN dkO som;rw [List.length_map,List.length_map]
theorem wO {fd:List (Nat × Option Nat)} {p:Nat} (h:p ∈ (qT fd).map (·.1)):p ∈ fd.map (·.1):=by
  obtain ⟨⟨a,k⟩,hq,rfl⟩:=List.mem_map.mp h
  exact List.mem_map.mpr ⟨_,vX.mp hq,rfl⟩
theorem Jl {fd:List (Nat × Option Nat)} {p:Nat} (h:p ∈ fd.map (·.1)) (hn:(p,none) ∉ fd):p ∈ (qT fd).map (·.1):=by
  obtain ⟨⟨a,o⟩,hq,rfl⟩:=List.mem_map.mp h
  cases o with
  | none=>exact absurd hq hn
  | some k=>exact List.mem_map.mpr ⟨(a,k),vX.mpr hq,rfl⟩
theorem Vg (fd:List (Nat × Option Nat)):(qT fd).length <= fd.length:=List.length_filterMap_le _ _
theorem Z3 {α:Type} {l:List α} (nd:l.Nodup) {i:Nat} {x:α} (h:l[i]? = some x):x ∉ l.take i:=fun hm=>by
  obtain ⟨hi,e⟩:=List.getElem?_eq_some_iff.mp h
  rw [<- List.take_append_drop i l,List.drop_eq_getElem_cons hi,e] at nd
  exact (List.nodup_append.mp nd).2.2 x hm x List.mem_cons_self rfl
section
variable {P:Program} {w:World} {K:PySem.W.Frag} {mg:Str -> Option Value} {base:Heap}
inductive V2 (K:PySem.W.Frag) (vs:List V) (H:Hp) (Q:VK):Prop
  | mk (jp l c:Addr) (J:Job) (xs:List V) (ts:List zN) (st:Nat -> Int) (_:vs = [.ref jp,.ref l,.ref c]) (_:Rep K H (jQ J) (.ref jp)) (_:SqL K H l xs) (_:Reps K H (ts.map qr) xs) (_:Brk J ts) (_:SqL K H c (qB J.fs.length st)) (_:∀ (q d wt:Addr) (o:Obj) H',Same H H' -> SqT K H' q [.ref d,.ref wt] -> H' d = some (.frz o (.dK (dkN (qT (zK J st ts))))) -> H' wt = some (.lst (zo (zX (zK J st ts)))) -> Q (.ref q) H'):V2 K vs H Q
def zaX (K:PySem.W.Frag):Sp:=fun vs H Q _=>V2 K vs H Q
theorem zb5:zy ["_law_job_here", "_law_plan_here", "_law_stock", "_law_free", "_law_found", "_law_want", "_law_part", "_law_feeder", "_law_some"] ["_law_job_here", "_law_plan_here", "_law_stock"] (zt (zp 34)):=⟨rfl,rfl,rfl,by decide +kernel,rfl,by decide +kernel,by decide +kernel⟩
def X4 (jp:_) (l:_) (c:_) (fr:_) (d:_) (wt:_) (H:_) (H4:_) (pl:_) (ys:List V) (J:Job) (st:Nat -> Int) (ts:List zN):=fun (i:Nat) (σ:St) (H5:Hp)=>(Ex3 fun (v6 v7 v8:Option V)=>An2 (σ = [some (.ref jp),some (.ref l),some (.ref c),some (.ref fr),some (.ref d),some (.ref wt),v6,v7,v8]) (FSt H H4 H5 pl fr d wt ys J.fs.length (P1 st ((zk ts).take i)).1 (P1 st ((zk ts).take i)).2 []):Prop)
def X3 (jp:_) (l:_) (c:_) (fr:_) (d:_) (wt:_) (H:_) (H6:_) (pl2:_) (ys2:_) (J:Job) (st:Nat -> Int) (ts:List zN):=fun (i:Nat) (σ:St) (H5:Hp)=>(Ex3 fun (v6 v7 v8:Option V)=>An2 (σ = [some (.ref jp),some (.ref l),some (.ref c),some (.ref fr),some (.ref d),some (.ref wt),v6,v7,v8]) (FSt H H6 H5 pl2 fr d wt ys2 J.fs.length (P2 J st (zk ts) ((zk ts).take i)).1 (qT (P2 J st (zk ts) ((zk ts).take i)).2) (zX (P2 J st (zk ts) ((zk ts).take i)).2)):Prop)
theorem zcs {f:Addr} {fd:FuncData} (F:Fun K "_law_feeders_now" "_law_feeders_now" (zp 34) f fd) (B:Blt mg) (D_all_picks:Dfn P w K mg base "_law_all_picks" 1 ["_law_plan_here"] (ZA K)):qA P w K mg base CX0 2 f fd ["_law_job_here", "_law_plan_here", "_law_stock"] (zaX K):=by
  have nd:=zb5.nd
  refine F.ok zb5 (fun vs H Q E h=>?_) (fun cdv A outer s H vs Q E hr h=>?_)
  · obtain ⟨jp,l,c,J,xs,ts,st,rfl,_⟩:=h
    rfl
  · obtain ⟨jp,l,c,J,xs,ts,st,rfl,rj,hl,rl,bk,hc,k⟩:=h
    have hbig:1000000 < sizeLine:=by rw [sizeLine_eq];decide
    have hu1:=wf hr
    have hu:=Nat.lt_of_succ_lt hu1
    have al:=bk.al
    have fl:=bk.fl
    refine ⟨_,(ze (jm (zO (za (zM vE rfl B.list qQ (za (pv 2) zd)) (za Qk (za (zJ zd) zd)))) (qx rfl (zq (zn (i:=3) nd rfl (Or.inr rfl)) (zq (zn (i:=4) nd rfl (Or.inl rfl)) (zq (zn (i:=5) nd rfl (Or.inl rfl)) zS)))))
      (ze (zU PassesOwn.never rfl (zL (zj D_all_picks (hr.mono (by decide)) rfl (za (pv 1) zd))) (qx rfl (zq (zn (i:=6) nd rfl (Or.inr rfl)) (zq (zn (i:=7) nd rfl (Or.inl rfl)) zS)))
      (zm (jz (zw yY (zx zD (pv 3) (pv 7) (fun _ _=>rfl)) zg (zB _))
        (zm (jm (zO (za (zA xC (zx zD (pv 3) (pv 7) (fun _ _=>rfl)) zg) (za (pv 7) zd))) (qx rfl (zq (xB (pv 3) (pv 7) jM) (zq (xB (pv 4) (pv 6) (JH hu1)) zS)))))
        qM)))
      (ze (zU PassesOwn.never rfl (zL (zj D_all_picks (hr.mono (by decide)) rfl (za (pv 1) zd))) (qx rfl (zq (zn (i:=6) nd rfl (Or.inr rfl)) (zq (zn (i:=7) nd rfl (Or.inl rfl)) zS)))
      (zm (jz (Q9 (vT hu1 (pv 6) (pv 4)))
        (ze (ZG ["_law_free", "_law_part", "_law_job_here"] [3,6,0] rfl rfl (by kernel_rfl) (vq rfl B.enumerate (za (zx qW (pv 0) zg (fun _ _=>rfl)) zd)) (fun _ _ _ _=>(qI (PW.pt (vS (zw jg (zx (qZ (K:=K) rfl) (pv 1) zg (fun _ _=>rfl)) (zx (qZ (K:=K) rfl) (zx (qZ (K:=K) rfl) (zx (qZ (K:=K) rfl) (pv 4) zg (fun _ _=>rfl)) (pv 3) (fun _ _=>rfl)) zg (fun _ _=>rfl)) (zB _)) (xP (zw yY (zx (xb (K:=K) rfl) (pv 2) (pv 0) (fun _ _=>rfl)) zg (zB _))))))) (fun _ _ _ _=>(pv 0)) (zn (i:=8) nd rfl (Or.inl rfl)))
          (zm (jz (zw (Qn hu) (pv 8) (zJ zd) (zB _))
          (zm (qk (jn PySem.F.plainAttrs_list PySem.F.slot_list_append PySem.F.type_list_append zV (pv 5) (za (pv 6) zd))))
          (zm (jm (zO (za (zA xC (zx zD (pv 3) (zx zD (pv 8) zg (fun _ _=>rfl)) (fun _ _=>rfl)) zg) (za (zx zD (pv 8) zg (fun _ _=>rfl)) zd))) (qx rfl (zq (xB (pv 3) (zx zD (pv 8) zg (fun _ _=>rfl)) jM) (zq (xB (pv 4) (pv 6) (JH hu1)) zS))))))))
        qM)))
      (zm (zE (zO (za (Wu (pv 4)) (za (pv 5) zd)))))))),?_⟩
    refine ⟨_,rfl,c,_,rfl,.inl hc,fun fr hfr=>fun d hd=>⟨le0,fun wt hwt=>⟨by show 3 <= _;omega,fun T hT=>⟨T,_,rfl,SqT.of zb,rfl,_,_,rfl,_,_,rfl,_,_,rfl,rfl,?_⟩⟩⟩⟩
    have fr0:H fr = none:=hfr
    have nfd:fr ≠ d:=zf zb hd
    have s1:=(zc (H:=H) (o:=.lst (qB J.fs.length st)) hfr).trans (zc (o:=.dK []) hd)
    have d0:H d = none:=(zc (H:=H) (o:=.lst (qB J.fs.length st)) hfr).free hd
    have nfw:fr ≠ wt:=zf ((zc hd) _ _ zb) hwt
    have ndw:d ≠ wt:=zf zb hwt
    have w0:H wt = none:=s1.free hwt
    have s2:=s1.trans (zc (o:=.lst []) hwt)
    have s3:=s2.trans (zc (o:=.tup [.ref fr,.ref d,.ref wt]) hT)
    have F3:=(zc (o:=.tup [.ref fr,.ref d,.ref wt]) hT) _ _ ((zc (o:=.lst []) hwt) _ _ ((zc (o:=.dK []) hd) _ _ (zb (H:=H) (a:=fr) (o:=.lst (qB J.fs.length st)))))
    have D3:=(zc (o:=.tup [.ref fr,.ref d,.ref wt]) hT) _ _ ((zc (o:=.lst []) hwt) _ _ (zb (H:=upd H fr (.lst (qB J.fs.length st))) (a:=d) (o:=.dK [])))
    have W3:=(zc (o:=.tup [.ref fr,.ref d,.ref wt]) hT) _ _ (zb (H:=upd (upd H fr (.lst (qB J.fs.length st))) d (.dK [])) (a:=wt) (o:=.lst []))
    generalize upd (upd (upd (upd H fr (.lst (qB J.fs.length st))) d (.dK [])) wt (.lst [])) T (.tup [.ref fr,.ref d,.ref wt]) = H3 at s3 F3 D3 W3
    clear s1 s2 hfr hd hwt hT
    refine ⟨_,rfl,l,xs,ts,rfl,s3.seq hl,rl.same s3,al,fun pl ys H4 s4 pl0 hpl rp=>?_⟩
    have ne:FNe H pl fr d wt:=⟨fr0,d0,w0,Ne.symm (zf F3 pl0),Ne.symm (zf D3 pl0),Ne.symm (zf W3 pl0),nfw,nfd,ndw⟩
    have lp:=rp.len
    rw [List.length_map] at lp
    refine ⟨pl,rfl,⟨_,SqL.of hpl⟩,qL (K:=K) (a:=pl) (xs:=ys) (X4 jp l c fr d wt H H4 pl ys J st ts) ⟨_,_,_,rfl,s3.trans s4,SameT.refl _,hpl,s4 _ _ F3,s4 _ _ D3,s4 _ _ W3⟩ (fun i σ H5 _ ⟨_,_,_,_,h⟩=>SqL.of h.hp) ?_ ?_⟩
    · rintro i x σ H5 hx ⟨v6,v7,v8,rfl,g⟩
      obtain ⟨dd,e1,r1⟩:=(rp.keep g.t (zG _)).get hx
      rw [List.getElem?_map] at e1
      obtain ⟨p,ep,rfl⟩:=Option.map_eq_some_iff.mp e1
      obtain ⟨pa,rfl,qp⟩:=qD r1
      obtain ⟨p1,p2⟩:=bk.ok p (List.mem_of_getElem? ep)
      have il:=(List.getElem?_eq_some_iff.mp ep).1
      have es:P1 st ((zk ts).take (i + 1)) = L2.s1 (P1 st ((zk ts).take i)) p:=by rw [zQ ep,XC]
      have sub:=ZY st ((zk ts).take i)
      have hnk:p.1 ∉ ((P1 st ((zk ts).take i)).2).map (·.1):=fun hm=>by
        have h1:=(sub.map (·.1)).subset hm
        rw [List.map_take] at h1
        exact Z3 bk.nd (by rw [List.getElem?_map,ep];rfl) h1
      have sl:=sub.length_le
      rw [List.length_take] at sl
      generalize P1 st ((zk ts).take i) = S at es g hnk sl
      refine ⟨pa,_,rfl,qp,rfl,_,_,rfl,_,_,rfl,rfl,?_⟩
      refine ⟨_,rfl,_,rfl,fr,_,_,_,rfl,rfl,SqL.of g.hf,xh p2,_,_,rfl,rfl,_,rfl,qO (fun cc=>?_) (fun cc=>?_)⟩
      · have c':0 < S.1 p.2:=of_decide_eq_true cc
        refine ⟨_,rfl,_,rfl,fr,_,_,_,rfl,rfl,SqL.of g.hf,xh p2,_,_,rfl,rfl,_,rfl,le2,fun T hT=>⟨T,_,rfl,SqT.of zb,rfl,_,_,rfl,?_⟩⟩
        have g2:=g.same (zc (o:=.tup [.int (S.1 p.2 - 1),.int (p.2:Int)]) hT)
        refine ⟨_,rfl,_,rfl,fr,_,_,p.2,rfl,rfl,g2.hf,by rw [qU];exact vB p2,?_⟩
        rw [wP p2]
        have g3:=g2.putF (g':=upF S.1 p.2 (S.1 p.2 - 1)) ne
        refine ⟨_,_,rfl,_,rfl,_,rfl,d,_,rfl,DPut.k (k:=Sum.inl (p.1:Int)) g3.hd (by rw [Xo];omega),rfl,?_⟩
        rw [Xn hnk]
        have g4:=g3.putD (l':=S.2 ++ [p]) ne
        exact ⟨_,_,_,rfl,by rw [es,L2.s1,if_pos c'];exact g4⟩
      · have c':¬ 0 < S.1 p.2:=fun z=>cc (decide_eq_true z)
        exact ⟨_,_,_,rfl,by rw [es,L2.s1,if_neg c'];exact g⟩
    rintro σ H5 ⟨v6,v7,v8,rfl,g⟩
    rw [lp,List.take_length] at g
    refine ⟨_,rfl,l,xs,ts,rfl,g.s.seq hl,rl.same g.s,al,fun pl2 ys2 H6 s6 pl20 hpl2 rp2=>?_⟩
    have ne2:FNe H pl2 fr d wt:=⟨fr0,d0,w0,Ne.symm (zf g.hf pl20),Ne.symm (zf g.hd pl20),Ne.symm (zf g.hw pl20),nfw,nfd,ndw⟩
    have lp2:=rp2.len
    rw [List.length_map] at lp2
    have g6:FSt H H6 H6 pl2 fr d wt ys2 J.fs.length (P2 J st (zk ts) ((zk ts).take 0)).1 (qT (P2 J st (zk ts) ((zk ts).take 0)).2) (zX (P2 J st (zk ts) ((zk ts).take 0)).2):=by
      refine ⟨g.s.trans s6,SameT.refl _,hpl2,s6 _ _ g.hf,?_,?_⟩
      · rw [s6 _ _ g.hd]
        show _ = some (HO.dK (dkN (qT (som (P1 st (zk ts)).2))))
        rw [Vf]
      · rw [s6 _ _ g.hw]
        show _ = some (HO.lst (zo (zX (som (P1 st (zk ts)).2))))
        rw [X8]
    clear g s6 ne lp rp hpl pl0
    refine ⟨pl2,rfl,⟨_,SqL.of hpl2⟩,qL (K:=K) (a:=pl2) (xs:=ys2) (X3 jp l c fr d wt H H6 pl2 ys2 J st ts) ⟨_,_,_,rfl,g6⟩ (fun i σ H5 _ ⟨_,_,_,_,h⟩=>SqL.of h.hp) ?_ ?_⟩
    · rintro i x σ H5 hx ⟨v6,v7,v8,rfl,g⟩
      obtain ⟨dd,e1,r1⟩:=(rp2.keep g.t (zG _)).get hx
      rw [List.getElem?_map] at e1
      obtain ⟨p,ep,rfl⟩:=Option.map_eq_some_iff.mp e1
      obtain ⟨pa,rfl,qp⟩:=qD r1
      obtain ⟨p1,p2⟩:=bk.ok p (List.mem_of_getElem? ep)
      have il:=(List.getElem?_eq_some_iff.mp ep).1
      have es:P2 J st (zk ts) ((zk ts).take (i + 1)) = L2.s2 J (P2 J st (zk ts) ((zk ts).take i)) p:=by rw [zQ ep,ZX]
      have ky:=wD (J:=J) (st:=st) bk.nd (i:=i) (by omega)
      have hno:(p.1,none) ∉ (P2 J st (zk ts) ((zk ts).take i)).2:=fun hm=>by
        have h1:=ky.non _ hm rfl
        rw [List.map_take] at h1
        exact Z3 bk.nd (by rw [List.getElem?_map,ep];rfl) h1
      generalize P2 J st (zk ts) ((zk ts).take i) = S at es g ky hno
      have kl:=ky.len
      have sl:=Vg S.2
      have wl:=vO S.2
      refine ⟨pa,_,rfl,qp,rfl,_,_,rfl,_,_,rfl,rfl,?_⟩
      refine ⟨_,rfl,_,rfl,d,_,rfl,DGet.k (k:=Sum.inl (p.1:Int)) g.hd,_,rfl,qO (fun cc=>?_) (fun cc=>?_)⟩
      · have hn1:p.1 ∉ (qT S.2).map (·.1):=by
          refine QI.mp ?_
          cases hv:z9 (dkN (qT S.2)) (Sum.inl (p.1:Int)) with
          | none=>rfl
          | some o=>rw [hv] at cc;cases cc
        have hn:p.1 ∉ S.2.map (·.1):=fun h=>hn1 (Jl h hno)
        obtain ⟨g',fs,ps,as,fv,px,qj,_,qf,rf,qp',rp',_⟩:=xT (rj.same g.s)
        obtain ⟨pt,ept⟩:∃ pt,J.ps[p.1]? = some pt:=⟨J.ps[p.1],List.getElem?_eq_getElem p1⟩
        obtain ⟨v,ev1,rv1⟩:=Js rp' ept
        obtain ⟨a1,c1,rfl,qa1,_⟩:=vU rv1
        have lfv:=rf.len
        rw [List.length_map] at lfv
        have rle:∀ j,((atK J.fs pt.k j).filter fun k=>decide (0 < S.1 k)).length <= j:=fun j=>Nat.le_trans (List.length_filter_le _ _) (wc _ _ _)
        refine ⟨_,rfl,jp,_,_,_,rfl,rfl,qj,rfl,fs,rfl,⟨_,qf⟩,w9 (K:=K) (a:=fs) (xs:=fv) (fun j zs H7=>zs = zo ((atK J.fs pt.k j).filter fun k=>decide (0 < S.1 k)) /\ Same H5 H7) ⟨rfl,Same.refl _⟩ (fun j zs H7 ⟨_,s7⟩=>s7.sqT qf) ?_ ?_⟩
        · rintro j x zs H7 T hx' ⟨rfl,s7⟩ hT
          obtain ⟨d1,e1,r1⟩:=(rf.same s7).get hx'
          rw [List.getElem?_map] at e1
          obtain ⟨fe,efe,rfl⟩:=Option.map_eq_some_iff.mp e1
          have hj:j < J.fs.length:=(List.getElem?_eq_some_iff.mp efe).1
          have sT:=s7.trans (zc (o:=.tup [.int (j:Int),x]) hT)
          obtain ⟨fa,fc,rfl,qfa,_⟩:=xc (r1.same (zc (o:=.tup [.int (j:Int),x]) hT))
          have rj':=rle j
          refine ⟨T,_,rfl,SqT.of zb,rfl,_,_,rfl,_,_,rfl,rfl,rfl,?_⟩
          refine ⟨_,rfl,fa,_,_,_,rfl,rfl,qfa,rfl,_,rfl,jp,_,_,_,rfl,rfl,sT.sqT qj,rfl,_,rfl,ps,_,_,_,rfl,rfl,sT.sqT qp',qm ev1,a1,_,_,_,rfl,rfl,sT.sqT qa1,rfl,rfl,_,rfl,qO (fun c1=>?_) (fun c1=>?_)⟩
          · have ek:fe.k = pt.k:=V.str.inj (of_decide_eq_true c1)
            rw [Xx efe ek,List.filter_append]
            refine ⟨_,rfl,_,rfl,fr,_,_,_,rfl,rfl,SqL.of (sT _ _ g.hf),xh hj,_,_,rfl,rfl,_,rfl,qO (fun c2=>?_) (fun c2=>?_)⟩
            · refine ⟨_,rfl,by rw [zu];omega,?_,sT⟩
              rw [List.filter_cons_of_pos (by exact c2),List.filter_nil,qg]
            · refine ⟨?_,sT⟩
              rw [List.filter_cons_of_neg (by exact c2),List.filter_nil,List.append_nil]
          · have ek:fe.k ≠ pt.k:=fun z=>c1 (decide_eq_true (by rw [z]))
            refine ifF rfl ⟨?_,sT⟩
            rw [Xy efe ek]
        rintro zs H7 ⟨e7,s7⟩
        rw [lfv,show (atK J.fs pt.k J.fs.length).filter (fun k=>decide (0 < S.1 k)) = rdy J p.1 S.1 by unfold rdy;rw [Xe ept]] at e7
        subst e7
        have lr:(rdy J p.1 S.1).length <= J.fs.length:=by
          unfold rdy
          exact Nat.le_trans (List.length_filter_le _ _) (wc _ _ _)
        refine ⟨by rw [zu];omega,fun sm hsm=>?_⟩
        have g8:=g.same (s7.trans (zc (H:=H7) (o:=.lst (zo (rdy J p.1 S.1))) hsm))
        have M8:upd H7 sm (.lst (zo (rdy J p.1 S.1))) sm = some (.lst (zo (rdy J p.1 S.1))):=zb
        generalize upd H7 sm (.lst (zo (rdy J p.1 S.1))) = H8 at *
        refine ⟨_,rfl,le0,fun e0 he0=>?_⟩
        have g9:=g8.same (zc (H:=H8) (o:=.lst []) he0)
        have M9:=(zc (H:=H8) (o:=.lst []) he0) _ _ M8
        have E9:upd H8 e0 (.lst []) e0 = some (.lst []):=zb
        generalize upd H8 e0 (.lst []) = H9 at *
        refine ⟨sm,e0,_,rfl,rfl,SqL.of M9,SqL.of E9,_,rfl,qO (fun c0=>?_) (fun c0=>?_)⟩
        · have er:rdy J p.1 S.1 = []:=by
            cases h0:rdy J p.1 S.1 with
            | nil=>rfl
            | cons a b=>rw [h0] at c0;cases c0
          refine ⟨_,rfl,.inl ⟨rfl,_,SqL.of g9.hw⟩,_,rfl,wt,_,_,rfl,rfl,g9.hw,by rw [zu];omega,?_⟩
          have g10:=g9.putW (ws':=zX S.2 ++ [p.1]) ne2
          rw [qg] at g10
          refine ⟨_,_,_,rfl,?_⟩
          rw [es,L2.s2,if_neg hn,er]
          refine ⟨g10.s,g10.t,g10.hp,g10.hf,?_,?_⟩
          · rw [yU]
            show _ = some (HO.dK (dkN (qT S.2 ++ [])))
            rw [List.append_nil]
            exact g10.hd
          · rw [vP,zb]
            show some (HO.lst (zo (zX S.2) ++ [.int (p.1:Int)])) = some (HO.lst (zo (zX S.2 ++ [p.1])))
            rw [qg]
        · obtain ⟨r0,rr,er⟩:∃ r0 rr,rdy J p.1 S.1 = r0 :: rr:=by
            cases h0:rdy J p.1 S.1 with
            | nil=>exact absurd (by rw [h0];rfl) c0
            | cons a b=>exact ⟨a,b,rfl⟩
          have r0l:=Yr (J:=J) (p:=p.1) (fr:=S.1) (k:=r0) (by rw [er];exact List.mem_cons_self)
          have a0:atI (zo (rdy J p.1 S.1)) 0 = some (.int (r0:Int)):=by rw [er];exact qm (j:=0) rfl
          refine ⟨_,rfl,_,rfl,sm,_,_,_,rfl,rfl,SqL.of M9,a0,fr,_,_,_,rfl,rfl,SqL.of g9.hf,xh r0l.1,_,_,rfl,rfl,_,rfl,sm,_,_,_,rfl,rfl,SqL.of M9,a0,le2,fun T hT=>⟨T,_,rfl,SqT.of zb,rfl,_,_,rfl,?_⟩⟩
          have g10:=g9.same (zc (o:=.tup [.int (S.1 r0 - 1),.int (r0:Int)]) hT)
          have M10:=(zc (o:=.tup [.int (S.1 r0 - 1),.int (r0:Int)]) hT) _ _ M9
          refine ⟨_,rfl,_,rfl,sm,_,_,_,rfl,rfl,SqL.of M10,a0,fr,_,_,r0,rfl,rfl,g10.hf,by rw [qU];exact vB r0l.1,?_⟩
          rw [wP r0l.1]
          have g11:=g10.putF (g':=upF S.1 r0 (S.1 r0 - 1)) ne2
          refine ⟨_,_,rfl,_,rfl,_,rfl,d,_,rfl,DPut.k (k:=Sum.inl (p.1:Int)) g11.hd (by rw [Xo];omega),rfl,?_⟩
          rw [Xn hn1]
          have g12:=g11.putD (l':=qT S.2 ++ [(p.1,r0)]) ne2
          refine ⟨_,_,_,rfl,?_⟩
          rw [es,L2.s2,if_neg hn,er]
          refine ⟨g12.s,g12.t,g12.hp,g12.hf,?_,?_⟩
          · rw [yU]
            exact g12.hd
          · rw [vP]
            show _ = some (HO.lst (zo (zX S.2 ++ [])))
            rw [List.append_nil]
            exact g12.hw
      · have hin1:p.1 ∈ (qT S.2).map (·.1):=Classical.byContradiction fun z=>cc (by rw [QI.mpr z];rfl)
        have hin:=wO hin1
        exact ⟨_,_,_,rfl,by rw [es,L2.s2,if_pos hin];exact g⟩
    rintro σ H5 ⟨v6,v7,v8,rfl,g⟩
    rw [lp2,List.take_length] at g
    refine ⟨_,rfl,d,_,rfl,g.hd,fun o=>⟨_,rfl,le2,fun q hq=>?_⟩⟩
    have sq:=zc (H:=upd H5 d (.frz o (.dK (dkN (qT (P2 J st (zk ts) (zk ts)).2))))) (o:=.tup [.ref d,.ref wt]) hq
    refine k q d wt o _ ((g.s.put d0).trans sq) (SqT.of zb) (sq _ _ zb) (sq _ _ ?_)
    rw [zi (Ne.symm ndw)]
    exact g.hw
end
def rkO (ord:List Nat) (i:Int):Nat:=ord.idxOf i.toNat
theorem za2 {J:Job} {ord:List Nat} (jo:JobOk J ord) (i:Int):rkO ord i <= 60:=by
  have h:rkO ord i <= ord.length:=List.idxOf_le_length
  have:=jo.op.length_eq
  rw [List.length_range] at this
  have:=jo.pl
  omega
theorem za1 {J:Job} {ord:List Nat} (jo:JobOk J ord):∀ q ∈ asI J,rkO ord q.1 < rkO ord q.2:=fun q hq=>by
  obtain ⟨p,hp,rfl⟩:=List.mem_map.mp hq
  obtain ⟨k,l,hkl,e1,e2⟩:=jo.bo p hp
  have nd:ord.Nodup:=jo.op.nodup_iff.mpr List.nodup_range
  have ix:∀ (k x:Nat),ord[k]? = some x -> ord.idxOf x = k:=fun k x e=>by
    obtain ⟨h1,h2⟩:=List.getElem?_eq_some_iff.mp e
    have hm:x ∈ ord:=List.mem_of_getElem? e
    have h3:=List.idxOf_lt_length_of_mem hm
    have h4:ord[ord.idxOf x]'h3 = x:=List.getElem_idxOf h3
    exact (List.getElem_inj nd).mp (h4.trans h2.symm)
  show ord.idxOf ((p.1:Int)).toNat < ord.idxOf ((p.2:Int)).toNat
  rw [Int.toNat_natCast,Int.toNat_natCast,ix k _ e1,ix l _ e2]
  exact hkl
theorem vn {K:PySem.W.Frag} {H:Hp}:∀ {ms:List Int} {xs:List V},Reps K H (ms.map Dat.int) xs -> xs = ms.map V.int
  | [],_,h=>h
  | m :: ms,_,⟨x,r,e,h1,h2⟩=>by rw [e,show x = .int m from h1,vn h2];rfl
theorem Yq {K:PySem.W.Frag} {H:Hp} {mss:List (List Int)} {o:Addr} (h:Rep K H (.lst (mss.map YX)) (.ref o)):∃ xs,SqL K H o xs /\ ∀ (p:Nat) ms,mss[p]? = some ms -> ∃ l,atI xs (p:Int) = some (.ref l) /\ SqL K H l (ms.map V.int):=by
  obtain ⟨a,xs,e,qa,rx⟩:=h
  cases e
  refine ⟨xs,qa,fun p ms hp=>?_⟩
  have lx:=rx.len
  rw [List.length_map] at lx
  have hl:=(List.getElem?_eq_some_iff.mp hp).1
  obtain ⟨v,h1,h2⟩:=yo (xs:=xs) (i:=(p:Int)) (by omega) (by omega)
  rw [Int.toNat_natCast] at h2
  obtain ⟨d,e1,r1⟩:=rx.get h2
  rw [List.getElem?_map,hp] at e1
  cases e1
  obtain ⟨l,ys,rfl,ql,ry⟩:=r1
  rw [vn ry] at ql
  exact ⟨l,h1,ql⟩
theorem Yh {as:List (Int × Int)} {wt:List Nat} {p:Nat} {ms:List Int} (h:∀ j,j ∈ ms ↔ ∃ k,1 <= k /\ Wk as k j (p:Int)):(decide (p ∈ wt) || (ms.map fun j=>decide (j ∈ nI wt)).any id) = yC as wt p:=by
  rw [Bool.eq_iff_iff,wU,Bool.or_eq_true,List.any_eq_true]
  constructor
  · rintro (hp | ⟨b,hb,e⟩)
    · exact ⟨p,of_decide_eq_true hp,0,rfl⟩
    · obtain ⟨j,hj,rfl⟩:=List.mem_map.mp hb
      have hw:j ∈ nI wt:=of_decide_eq_true e
      unfold nI at hw
      obtain ⟨q,hq,rfl⟩:=List.mem_map.mp hw
      obtain ⟨k,_,wk⟩:=(h _).mp hj
      exact ⟨q,hq,k,wk⟩
  · rintro ⟨q,hq,k,wk⟩
    cases k with
    | zero=>
      have:q = p:=Int.ofNat.inj wk
      subst this
      exact .inl (decide_eq_true hq)
    | succ k=>exact .inr ⟨true,List.mem_map.mpr ⟨(q:Int),(h _).mpr ⟨k + 1,by omega,wk⟩,decide_eq_true (wY.mpr hq)⟩,rfl⟩
theorem V7 {fd:List (Nat × Option Nat)} (nd:(fd.map (·.1)).Nodup):((qT fd).map (·.1)).Nodup:=by
  induction fd with
  | nil=>exact List.nodup_nil
  | cons q r ih=>
    rw [List.map_cons,List.nodup_cons] at nd
    obtain ⟨a,o⟩:=q
    cases o with
    | none=>exact ih nd.2
    | some k=>
      show (a :: (qT r).map (·.1)).Nodup
      exact List.nodup_cons.mpr ⟨fun h=>nd.1 (wO h),ih nd.2⟩
theorem YS {fd:List (Nat × Option Nat)} (nd:(fd.map (·.1)).Nodup) {p k:Nat} (h:lkF fd p = some (some k)):z9 (dkN (qT fd)) (Sum.inl (p:Int)) = some (.int (k:Int)):=by
  have h1:=vX.mpr (J8 h)
  have h2:(p,some k) ∈ som (qT fd):=List.mem_map.mpr ⟨(p,k),h1,rfl⟩
  unfold dkN
  rw [jV,zbp (by rw [xx];exact V7 nd) h2]
  rfl
theorem vV {ob:Nat -> Bool} {ps:List (Nat × Nat)} {i:Nat} {p:Nat × Nat} (h:ps[i]? = some p):xm ob (ps.take (i + 1)) = xm ob (ps.take i) ++ (if ob p.1 = true then [p.1] else []):=by
  unfold xm
  exact jc h
section
variable {P:Program} {w:World} {K:PySem.W.Frag} {mg:Str -> Option Value} {base:Heap}
inductive VZ (K:PySem.W.Frag) (vs:List V) (H:Hp) (Q:VK):Prop
  | mk (jp l c:Addr) (J:Job) (ord os:List Nat) (xs:List V) (ts:List zN) (st:Nat -> Int) (_:vs = [.ref jp,.ref l,.ref c]) (_:Rep K H (jQ J) (.ref jp)) (_:SqL K H l xs) (_:Reps K H (ts.map qr) xs) (_:MOk J ord os ts) (_:SqL K H c (qB J.fs.length st)) (_:∀ (q:Addr) H',Same H H' -> Rep K H' (J7 (zK J st ts) (zH J st ts) ts) (.ref q) -> Q (.ref q) H'):VZ K vs H Q
def zaW (K:PySem.W.Frag):Sp:=fun vs H Q _=>VZ K vs H Q
theorem zb4:zy ["_law_job_here", "_law_plan_here", "_law_stock", "_law_now", "_law_want", "_law_over_here", "_law_picks", "_law_out", "_law_trips", "_law_some", "_law_lays", "_law_kept", "_law_moved"] ["_law_job_here", "_law_plan_here", "_law_stock"] (zt (zp 35)):=⟨rfl,rfl,rfl,by decide +kernel,rfl,by decide +kernel,by decide +kernel⟩
def X2 (jp:_) (l:_) (c:_) (d:_) (wt:_) (ov:_) (pk:_) (ot:_) (tr:_) (H6:_) (K:_) (J:Job) (st:Nat -> Int) (ts:List zN):=fun (i:Nat) (σ:St) (H7:Hp)=>(Ex5 fun (v9 v10 v11 v12:Option V) (zs:List V)=>An4 (σ = [some (.ref jp),some (.ref l),some (.ref c),some (.ref d),some (.ref wt),some (.ref ov),some (.ref pk),some (.ref ot),some (.ref tr),v9,v10,v11,v12]) (Same H6 H7) (H7 tr = some (.lst zs)) (Reps K H7 ((jX (zK J st ts) (zH J st ts) (ts.take i)).map qr) zs):Prop)
def X1 (K:_) (t:zN) (J:Job) (st:Nat -> Int) (ts:List zN) (H7:_):=fun (j:Nat) (ws:List V) (H8:Hp)=>(An2 (Reps K H8 ((((t.pk.take j).filter fun p=>!zH J st ts p.1).map fun p=>(p.1,fdN (zK J st ts) p.1)).map zZ) ws) (Same H7 H8):Prop)
theorem zcr {f:Addr} {fd:FuncData} (F:Fun K "_law_mended_due" "_law_mended_due" (zp 35) f fd) (B:Blt mg) (D_feeders_now:Dfn P w K mg base "_law_feeders_now" 2 ["_law_job_here", "_law_plan_here", "_law_stock"] (zaX K)) (D_over:Dfn P w K mg base "_law_over" 1 ["_law_many", "_law_aheads_here"] (Q4 K)) (D_all_picks:Dfn P w K mg base "_law_all_picks" 1 ["_law_plan_here"] (ZA K)):qA P w K mg base CX0 3 f fd ["_law_job_here", "_law_plan_here", "_law_stock"] (zaW K):=by
  have nd:=zb4.nd
  refine F.ok zb4 (fun vs H Q E h=>?_) (fun cdv A outer s H vs Q E hr h=>?_)
  · obtain ⟨jp,l,c,J,ord,os,xs,ts,st,rfl,_⟩:=h
    rfl
  · obtain ⟨jp,l,c,J,ord,os,xs,ts,st,rfl,rj,hl,rl,mo,hc,k⟩:=h
    have hbig:1000000 < sizeLine:=by rw [sizeLine_eq];decide
    have hu1:=wf hr
    have hu:=Nat.lt_of_succ_lt hu1
    have bk:=mo.brk
    have ky:=bk.ky st
    have al:=bk.al
    have tl:=mo.po.len
    have ll:=rl.len
    rw [List.length_map] at ll
    have vl:=bk.val st
    have fl:(zK J st ts).length <= 60:=Nat.le_trans ky.len al
    have pl:=mo.jo.pl
    have aal:=mo.jo.al
    refine ⟨_,(ze (jm (zj D_feeders_now (hr.mono (by decide)) rfl (za (pv 0) (za (pv 1) (za (pv 2) zd)))) (qx rfl (zq (zn (i:=3) nd rfl (Or.inr rfl)) (zq (zn (i:=4) nd rfl (Or.inr rfl)) zS))))
      (ze (jm (zO (za (zj D_over (hr.mono (by decide)) rfl (za (zr zI rfl B.len boot_len (za (zx qW (pv 0) zg (fun _ _=>rfl)) zd)) (za (zx qW (pv 0) zg (fun _ _=>rfl)) zd))) (za (zj D_all_picks (hr.mono (by decide)) rfl (za (pv 1) zd)) zd))) (qx rfl (zq (zn (i:=5) nd rfl (Or.inr rfl)) (zq (zn (i:=6) nd rfl (Or.inl rfl)) zS))))
      (ze (zv (i:=7) nd rfl (Or.inr rfl) (jF ["_law_want", "_law_over_here"] [4,5] rfl rfl (by kernel_rfl) (zL (pv 6)) (fun _ _ _ _=>(qI (PW.pt (yV (zw (jt (K:=K) rfl) (pv 0) (pv 2) (by with_unfolding_all rfl)) (vR (xi (zr (yk (K:=K) rfl rfl) rfl B.any yn (za (jd ["_law_want"] [2] rfl rfl (by kernel_rfl) (Qj (K:=K) rfl (zx (xb (K:=K) rfl) (pv 3) (pv 0) (fun _ _=>rfl))) (fun _ _ _ _=>qR) (fun _ _ _ _=>(qN (jt (K:=K) rfl) (pv 0) (pv 1) (by with_unfolding_all rfl)))) zd)))))))) (fun _ _ _ _=>(pv 0))))
      (ze (zv (i:=8) nd rfl (Or.inl rfl) (zJ zd))
      (ze (zU PassesOwn.never rfl (zL (pv 1)) (qx rfl (zq (zn (i:=9) nd rfl (Or.inl rfl)) (zq (zn (i:=10) nd rfl (Or.inl rfl)) zS)))
      (ze (zv (i:=11) nd rfl (Or.inl rfl) (zM zY rfl B.tuple qz (za (jF ["_law_now", "_law_out"] [3,7] rfl rfl (by kernel_rfl) (jN (pv 9)) (fun _ _ _ _=>(qI (zw (qP (K:=K) rfl) (pv 0) (pv 3) (by with_unfolding_all rfl)))) (fun _ _ _ _=>(zO (za (pv 0) (za (vw hu1 (pv 2) (pv 0) (fun _ _=>rfl)) zd))))) zd)))
        (zm (jz (zw (YG hu) (pv 11) (zO zd) (zB _))
        (zm (qk (jn PySem.F.plainAttrs_list PySem.F.slot_list_append PySem.F.type_list_append zV (pv 8) (za (zO (za (pv 11) (za (zM zY rfl B.tuple qz (za (jd ["_law_out"] [7] rfl rfl (by kernel_rfl) (jN (pv 10)) (fun _ _ _ _=>(qI (zw (qP (K:=K) rfl) (pv 0) (pv 1) (by with_unfolding_all rfl)))) (fun _ _ _ _=>(pv 0))) zd)) zd))) zd))))
        qM))))
      (ze (ZG ["_law_out", "_law_now"] [7,3] rfl rfl (by kernel_rfl) (zL (pv 6)) (fun _ _ _ _=>(qI (PW.pt (vS (zw (qP (K:=K) rfl) (pv 0) (pv 2) (by with_unfolding_all rfl)) (xP (zw Qm (vw hu1 (pv 3) (pv 0) (fun _ _=>rfl)) (pv 1) (zB _))))))) (fun _ _ _ _=>(pv 0)) (zn (i:=12) nd rfl (Or.inl rfl)))
      (zm (zE (zO (za (pv 8) (za (zr jq rfl B.sorted ji (za (pv 12) zd)) (za (zr jq rfl B.sorted ji (za (pv 7) zd)) zd)))))))))))),?_⟩
    refine ⟨_,rfl,_,rfl,_,rfl,jp,l,c,J,xs,ts,st,rfl,rj,hl,rl,bk,hc,fun q d wt o H1 s1 qq hd hw=>⟨q,_,rfl,qq,rfl,_,_,rfl,_,_,rfl,rfl,?_⟩⟩
    obtain ⟨x0,x1,x2,t3,t4,ps,as,q0,q3,l3,q4,r4⟩:∃ (x0 x1 x2:V) (t3 t4:Addr) (ps as:List V),SqT K H1 jp [x0,x1,x2,.ref t3,.ref t4] /\ SqT K H1 t3 ps /\ ps.length = J.ps.length /\ SqT K H1 t4 as /\ Reps K H1 ((asI J).map prD) as:=by
      obtain ⟨a,xs,e,qa,x0,_,rfl,_,x1,_,rfl,_,x2,_,rfl,_,x3,_,rfl,e3,x4,r4,rfl,e4,rfl⟩:=rj.same s1
      cases e
      obtain ⟨t,ys,rfl,qt,ry⟩:=e4
      obtain ⟨t',ys',rfl,qt',ry'⟩:=e3
      have:=ry'.len
      rw [List.length_map] at this
      exact ⟨_,_,_,t',t,ys',ys,qa,qt',this,qt,by rw [Xz];exact ry⟩
    refine ⟨_,rfl,jp,_,_,_,rfl,rfl,q0,rfl,t3,_,rfl,.inr q3,_,rfl,jp,_,_,_,rfl,rfl,q0,rfl,t4,as,asI J,ps.length,rkO ord,rfl,.inr q4,r4,by rw [wC];omega,by omega,by rw [l3];exact mo.jo.ain,za1 mo.jo,za2 mo.jo,fun ov mss H2 s2 ov0 rov lm am=>?_⟩
    have s02:=s1.trans s2
    refine ⟨_,rfl,l,xs,ts,rfl,s02.seq hl,rl.same s02,al,fun pk ys H3 s3 pk0 hpk rp=>⟨le2,fun T hT=>⟨T,_,rfl,SqT.of zb,rfl,_,_,rfl,_,_,rfl,rfl,?_⟩⟩⟩
    have sT:=s3.trans (zc (H:=H3) (o:=.tup [.ref ov,.ref pk]) hT)
    have hpk4:=(zc (H:=H3) (o:=.tup [.ref ov,.ref pk]) hT) _ _ hpk
    have rp4:=rp.same (zc (H:=H3) (o:=.tup [.ref ov,.ref pk]) hT)
    generalize upd H3 T (.tup [.ref ov,.ref pk]) = H4 at *
    have s04:=s02.trans sT
    have hd4:=(s2.trans sT) _ _ hd
    have hw4:=(s2.trans sT) _ _ hw
    obtain ⟨oxs,qo,oat⟩:=Yq (rov.same sT)
    have lp:=rp4.len
    rw [List.length_map] at lp
    clear q0 q3 q4 r4 rp hpk qq
    have ole:∀ i,(xm (zH J st ts) ((zk ts).take i)).length <= ((zk ts).take i).length:=fun i=>by
      unfold xm
      refine Nat.le_trans (List.length_filter_le _ _) ?_
      rw [List.length_map]
      exact Nat.le_refl _
    refine ⟨_,rfl,pk,rfl,⟨_,SqL.of hpk4⟩,qH (K:=K) (a:=pk) (xs:=ys) (fun i zs H5=>zs = zo (xm (zH J st ts) ((zk ts).take i)) /\ Same H4 H5) ⟨rfl,Same.refl _⟩ (fun i zs H5 ⟨_,s5⟩=>SqL.of (s5 _ _ hpk4)) ?_ ?_⟩
    · rintro i x zs H5 hx ⟨rfl,s5⟩
      obtain ⟨dd,ed,rd⟩:=(rp4.same s5).get hx
      rw [List.getElem?_map] at ed
      obtain ⟨p,ep,rfl⟩:=Option.map_eq_some_iff.mp ed
      obtain ⟨pa,rfl,qp⟩:=qD rd
      have il:=(List.getElem?_eq_some_iff.mp ep).1
      obtain ⟨p1,p2⟩:=bk.ok p (List.mem_of_getElem? ep)
      obtain ⟨ms,ems⟩:∃ ms,mss[p.1]? = some ms:=⟨mss[p.1]'(by omega),List.getElem?_eq_getElem (by omega)⟩
      obtain ⟨ol,oa,oq⟩:=oat p.1 ms ems
      obtain ⟨mpw,mmem⟩:=am p.1 ms ems
      have eo:=Yh (as:=asI J) (wt:=zX (zK J st ts)) (p:=p.1) mmem
      have oli:=ole i
      rw [List.length_take] at oli
      have ml:ms.length <= 60:=by
        have h1:ms.Nodup:=mpw.imp fun h=>Int.ne_of_lt h
        have h2:=h1.length_le_of_subset (l₂:=nI (List.range J.ps.length)) fun j hj=>by
          obtain ⟨k,k1,wk⟩:=(mmem j).mp hj
          cases k with
          | zero=>omega
          | succ k=>
            obtain ⟨m,hm,_⟩:=wk
            obtain ⟨⟨i0,i1⟩,_⟩:=mo.jo.ain _ hm
            have e:j = ((j.toNat:Nat):Int):=by have:0 <= j:=i0;omega
            rw [e]
            exact wY.mpr (List.mem_range.mpr (by have:j < J.ps.length:=i1;have:0 <= j:=i0;omega))
        rw [vW,List.length_range] at h2
        omega
      refine ⟨pa,_,rfl,qp,rfl,_,_,rfl,_,_,rfl,rfl,rfl,_,rfl,_,rfl,wt,_,rfl,.inl (SqL.of (s5 _ _ hw4)),rfl,qJ _,_,rfl,?_⟩
      rw [if_neg Bool.false_ne_true,jU]
      refine qO (fun c1=>?_) (fun c1=>?_)
      · have e1:zH J st ts p.1 = true:=by
          unfold zH
          rw [<- eo,c1];rfl
        refine ifT rfl ⟨_,rfl,by rw [zu];omega,?_,s5⟩
        rw [vV ep,e1,if_pos rfl,qg]
      · have e2:(ms.map fun j=>decide (j ∈ nI (zX (zK J st ts)))).any id = zH J st ts p.1:=by
          unfold zH
          rw [<- eo,(Bool.not_eq_true _).mp c1,Bool.false_or]
        refine ⟨_,rfl,_,rfl,ov,_,_,_,rfl,rfl,s5.seq qo,oa,ol,rfl,⟨_,s5.seq oq⟩,qH (K:=K) (a:=ol) (xs:=ms.map V.int) (fun j zs H6=>zs = ((ms.take j).map fun j=>decide (j ∈ nI (zX (zK J st ts)))).map V.bl /\ Same H5 H6) ⟨rfl,Same.refl _⟩ (fun j zs H6 ⟨_,s6⟩=>s6.seq (s5.seq oq)) ?_ ?_⟩
        · rintro j x zs H6 hx ⟨rfl,s6⟩
          rw [List.getElem?_map] at hx
          obtain ⟨m,em,rfl⟩:=Option.map_eq_some_iff.mp hx
          have jl:=(List.getElem?_eq_some_iff.mp em).1
          refine ⟨rfl,_,rfl,_,rfl,wt,_,rfl,.inl (SqL.of (s6 _ _ (s5 _ _ hw4))),rfl,qJ _,?_,?_,s6⟩
          · rw [List.length_map,List.length_map,List.length_take];omega
          · rw [zQ em,List.map_append,List.map_append,if_neg Bool.false_ne_true,zaE];rfl
        · rintro zs H6 ⟨rfl,s6⟩
          rw [show (ms.map V.int).length = ms.length from List.length_map ..,List.take_length]
          refine ⟨by rw [List.length_map,List.length_map];omega,fun D hD=>⟨D,_,rfl,SqL.of zb,?_⟩⟩
          rw [e2]
          have s7:=s5.trans (s6.trans (zc (H:=H6) (o:=.lst ((ms.map fun j=>decide (j ∈ nI (zX (zK J st ts)))).map V.bl)) hD))
          refine ⟨_,rfl,qO (fun c2=>⟨_,rfl,by rw [zu];omega,?_,s7⟩) (fun c2=>⟨?_,s7⟩)⟩
          · rw [vV ep,if_pos c2,qg]
          · rw [vV ep,if_neg c2,List.append_nil]
    rintro zs H5 ⟨e5,s5⟩
    rw [lp,List.take_length] at e5
    subst e5
    have ola:=ole (zk ts).length
    rw [List.take_length] at ola
    refine ⟨by rw [zu];omega,fun ot hot=>⟨le0,fun tr htr=>?_⟩⟩
    have ob0:∀ p ∈ zk ts,(p.1 ∈ xm (zH J st ts) (zk ts) ↔ zH J st ts p.1 = true):=fun p hp=>by
      unfold xm
      rw [List.mem_filter]
      exact ⟨fun h=>h.2,fun h=>⟨List.mem_map.mpr ⟨p,hp,rfl⟩,h⟩⟩
    have O6:upd H5 ot (.lst (zo (xm (zH J st ts) (zk ts)))) ot = some (.lst (zo (xm (zH J st ts) (zk ts)))):=zb
    have s46:=s5.trans (zc (H:=H5) (o:=.lst (zo (xm (zH J st ts) (zk ts)))) hot)
    generalize upd H5 ot (.lst (zo (xm (zH J st ts) (zk ts)))) = H6 at *
    have s06:=s04.trans s46
    have hl6:=s06.seq hl
    have rl6:=rl.same s06
    have hd6:=s46 _ _ hd4
    have dget:∀ {H':Hp} {p:Nat × Nat},Same H6 H' -> p ∈ zk ts -> zH J st ts p.1 = false -> DGet H' d (.int (p.1:Int)) (some (.int (fdN (zK J st ts) p.1:Int))):=fun {H' p} s' hp e=>.inl ⟨_,Sum.inl (p.1:Int),.inr ⟨o,s' _ _ hd6⟩,rfl,(YS (fd:=zK J st ts) ky.nd (vl p hp e)).symm⟩
    refine ⟨_,rfl,l,rfl,⟨_,(zc htr).seq hl6⟩,qL (K:=K) (a:=l) (xs:=xs) (X2 jp l c d wt ov pk ot tr H6 K J st ts) ⟨_,_,_,_,[],rfl,zc htr,zb,rfl⟩ (fun i σ H7 _ ⟨_,_,_,_,_,_,s7,_,_⟩=>s7.seq hl6) ?_ ?_⟩
    · rintro i x σ H7 hx ⟨v9,v10,v11,v12,zs,rfl,s7,hr7,rz⟩
      obtain ⟨dd,ed,rd⟩:=(rl6.same s7).get hx
      rw [List.getElem?_map] at ed
      obtain ⟨t,et,rfl⟩:=Option.map_eq_some_iff.mp ed
      have il:=(List.getElem?_eq_some_iff.mp et).1
      have htm:=List.mem_of_getElem? et
      have tin:∀ p ∈ t.pk,p ∈ zk ts:=fun p hp=>List.mem_flatMap.mpr ⟨t,htm,hp⟩
      have tok:=mo.po.tr t htm
      have t4:=tok.p2
      have hd4':=mo.jo.hd1
      have tly:=tok.ly.length_eq
      rw [List.length_map] at tly
      have zl:=rz.len
      have mtl:(jX (zK J st ts) (zH J st ts) (ts.take i)).length <= i:=by
        unfold jX
        refine Nat.le_trans (List.length_filter_le _ _) ?_
        rw [List.length_map,List.length_take]
        omega
      rw [List.length_map] at zl
      have mts:jX (zK J st ts) (zH J st ts) (ts.take (i + 1)) = jX (zK J st ts) (zH J st ts) (ts.take i) ++ (if (!(jI (zK J st ts) (zH J st ts) t).pk.isEmpty) = true then [jI (zK J st ts) (zH J st ts) t] else []):=by
        unfold jX
        exact jc et
      obtain ⟨a,b,c',us,vs,rfl,qa,qb,rb,qc,rc⟩:=jK rd
      have lb:=rb.len
      have lc:=rc.len
      rw [List.length_map] at lb lc
      refine ⟨a,_,rfl,qa,rfl,_,_,rfl,_,_,rfl,rfl,?_⟩
      refine ⟨_,rfl,b,rfl,⟨_,qb⟩,jP (K:=K) (a:=b) (xs:=us) (X1 K t J st ts H7) ⟨rfl,Same.refl _⟩ (fun j ws H8 ⟨_,s8⟩=>s8.sqT qb) ?_ ?_⟩
      · rintro j x ws H8 hx ⟨rw8,s8⟩
        obtain ⟨d2,e2,r2⟩:=(rb.same s8).get hx
        rw [List.getElem?_map] at e2
        obtain ⟨p,ep,rfl⟩:=Option.map_eq_some_iff.mp e2
        obtain ⟨pa,rfl,qp⟩:=qD r2
        have jl:=(List.getElem?_eq_some_iff.mp ep).1
        have pin:=tin p (List.mem_of_getElem? ep)
        have wl:=rw8.len
        have fl8:=List.length_filter_le (fun p:Nat × Nat=>!zH J st ts p.1) (t.pk.take j)
        rw [List.length_take] at fl8
        rw [List.length_map,List.length_map] at wl
        refine ⟨pa,_,rfl,qp,rfl,_,_,rfl,_,_,rfl,rfl,rfl,_,rfl,_,rfl,ot,_,rfl,.inl (SqL.of ((s7.trans s8) _ _ O6)),rfl,qJ _,_,rfl,?_⟩
        rw [if_pos rfl,jU]
        cases e:zH J st ts p.1 with
        | true=>
          refine ifF (by rw [decide_eq_true ((ob0 p pin).mpr e)];rfl) ⟨?_,s8⟩
          rw [z7 _ ep,e,if_neg (by simp),List.append_nil]
          exact rw8
        | false=>
          refine ifT (by rw [decide_eq_false (fun z=>by rw [(ob0 p pin).mp z] at e;cases e)];rfl) ⟨_,rfl,_,rfl,_,rfl,d,.int (fdN (zK J st ts) p.1:Int),rfl,dget (s7.trans s8) pin e,le2,fun q hq=>⟨by omega,?_,s8.trans (zc hq)⟩⟩
          rw [z7 _ ep,e,if_pos (by simp),List.map_append,List.map_append]
          exact (rw8.same (zc hq)).snoc (d:=zZ (p.1,fdN (zK J st ts) p.1)) (Ql (SqT.of zb))
      rintro ws H8 ⟨rw8,s8⟩
      rw [lb,List.take_length] at rw8
      have wl:=rw8.len
      have fl8:=List.length_filter_le (fun p:Nat × Nat=>!zH J st ts p.1) t.pk
      rw [List.length_map,List.length_map] at wl
      refine ⟨by omega,fun l8 hl8=>⟨l8,_,rfl,.inl ⟨SqL.of zb,fun u hu=>?_⟩⟩⟩
      have s89:=(zc (H:=H8) (o:=.lst ws) hl8).trans (zc (o:=.tup ws) hu)
      have U9:upd (upd H8 l8 (.lst ws)) u (.tup ws) u = some (.tup ws):=zb
      have s79:=s8.trans s89
      have r9:=rw8.same s89
      generalize upd (upd H8 l8 (.lst ws)) u (.tup ws) = H9 at *
      refine ⟨_,rfl,le0,fun e0 he0=>⟨u,e0,ws,rfl,rfl,(zc he0).sqT (SqT.of U9),SqT.of zb,_,rfl,?_⟩⟩
      have s9A:=zc (H:=H9) (o:=.tup []) he0
      have s7A:=s79.trans s9A
      have UA:=s9A _ _ U9
      have rA:=r9.same s9A
      generalize upd H9 e0 (.tup []) = HA at *
      have ee:(!ws.isEmpty) = (!(jI (zK J st ts) (zH J st ts) t).pk.isEmpty):=by
        have h0:ws.length = (jI (zK J st ts) (zH J st ts) t).pk.length:=by
          rw [wl]
          show _ = (((t.pk.filter fun p=>!zH J st ts p.1).map fun p=>(p.1,fdN (zK J st ts) p.1))).length
          rw [List.length_map]
        cases ws with
        | nil=>
          rw [show (jI (zK J st ts) (zH J st ts) t).pk = [] from List.length_eq_zero_iff.mp h0.symm]
          rfl
        | cons u us=>
          cases h1:(jI (zK J st ts) (zH J st ts) t).pk with
          | nil=>rw [h1] at h0;cases h0
          | cons=>rfl
      rw [ee]
      refine qO (fun cc=>?_) (fun cc=>?_)
      · have rA7:=s7A _ _ hr7
        refine ⟨_,rfl,.inl ⟨rfl,_,SqL.of rA7⟩,_,rfl,?_⟩
        have qcA:=s7A.sqT qc
        have rcA:=rc.same s7A
        have OA:=(s7.trans s7A) _ _ O6
        refine ⟨_,rfl,c',rfl,⟨_,qcA⟩,jP (K:=K) (a:=c') (xs:=vs) (fun j ws H8=>ws = zo ((t.ly.take j).filter fun p=>!zH J st ts p) /\ Same HA H8) ⟨rfl,Same.refl _⟩ (fun j ws H8 ⟨_,s8⟩=>s8.sqT qcA) ?_ ?_⟩
        · rintro j x ws2 HB hx ⟨rfl,sB⟩
          obtain ⟨d2,e2,r2⟩:=(rcA.same sB).get hx
          rw [List.getElem?_map] at e2
          obtain ⟨n,en,rfl⟩:=Option.map_eq_some_iff.mp e2
          cases (show x = .int (n:Int) from r2)
          have jl:=(List.getElem?_eq_some_iff.mp en).1
          obtain ⟨p,hp,epn⟩:=List.mem_map.mp (tok.ly.mem_iff.mp (List.mem_of_getElem? en))
          have hobn:n ∈ xm (zH J st ts) (zk ts) ↔ zH J st ts n = true:=by rw [<- epn];exact ob0 p (tin p hp)
          refine ⟨rfl,_,rfl,_,rfl,ot,_,rfl,.inl (SqL.of (sB _ _ OA)),rfl,qJ _,_,rfl,?_⟩
          rw [if_pos rfl,jU]
          cases e:zH J st ts n with
          | true=>
            refine ifF (by rw [decide_eq_true (hobn.mpr e)];rfl) ⟨?_,sB⟩
            rw [z7 _ en,e,if_neg (by simp),List.append_nil]
          | false=>
            refine ifT (by rw [decide_eq_false (fun z=>by rw [hobn.mp z] at e;cases e)];rfl) ⟨_,rfl,?_,?_,sB⟩
            · rw [zu]
              exact Nat.lt_of_le_of_lt (List.length_filter_le _ _) (by rw [List.length_take];omega)
            · rw [z7 _ en,e,if_pos (by simp),qg]
        rintro ws2 HB ⟨eB,sB⟩
        rw [lc,List.take_length] at eB
        subst eB
        have wl2:=List.length_filter_le (fun p=>!zH J st ts p) t.ly
        refine ⟨by rw [zu];omega,fun l5 hl5=>⟨l5,_,rfl,.inl ⟨SqL.of zb,fun u2 hu2=>⟨le2,fun q hq=>?_⟩⟩⟩⟩
        have sC:=(zc (H:=HB) (o:=.lst (zo (t.ly.filter fun p=>!zH J st ts p))) hl5).trans (zc (o:=.tup (zo (t.ly.filter fun p=>!zH J st ts p))) hu2)
        have sD:=sC.trans (zc (o:=.tup [.ref u,.ref u2]) hq)
        have sAD:=sB.trans sD
        have s7D:=s7A.trans sAD
        have hrD:=s7D _ _ hr7
        have rt:Rep K (upd (upd (upd HB l5 (.lst (zo (t.ly.filter fun p=>!zH J st ts p)))) u2 (.tup (zo (t.ly.filter fun p=>!zH J st ts p)))) q (.tup [.ref u,.ref u2])) (qr (jI (zK J st ts) (zH J st ts) t)) (.ref q):=
          ⟨q,_,rfl,SqT.of zb,_,_,rfl,⟨u,ws,rfl,SqT.of (sAD _ _ UA),rA.same sAD⟩,_,_,rfl,⟨u2,_,rfl,SqT.of ((zc hq) _ _ zb),xS _⟩,rfl⟩
        have rz2:=rz.same s7D
        have s6D:=s7.trans s7D
        generalize upd (upd (upd HB l5 (.lst (zo (t.ly.filter fun p=>!zH J st ts p)))) u2 (.tup (zo (t.ly.filter fun p=>!zH J st ts p)))) q (.tup [.ref u,.ref u2]) = HD at *
        refine ⟨tr,zs,.ref q,rfl,rfl,hrD,by omega,_,_,_,_,zs ++ [.ref q],rfl,s6D.put htr,zb,?_⟩
        rw [mts,if_pos cc,List.map_append]
        exact (rz2.snoc rt).keep (SameT.put hrD) (by rw [<- List.map_append];exact qY _)
      · refine ⟨_,_,_,_,zs,rfl,s7.trans s7A,s7A _ _ hr7,?_⟩
        rw [mts,if_neg cc,List.append_nil]
        exact rz.same s7A
    rintro σ H7 ⟨v9,v10,v11,v12,zs,rfl,s7,hr7,rz⟩
    rw [ll,List.take_length] at rz
    have hpk7:=(s46.trans s7) _ _ hpk4
    have rp7:=rp4.same (s46.trans s7)
    have O7:=s7 _ _ O6
    have ml:∀ i,(jH (zK J st ts) (zH J st ts) ((zk ts).take i)).length <= ((zk ts).take i).length:=fun i=>by
      unfold jH
      rw [List.length_map]
      exact List.length_filter_le _ _
    refine ⟨_,rfl,pk,rfl,⟨_,SqL.of hpk7⟩,qH (K:=K) (a:=pk) (xs:=ys) (fun i zs H8=>zs = zo (jH (zK J st ts) (zH J st ts) ((zk ts).take i)) /\ Same H7 H8) ⟨rfl,Same.refl _⟩ (fun i zs H8 ⟨_,s8⟩=>SqL.of (s8 _ _ hpk7)) ?_ ?_⟩
    · rintro i x ws H8 hx ⟨rfl,s8⟩
      obtain ⟨dd,ed,rd⟩:=(rp7.same s8).get hx
      rw [List.getElem?_map] at ed
      obtain ⟨p,ep,rfl⟩:=Option.map_eq_some_iff.mp ed
      obtain ⟨pa,rfl,qp⟩:=qD rd
      have il:=(List.getElem?_eq_some_iff.mp ep).1
      have pin:=List.mem_of_getElem? ep
      have mli:=ml i
      rw [List.length_take] at mli
      have ft:jH (zK J st ts) (zH J st ts) ((zk ts).take (i + 1)) = jH (zK J st ts) (zH J st ts) ((zk ts).take i) ++ (if (!zH J st ts p.1 && decide (fdN (zK J st ts) p.1 ≠ p.2)) = true then [p.1] else []):=by
        unfold jH
        rw [z7 _ ep,List.map_append]
        split <;> rfl
      refine ⟨pa,_,rfl,qp,rfl,_,_,rfl,_,_,rfl,rfl,rfl,_,rfl,_,rfl,ot,_,rfl,.inl (SqL.of (s8 _ _ O7)),rfl,qJ _,_,rfl,?_⟩
      rw [if_pos rfl,jU]
      cases e:zH J st ts p.1 with
      | true=>
        refine ifF (by rw [decide_eq_true ((ob0 p pin).mpr e)];rfl) (ifF rfl ⟨?_,s8⟩)
        rw [ft,e,if_neg (by simp),List.append_nil]
      | false=>
        refine ifT (by rw [decide_eq_false (fun z=>by rw [(ob0 p pin).mp z] at e;cases e)];rfl) ?_
        refine ⟨_,rfl,_,rfl,d,.int (fdN (zK J st ts) p.1:Int),rfl,dget (s7.trans s8) pin e,_,rfl,rfl,_,rfl,?_⟩
        by_cases e2:fdN (zK J st ts) p.1 = p.2
        · refine ifF (by rw [e2,decide_eq_true rfl];rfl) ⟨?_,s8⟩
          rw [ft,e,if_neg (by simp [e2]),List.append_nil]
        · refine ifT (by rw [decide_eq_false (show ¬ V.int (fdN (zK J st ts) p.1:Int) = V.int (p.2:Int) from fun z=>e2 (Int.ofNat.inj (V.int.inj z)))];rfl) ⟨_,rfl,?_,?_,s8⟩
          · rw [zu];omega
          · rw [ft,e,if_pos (by simp [e2]),qg]
    rintro ws H8 ⟨e8,s8⟩
    rw [lp,List.take_length] at e8
    subst e8
    have mla:=ml (zk ts).length
    rw [List.take_length] at mla
    refine ⟨by rw [zu];omega,fun mv hmv=>?_⟩
    have M9:upd H8 mv (.lst (zo (jH (zK J st ts) (zH J st ts) (zk ts)))) mv = some (.lst (zo (jH (zK J st ts) (zH J st ts) (zk ts)))):=zb
    have s79:=s8.trans (zc (H:=H8) (o:=.lst (zo (jH (zK J st ts) (zH J st ts) (zk ts)))) hmv)
    generalize upd H8 mv (.lst (zo (jH (zK J st ts) (zH J st ts) (zk ts)))) = H9 at *
    refine ⟨_,rfl,_,rfl,mv,nI (jH (zK J st ts) (zH J st ts) (zk ts)),rfl,by rw [YT];exact SqL.of M9,by rw [vW];omega,fun a2 m2 ha2 pm2 pw2=>?_⟩
    have sA:=zc (H:=H9) (o:=.lst (m2.map V.int)) ha2
    refine ⟨_,rfl,ot,nI (xm (zH J st ts) (zk ts)),rfl,by rw [YT];exact SqL.of (sA _ _ (s79 _ _ O7)),by rw [vW];omega,fun a3 m3 ha3 pm3 pw3=>⟨by show 3 <= _;omega,fun q hq=>?_⟩⟩
    have sB:=zc (H:=upd H9 a2 (.lst (m2.map V.int))) (o:=.lst (m3.map V.int)) ha3
    have sC:=zc (H:=upd (upd H9 a2 (.lst (m2.map V.int))) a3 (.lst (m3.map V.int))) (o:=.tup [.ref tr,.ref a2,.ref a3]) hq
    have s7C:=s79.trans (sA.trans (sB.trans sC))
    refine k q _ (s06.trans (s7.trans s7C)) ⟨q,_,rfl,SqT.of zb,_,_,rfl,⟨tr,zs,rfl,SqL.of (s7C _ _ hr7),rz.same s7C⟩,_,_,rfl,⟨a2,_,rfl,SqL.of (sC _ _ (sB _ _ zb)),?_⟩,_,_,rfl,⟨a3,_,rfl,SqL.of (sC _ _ zb),?_⟩,rfl⟩
    · rw [Zv pm2 pw2];exact jL _
    · rw [Zv pm3 pw3];exact jL _
end
theorem jy {α:Type} {f:α -> Dat}:∀ {l:List α},(∀ a ∈ l,(f a).shw = true) -> Dat.shws (l.map f) = true
  | [],_=>rfl
  | a :: l,h=>by
    show ((f a).shw && Dat.shws (l.map f)) = true
    rw [h a (by simp),jy fun b hb=>h b (List.mem_cons_of_mem _ hb)]
    rfl
theorem jD {α:Type} {f:α -> Dat} {c:Nat}:∀ {l:List α},(∀ a ∈ l,(f a).blk <= c) -> Dat.blks (l.map f) <= (c + 1) * l.length
  | [],_=>Nat.zero_le _
  | a :: l,h=>by
    show (f a).blk + 1 + Dat.blks (l.map f) <= _
    have h1:=h a (by simp)
    have h2:=jD (f:=f) (c:=c) (l:=l) fun b hb=>h b (List.mem_cons_of_mem _ hb)
    rw [List.length_cons,Nat.mul_succ]
    omega
theorem jB {α:Type} {f:α -> Dat} {c:Nat} (h:∀ a,(f a).py.depth <= c):∀ l:List α,PyData.depthAll (Dat.pys (l.map f)) <= c
  | []=>Nat.zero_le _
  | a :: l=>by
    have h1:=h a
    have h2:=jB h l
    show max (PyData.depth (f a).py) (PyData.depthAll (Dat.pys (l.map f))) <= c
    omega
theorem jx {i:Int} (h:-1000000 <= i) (h':i <= 1000000):Dat.shw (.int i) = true:=decide_eq_true (by omega)
theorem WI {x:Str} (h:Nm x):Dat.shw (.str x) = true:=List.all_eq_true.mpr fun c hc=>decide_eq_true (h.2 c hc)
theorem WJ {x:Str} (h:Nm x):Dat.blk (.str x) <= 8:=h.1
theorem Jb {x y:Int} (h:inP x y):Dat.shw (.tup [.int x,.int y]) = true:=by
  unfold inP at h
  show (Dat.shw (.int x) && (Dat.shw (.int y) && true)) = true
  rw [jx (by omega) (by omega),jx (by omega) (by omega)]
  rfl
theorem Y3 {J:Job} {ord:List Nat} (jo:JobOk J ord):(jQ J).shw = true:=by
  have hd0:=jo.hd0
  have hd1:=jo.hd1
  show (Dat.shw (.tup [.int J.gx,.int J.gy]) && (Dat.shw (.int J.hd) && (Dat.shws (J.fs.map jJ) && (Dat.shws (J.ps.map jf) && (Dat.shws (J.as.map zZ) && true))))) = true
  rw [Jb jo.gate,jx (by omega) (by omega),jy,jy,jy]
  · rfl
  · intro p hp
    have h1:=List.mem_range.mp (jo.op.mem_iff.mp (jo.bo.mem1 hp))
    have h2:=List.mem_range.mp (jo.op.mem_iff.mp (jo.bo.mem2 hp))
    have pl:=jo.pl
    show (Dat.shw (.int (p.1:Int)) && (Dat.shw (.int (p.2:Int)) && true)) = true
    rw [jx (by omega) (by omega),jx (by omega) (by omega)]
    rfl
  · intro p hp
    obtain ⟨h1,h2,_⟩:=jo.pa p hp
    show (Dat.shw (.str p.k) && (Dat.shw (.tup [.int p.x,.int p.y]) && true)) = true
    rw [WI h1,Jb h2]
    rfl
  · intro p hp
    obtain ⟨h1,h2,h3,h4⟩:=jo.fa p hp
    show (Dat.shw (.str p.k) && (Dat.shw (.tup [.int p.x,.int p.y]) && (Dat.shw (.int p.m) && true))) = true
    rw [WI h1,Jb h2,jx (by omega) (by omega)]
    rfl
theorem Y5 {J:Job} {ord:List Nat} (jo:JobOk J ord):(jQ J).blk <= 10000:=by
  have h1:=jD (f:=jJ) (c:=20) (l:=J.fs) fun p hp=>by
    have:=WJ (jo.fa p hp).1
    show Dat.blk (.str p.k) + 1 + (0 + 1 + (0 + 1 + 0) + 1 + (0 + 1 + 0)) <= 20
    omega
  have h2:=jD (f:=jf) (c:=20) (l:=J.ps) fun p hp=>by
    have:=WJ (jo.pa p hp).1
    show Dat.blk (.str p.k) + 1 + (0 + 1 + (0 + 1 + 0) + 1 + 0) <= 20
    omega
  have h3:=jD (f:=zZ) (c:=20) (l:=J.as) fun p hp=>by
    show 0 + 1 + (0 + 1 + 0) <= 20
    omega
  have fl:=jo.fl
  have pl:=jo.pl
  have al:=jo.al
  show 0 + 1 + (0 + 1 + 0) + 1 + (0 + 1 + (Dat.blks (J.fs.map jJ) + 1 + (Dat.blks (J.ps.map jf) + 1 + (Dat.blks (J.as.map zZ) + 1 + 0)))) <= 10000
  omega
theorem Y4 (J:Job):(jQ J).py.depth <= 20:=by
  have h1:=jB (f:=jJ) (c:=10) (fun p=>by
    show PyData.depth (.tuple [.str p.k,.tuple [.int p.x,.int p.y],.int p.m]) <= 10
    simp [PyData.depth,PyData.depthAll]) J.fs
  have h2:=jB (f:=jf) (c:=10) (fun p=>by
    show PyData.depth (.tuple [.str p.k,.tuple [.int p.x,.int p.y]]) <= 10
    simp [PyData.depth,PyData.depthAll]) J.ps
  have h3:=jB (f:=zZ) (c:=10) (fun p=>by
    show PyData.depth (.tuple [.int p.1,.int p.2]) <= 10
    simp [PyData.depth,PyData.depthAll]) J.as
  show PyData.depth (.tuple [.tuple [.int J.gx,.int J.gy],.int J.hd,.tuple (Dat.pys (J.fs.map jJ)),.tuple (Dat.pys (J.ps.map jf)),.tuple (Dat.pys (J.as.map zZ))]) <= 20
  simp only [PyData.depth,PyData.depthAll]
  omega
def Wo (ts:List zN):Dat:=.lst (ts.map qr)
theorem Wn (ts:List zN):(Wo ts).py.depth <= 30:=by
  have h2:=jB (f:=qr) (c:=20) (fun t=>by
    have h3:=jB (f:=zZ) (c:=10) (fun p=>by
      show PyData.depth (.tuple [.int p.1,.int p.2]) <= 10
      simp [PyData.depth,PyData.depthAll]) t.pk
    have h4:=jB (f:=wW) (c:=10) (fun p=>by
      show PyData.depth (.int p) <= 10
      simp [PyData.depth]) t.ly
    show PyData.depth (.tuple [.tuple (Dat.pys (t.pk.map zZ)),.tuple (Dat.pys (t.ly.map wW))]) <= 20
    simp only [PyData.depth,PyData.depthAll]
    omega) ts
  show PyData.depth (.list (Dat.pys (ts.map qr))) <= 30
  simp only [PyData.depth,PyData.depthAll]
  omega
theorem MOk.t100 {J:Job} {ord os:List Nat} {ts:List zN} (m:MOk J ord os ts):∀ t ∈ ts,t.pk.length <= 4 /\ t.ly.length <= 4 /\ (∀ p ∈ t.pk,p.1 < 100 /\ p.2 < 100) /\ ∀ k ∈ t.ly,k < 100:=fun t ht=>by
  have tok:=m.po.tr t ht
  have p2:=tok.p2
  have hd:=m.jo.hd1
  have l:=tok.ly.length_eq
  rw [List.length_map] at l
  have pl:=m.jo.pl
  have fl:=m.jo.fl
  have okp:∀ p ∈ t.pk,p.1 < 100 /\ p.2 < 100:=fun p hp=>by
    have:=m.ok p (List.mem_flatMap.mpr ⟨t,ht,hp⟩)
    omega
  refine ⟨by omega,by omega,okp,fun k hk=>?_⟩
  obtain ⟨p,hp,rfl⟩:=List.mem_map.mp (tok.ly.mem_iff.mp hk)
  exact (okp p hp).1
def zc4 (n:Nat) (st:Nat -> Int):Dat:=.lst ((List.range n).map fun k=>Dat.int (st k))
def x8 (J:Job) (ts:List zN) (st:Nat -> Int):Dat:=.lst [jQ J,Wo ts,zc4 J.fs.length st]
theorem Vb {J:Job} {ord os:List Nat} {ts:List zN} {st:Nat -> Int} (m:MOk J ord os ts) (h:∀ k,0 <= st k /\ st k <= 1000):(x8 J ts st).shw = true:=by
  show ((jQ J).shw && (Dat.shws (ts.map qr) && (Dat.shws ((List.range J.fs.length).map fun k=>Dat.int (st k)) && true))) = true
  rw [Y3 m.jo,jy fun t ht=>?_,jy fun k _=>?_]
  · rfl
  · have:=h k
    exact jx (by omega) (by omega)
  · obtain ⟨_,_,h1,h2⟩:=m.t100 t ht
    show (Dat.shws (t.pk.map zZ) && (Dat.shws (t.ly.map wW) && true)) = true
    rw [jy,jy]
    · rfl
    · intro k hk
      have:=h2 k hk
      exact jx (by omega) (by omega)
    · intro p hp
      have:=h1 p hp
      show (Dat.shw (.int (p.1:Int)) && (Dat.shw (.int (p.2:Int)) && true)) = true
      rw [jx (by omega) (by omega),jx (by omega) (by omega)]
      rfl
theorem Vd {J:Job} {ord os:List Nat} {ts:List zN} {st:Nat -> Int} (m:MOk J ord os ts):(x8 J ts st).blk <= 1048576:=by
  have h1:=Y5 m.jo
  have h2:=jD (f:=qr) (c:=100) (l:=ts) fun t ht=>by
    obtain ⟨l1,l2,_⟩:=m.t100 t ht
    have h3:=jD (f:=zZ) (c:=5) (l:=t.pk) fun p hp=>by
      show 0 + 1 + (0 + 1 + 0) <= 5
      omega
    have h4:=jD (f:=wW) (c:=1) (l:=t.ly) fun p hp=>by
      show 0 <= 1
      omega
    show Dat.blks (t.pk.map zZ) + 1 + (Dat.blks (t.ly.map wW) + 1 + 0) <= 100
    omega
  have h5:=jD (f:=fun k=>Dat.int (st k)) (c:=1) (l:=List.range J.fs.length) fun p hp=>by
    show 0 <= 1
    omega
  rw [List.length_range] at h5
  have tl:=m.po.len
  have fl:=m.jo.fl
  show (jQ J).blk + 1 + (Dat.blks (ts.map qr) + 1 + (Dat.blks ((List.range J.fs.length).map fun k=>Dat.int (st k)) + 1 + 0)) <= _
  omega
theorem Vc (J:Job) (ts:List zN) (st:Nat -> Int):(x8 J ts st).py.depth <= 60:=by
  have h1:=Y4 J
  have h2:=Wn ts
  have h3:=jB (f:=fun k=>Dat.int (st k)) (c:=10) (fun p=>by
    show PyData.depth (.int (st p)) <= 10
    simp [PyData.depth]) (List.range J.fs.length)
  show PyData.depth (.list [(jQ J).py,(Wo ts).py,.list (Dat.pys ((List.range J.fs.length).map fun k=>Dat.int (st k)))]) <= 60
  simp only [PyData.depth,PyData.depthAll]
  omega
theorem YV {J:Job} {ord os:List Nat} {ts:List zN} (m:MOk J ord os ts) (fd:List (Nat × Option Nat)) (ob:Nat -> Bool):Dat.ok 5 (J7 fd ob ts):=by
  have okI:∀ l:List Nat,l.length <= 60 -> Dat.ok 4 (.lst ((srt (nI l)).map Dat.int)):=fun l hl=>by
    refine ⟨?_,fun d hd=>?_⟩
    · rw [List.length_map,(Z5 (nI l)).length_eq,vW]
      omega
    · obtain ⟨k,_,rfl⟩:=List.mem_map.mp hd
      trivial
  have al:=m.brk.al
  have tl:=m.po.len
  refine ⟨show 3 <= 1000000 by decide,fun d hd=>?_⟩
  rcases List.mem_cons.mp hd with rfl | hd
  · refine ⟨?_,fun e he=>?_⟩
    · rw [List.length_map]
      unfold jX
      refine Nat.le_trans (List.length_filter_le _ _) ?_
      rw [List.length_map]
      omega
    · obtain ⟨t',ht',rfl⟩:=List.mem_map.mp he
      unfold jX at ht'
      obtain ⟨t,ht,rfl⟩:=List.mem_map.mp (List.mem_filter.mp ht').1
      obtain ⟨h1,h2,_⟩:=m.t100 t ht
      refine ⟨show 2 <= 1000000 by decide,fun g hg=>?_⟩
      rcases List.mem_cons.mp hg with rfl | hg
      · refine ⟨?_,fun z hz=>?_⟩
        · rw [List.length_map]
          show (((t.pk.filter fun p=>!ob p.1).map fun p=>(p.1,fdN fd p.1))).length <= _
          rw [List.length_map]
          exact Nat.le_trans (List.length_filter_le _ _) (by omega)
        · obtain ⟨p,_,rfl⟩:=List.mem_map.mp hz
          refine ⟨show 2 <= 1000000 by decide,fun z hz=>?_⟩
          rcases List.mem_cons.mp hz with rfl | hz
          · trivial
          · rw [List.mem_singleton.mp hz];trivial
      · rw [List.mem_singleton.mp hg]
        refine ⟨?_,fun z hz=>?_⟩
        · rw [List.length_map]
          exact Nat.le_trans (List.length_filter_le _ _) (by omega)
        · obtain ⟨p,_,rfl⟩:=List.mem_map.mp hz
          trivial
  · rcases List.mem_cons.mp hd with rfl | hd
    · refine okI _ ?_
      unfold jH
      rw [List.length_map]
      exact Nat.le_trans (List.length_filter_le _ _) al
    · rw [List.mem_singleton.mp hd]
      refine okI _ ?_
      unfold xm
      refine Nat.le_trans (List.length_filter_le _ _) ?_
      rw [List.length_map]
      exact al
section
variable {P:Program} {w:World} {K:PySem.W.Frag} {mg:Str -> Option Value} {base:Heap}
theorem Z4 {H:Hp} (st:Nat -> Int):∀ l:List Nat,Reps K H (l.map fun k=>Dat.int (st k)) (l.map fun k=>V.int (st k))
  | []=>rfl
  | k :: l=>⟨_,_,rfl,rfl,Z4 st l⟩
theorem MTold.rep {H H':Hp} {q a1 a2 a3:Addr} {xs:List V} {fd:List (Nat × Option Nat)} {ob:Nat -> Bool} {ts:List zN} (m:MTold K H H' q a1 a2 a3 xs fd ob ts):Rep K H' (J7 fd ob ts) (.ref q):=
  ⟨q,_,rfl,m.q,_,_,rfl,⟨a1,xs,rfl,SqL.of m.h1,m.r1⟩,_,_,rfl,⟨a2,_,rfl,SqL.of m.h2,jL _⟩,_,_,rfl,⟨a3,_,rfl,SqL.of m.h3,jL _⟩,rfl⟩
inductive V5 (K:PySem.W.Frag) (vs:List V) (H:Hp) (Q:VK):Prop
  | mk (b:Addr) (n:Int) (_:vs = [.ref b]) (_:BoxAt H b n) (_:n < 100000) (_:∀ (q jp l c:Addr) (J:Job) (ord os:List Nat) (xs:List V) (ts:List zN) (st:Nat -> Int) H',SameB b H H' -> BoxAt H' b (n + 6000) -> SqT K H' q [.ref jp,.ref l,.ref c] -> Rep K H' (jQ J) (.ref jp) -> H' l = some (.lst xs) -> Reps K H' (ts.map qr) xs -> MOk J ord os ts -> H' c = some (.lst (qB J.fs.length st)) -> (∀ k,0 <= st k /\ st k <= 1000) -> Q (.ref q) H'):V5 K vs H Q
def zaZ (K:PySem.W.Frag):Sp:=fun vs H Q _=>V5 K vs H Q
theorem zb7:zy ["_law_box_here", "_law_few", "_law_most", "_law_job_here", "_law_plan_here"] ["_law_box_here"] (zt (zp 36)):=⟨rfl,rfl,rfl,by decide +kernel,rfl,by decide +kernel,by decide +kernel⟩
def X0 (b:_) (H:_) (n:_):=fun (σ':St) (H':Hp)=>(Ex2 fun (few most:Int)=>An7 (σ' = [some (.ref b),some (.int few),some (.int most),none,none]) (0 <= few) (few <= 60) (0 <= most) (most <= 60) (SameB b H H') (BoxAt H' b (n + 1)):Prop)
theorem zcu {f:Addr} {fd:FuncData} (F:Fun K "_law_broken" "_law_broken" (zp 36) f fd) (B:Blt mg) (D_take:Dfn P w K mg base "_law_take" 1 ["_law_box_here", "_law_size"] jE) (D_job:Dfn P w K mg base "_law_job" 4 ["_law_box_here", "_law_few", "_law_most", "_law_plenty"] (V0 K)) (D_plan:Dfn P w K mg base "_law_plan" 4 ["_law_box_here", "_law_job_here", "_law_most"] (Q3 K)) (D_stock_now:Dfn P w K mg base "_law_stock_now" 2 ["_law_box_here", "_law_job_here", "_law_plan_here"] (zaS K)):qA P w K mg base CX0 5 f fd ["_law_box_here"] (zaZ K):=by
  have nd:=zb7.nd
  refine F.ok zb7 (fun vs H Q E h=>?_) (fun cdv A outer s H vs Q E hr h=>?_)
  · obtain ⟨b,n,rfl,_⟩:=h
    rfl
  · obtain ⟨b,n,rfl,B0,hn,k⟩:=h
    have hbig:1000000 < sizeLine:=by rw [sizeLine_eq];decide
    refine ⟨_,(ze (xQ (jm (j8 (zw jg (zj D_take (hr.mono (by decide)) rfl (za (pv 0) (za zg zd))) zg (zB _)) (zO (za zg (za zg zd))) (zO (za zg (za zg zd)))) (qx rfl (zq (zn (i:=1) nd rfl (Or.inl rfl)) (zq (zn (i:=2) nd rfl (Or.inl rfl)) zS)))))
      (ze (zv (i:=3) nd rfl (Or.inl rfl) (zj D_job (hr.mono (by decide)) rfl (za (pv 0) (za (pv 1) (za (pv 2) (za (qN jg (zj D_take (hr.mono (by decide)) rfl (za (pv 0) (za zg zd))) zg (zB _)) zd))))))
      (ze (zv (i:=4) nd rfl (Or.inl rfl) (zj D_plan (hr.mono (by decide)) rfl (za (pv 0) (za (pv 3) (za (zx zD (zJ (za zg (za zg (za zg zd)))) (zj D_take (hr.mono (by decide)) rfl (za (pv 0) (za zg zd))) (fun _ _=>rfl)) zd)))))
      (zm (zE (zO (za (pv 3) (za (pv 4) (za (zj D_stock_now (hr.mono (by decide)) rfl (za (pv 0) (za (pv 3) (za (pv 4) zd)))) zd))))))))),?_⟩
    refine ⟨X0 b H n,?_,?_⟩
    · refine ⟨_,rfl,b,16,n,rfl,B0,by omega,by decide,by decide,fun r H1 r0 r1 B1 S1=>⟨rfl,_,rfl,qO (fun c=>⟨le2,fun T hT=>⟨T,_,rfl,SqT.of zb,rfl,_,_,rfl,_,_,rfl,rfl,60,60,rfl,by decide,by decide,by decide,by decide,S1.new hT,B1.new hT⟩⟩) (fun c=>⟨le2,fun T hT=>⟨T,_,rfl,SqT.of zb,rfl,_,_,rfl,_,_,rfl,rfl,8,24,rfl,by decide,by decide,by decide,by decide,S1.new hT,B1.new hT⟩⟩)⟩⟩
    rintro σ' H1 ⟨few,most,rfl,f0,f1,m0,m1,S1,B1⟩
    refine ⟨_,rfl,_,rfl,_,rfl,_,rfl,b,2,_,rfl,B1,by omega,by decide,by decide,fun r H2 r0 r1 B2 S2=>⟨rfl,b,few,most,_,_,rfl,B2,by omega,f0,f1,m0,m1,fun jp J ord H3 S3 B3 rj jo=>?_⟩⟩
    have S3':=(S1.trans S2).trans S3
    refine ⟨_,rfl,_,rfl,by show 3 <= _;omega,fun l1 h1=>⟨_,rfl,b,3,_,rfl,B3.new h1,by omega,by decide,by decide,fun r2 H4 r20 r21 B4 S4=>?_⟩⟩
    have n1:=B3.nne h1
    have L4:=S4 l1 _ zb n1
    have S4':=(S3'.new (o:=.lst [.int 0,.int 0,.int 5]) h1).trans S4
    have rj4:=(rj.same (zc (o:=.lst [.int 0,.int 0,.int 5]) h1)).keep (SameT.draw (B3.new h1) S4) (vz J)
    obtain ⟨mo,emo,mo0,mo1⟩:∃ mo:Int,atI [V.int 0,V.int 0,V.int 5] r2 = some (.int mo) /\ 0 <= mo /\ mo <= 100:=by
      have hc:r2 = 0 \/ r2 = 1 \/ r2 = 2:=by omega
      rcases hc with rfl | rfl | rfl
      · exact ⟨0,rfl,by decide,by decide⟩
      · exact ⟨0,rfl,by decide,by decide⟩
      · exact ⟨5,rfl,by decide,by decide⟩
    refine ⟨l1,_,_,_,rfl,rfl,SqL.of L4,emo,b,jp,J,ord,mo,_,rfl,B4,by omega,rj4,jo,mo0,mo1,fun lp os ts tr H5 S5 B5 nlp _ LP RT pm ob po=>?_⟩
    have rj5:=rj4.keep (SameT.draw B4 S5) (vz J)
    have mok:MOk J ord os ts:=⟨jo,po,pm⟩
    refine ⟨_,rfl,_,rfl,_,rfl,_,rfl,_,rfl,b,jp,lp,J,ord,os,tr,ts,_,rfl,B5,by omega,rj5,nlp,LP,RT,mok,fun c st H6 S6 B6 nc _ hc hst=>⟨by show 3 <= _;omega,fun q hq=>?_⟩⟩
    have T6:=SameT.draw B5 S6
    have sq:=zc (H:=H6) (o:=.tup [.ref jp,.ref lp,.ref c]) hq
    exact k q jp lp c J ord os tr ts st _ (((S4'.trans S5).trans S6).trans (SameB.of sq)) ((B6.same sq).mono (by omega)) (SqT.of zb) ((rj5.keep T6 (vz J)).same sq) (sq _ _ (S6 _ _ LP nlp)) ((RT.keep T6 (qY ts)).same sq) mok (sq _ _ hc) hst
end
section
variable {P:Program} {w:World} {K:PySem.W.Frag} {mg:Str -> Option Value} {base:Heap}
inductive yP (vs:List V) (H:Hp) (Q:VK):Prop
  | mk (b:Addr) (n:Int) (_:vs = [.ref b]) (_:BoxAt H b n) (_:n < 1000) (_:∀ H',SameB b H H' -> Q (.bl true) H'):yP  vs H Q
def Zz:Sp:=fun vs H Q _=>yP  vs H Q
theorem JL:zy ["_law_box_here", "_law_turn", "_law_job_here", "_law_plan_here", "_law_stock", "_law_kept", "_law_due", "_law_echo", "_law_found", "_law_some"] ["_law_box_here"] (zt (zp 37)):=⟨rfl,rfl,rfl,by decide +kernel,rfl,by decide +kernel,by decide +kernel⟩
def XZ (b:_) (H:_) (n:_):=fun (i:Nat) (σ:St) (H1:Hp)=>(Ex9 fun (v1 v2 v3 v4 v5 v6 v7 v8 v9:Option V)=>An3 (σ = [some (.ref b),v1,v2,v3,v4,v5,v6,v7,v8,v9]) (SameB b H H1) (BoxAt H1 b (n + 6000 * (i:Int))):Prop)
def XY (b:_) (i:Nat) (jp:_) (l:_) (c:_) (kept:_) (du:_) (H4:_):=fun (j:Nat) (σ:St) (H5:Hp)=>(Ex3 fun (v7 v8 v9:Option V)=>An2 (σ = [some (.ref b),some (.int (0 + (i:Int))),some (.ref jp),some (.ref l),some (.ref c),some (.str kept),some (.ref du),v7,v8,v9]) (Same H4 H5):Prop)
def XX (b:_) (i:Nat) (jp:_) (l:_) (c:_) (kept:_) (du:_) (j:Nat) (fq:_) (H4:_) (H8:_) (a1:_) (a2:_) (a3:_):=fun (m:Nat) (σ:St) (H9:Hp)=>(Ex1 fun (v9:Option V)=>An4 (σ = [some (.ref b),some (.int (0 + (i:Int))),some (.ref jp),some (.ref l),some (.ref c),some (.str kept),some (.ref du),some (.int (0 + (j:Int))),some (.ref fq),v9]) (Same H4 H9) (SameT H8 H9) (∀ a,a = a1 \/ a = a2 \/ a = a3 -> ∃ zs,H9 a = some (.lst zs) /\ zs.length <= 1000000 + m):Prop)
theorem WC {f:Addr} {fd:FuncData} (F:Fun K "_law_right" "_law_right" (zp 37) f fd) (B:Blt mg) (D_broken:Dfn P w K mg base "_law_broken" 5 ["_law_box_here"] (zaZ K)) (D_mended_due:Dfn P w K mg base "_law_mended_due" 3 ["_law_job_here", "_law_plan_here", "_law_stock"] (zaW K)) (Dmended_plan:Dfn P w K mg base "mended_plan" 5 ["job", "plan", "stock"] (zaV K)) (D_same:Dfn P w K mg base "_law_same" 6 ["_law_found", "_law_due"] (spS K 6)):qA P w K mg base CX0 7 f fd ["_law_box_here"] Zz:=by
  have nd:=JL.nd
  refine F.ok JL (fun vs H Q E h=>?_) (fun cdv A outer s H vs Q E hr h=>?_)
  · obtain ⟨b,n,rfl,_⟩:=h
    rfl
  · obtain ⟨b,n,rfl,B0,hn,k⟩:=h
    have hu64:=hr.units
    have hg:=hr.gd
    have hbig:1000000 < sizeLine:=by rw [sizeLine_eq];decide
    have e62:(2:Int) ^ 62 = 4611686018427387904:=by decide
    refine ⟨_,(ze (zU PassesOwn.never rfl (qe rfl B.range (za zg zd)) (zn (i:=1) nd rfl (Or.inl rfl))
      (ze (jm (zj D_broken (hr.mono (by decide)) rfl (za (pv 0) zd)) (qx rfl (zq (zn (i:=2) nd rfl (Or.inl rfl)) (zq (zn (i:=3) nd rfl (Or.inl rfl)) (zq (zn (i:=4) nd rfl (Or.inl rfl)) zS)))))
        (ze (Ja (i:=5) (j:=6) rfl nd rfl rfl (by decide) rfl rfl (za (zr (yi hg hu64) rfl B.repr Zj (za (zJ (za (pv 2) (za (pv 3) (za (pv 4) zd)))) zd)) (za (zj D_mended_due (hr.mono (by decide)) rfl (za (pv 2) (za (pv 3) (za (pv 4) zd)))) zd)) (by rfl))
        (zm (zU PassesOwn.never rfl (qe rfl B.range (za zg zd)) (zn (i:=7) nd rfl (Or.inl rfl))
        (ze (zv (i:=8) nd rfl (Or.inl rfl) (zj Dmended_plan (hr.mono (by decide)) rfl (za (pv 2) (za (pv 3) (za (pv 4) zd)))))
          (ze (jz (PW.pt (yV (Wl (xi (zj D_same (hr.mono (by decide)) rfl (za (pv 8) (za (pv 6) zd))))) (vR (zw Qm (zr (yi hg hu64) rfl B.repr Zj (za (zJ (za (pv 2) (za (pv 3) (za (pv 4) zd)))) zd)) (pv 5) (zB _)))))
          (zm (zE JY))
          qM)
          (zm (zU PassesOwn.never rfl (jN (pv 8)) (zn (i:=9) nd rfl (Or.inl rfl))
          (zm (qk (jn PySem.F.plainAttrs_list PySem.F.slot_list_append PySem.F.type_list_append zV (pv 9) (za zg zd)))))))))))))
      (zm (zE JY))),?_⟩
    refine ⟨2,rfl,by rw [e62];decide,by rw [e62];decide,qK (XZ b H n) ⟨_,_,_,_,_,_,_,_,_,rfl,SameB.refl b H,B0.mono (by omega)⟩ ?_ ?_⟩
    · rintro i σ H1 hi ⟨v1,v2,v3,v4,v5,v6,v7,v8,v9,rfl,S1,B1⟩
      have hi2:i < 2:=hi
      refine ⟨_,rfl,b,_,rfl,B1,by omega,fun q jp l c J ord os xs ts st H2 S2 B2 qq rj hl rl mo hc hst=>⟨q,_,rfl,qq,rfl,_,_,rfl,_,_,rfl,_,_,rfl,rfl,?_⟩⟩
      have shw:=Vb mo hst
      have blk:=Vd (st:=st) mo
      have dep:=Vc J ts st
      have okm:=YV mo (zK J st ts) (zH J st ts)
      have rep:∀ (H':Hp) (u:Addr),Same H2 H' -> H' u = some (.lst [.ref jp,.ref l,.ref c]) -> Rep K H' (x8 J ts st) (.ref u):=fun H' u s' e=>⟨u,_,rfl,SqL.of e,_,_,rfl,rj.same s',_,_,rfl,⟨l,xs,rfl,SqL.of (s' _ _ hl),rl.same s'⟩,_,_,rfl,⟨c,_,rfl,SqL.of (s' _ _ hc),Z4 st _⟩,rfl⟩
      refine ⟨_,rfl,_,rfl,_,rfl,by show 3 <= _;omega,fun u1 hu1=>⟨.ref u1,x8 J ts st,rfl,rep _ u1 (zc hu1) zb,shw,blk,dep,?_⟩⟩
      generalize hkept:(x8 J ts st).py.shown = kept
      have s3:=zc (H:=H2) (o:=.lst [.ref jp,.ref l,.ref c]) hu1
      generalize upd H2 u1 (.lst [.ref jp,.ref l,.ref c]) = H3 at s3
      refine ⟨_,rfl,_,rfl,_,rfl,jp,l,c,J,ord,os,xs,ts,st,rfl,rj.same s3,SqL.of (s3 _ _ hl),rl.same s3,mo,SqL.of (s3 _ _ hc),fun du H4 s4 rdu=>?_⟩
      have s24:=s3.trans s4
      refine ⟨_,_,rfl,2,rfl,by rw [e62];decide,by rw [e62];decide,qK (XY b i jp l c kept du H4) ⟨_,_,_,rfl,Same.refl _⟩ ?_ ?_⟩
      · rintro j σ H5 hj ⟨v7,v8,v9,rfl,s5⟩
        have s25:=s24.trans s5
        refine ⟨_,rfl,_,rfl,_,rfl,jp,l,c,J,ord,os,xs,ts,st,rfl,rj.same s25,SqL.of (s25 _ _ hl),rl.same s25,mo,SqL.of (s25 _ _ hc),fun fq a1 a2 a3 ws H6 mt=>?_⟩
        have s6:=mt.s
        refine ⟨_,rfl,_,rfl,J7 (zK J st ts) (zH J st ts) ts,.ref fq,.ref du,rfl,mt.rep,rdu.same (s5.trans s6),okm,fun H7 s7=>⟨_,rfl,ifF rfl ?_⟩⟩
        have s27:=s25.trans (s6.trans s7)
        refine ⟨_,rfl,_,rfl,_,rfl,by show 3 <= _;omega,fun u2 hu2=>⟨.ref u2,x8 J ts st,rfl,rep _ u2 (s27.trans (zc hu2)) zb,shw,blk,dep,_,rfl,rfl,_,rfl,ifF (by rw [hkept,decide_eq_true rfl];rfl) ?_⟩⟩
        have s78:=s7.trans (zc (H:=H7) (o:=.lst [.ref jp,.ref l,.ref c]) hu2)
        have s58:=s6.trans s78
        generalize upd H7 u2 (.lst [.ref jp,.ref l,.ref c]) = H8 at *
        have q8:=s78.sqT mt.q
        have hbig2:1000010 < sizeLine:=by rw [sizeLine_eq];decide
        have len:∀ a,a = a1 \/ a = a2 \/ a = a3 -> H4 a = none /\ ∃ zs,H8 a = some (.lst zs) /\ zs.length <= 1000000:=fun a ha=>by
          rcases ha with rfl | rfl | rfl
          · refine ⟨s5.free mt.f1,ws,s78 _ _ mt.h1,?_⟩
            have:=(okm.2 _ List.mem_cons_self).1
            rwa [<- mt.r1.len] at this
          · refine ⟨s5.free mt.f2,_,s78 _ _ mt.h2,?_⟩
            have:=(okm.2 _ (List.mem_cons_of_mem _ List.mem_cons_self)).1
            rw [List.length_map] at this ⊢
            exact this
          · refine ⟨s5.free mt.f3,_,s78 _ _ mt.h3,?_⟩
            have:=(okm.2 _ (List.mem_cons_of_mem _ (List.mem_cons_of_mem _ List.mem_cons_self))).1
            rw [List.length_map] at this ⊢
            exact this
        refine ⟨_,rfl,fq,rfl,⟨_,q8⟩,Xk (K:=K) (a:=fq) (xs:=[.ref a1,.ref a2,.ref a3]) (XX b i jp l c kept du j fq H4 H8 a1 a2 a3) ⟨_,rfl,s5.trans s58,SameT.refl _,fun a ha=>(len a ha).2⟩ (fun m σ H9 _ ⟨_,_,_,T9,_⟩=>q8.keep T9) ?_ ?_⟩
        · rintro m x σ H9 hx ⟨v9,rfl,s9,T9,hz⟩
          have hm:=(List.getElem?_eq_some_iff.mp hx).1
          have hm3:m < 3:=hm
          obtain ⟨a,rfl,ha⟩:∃ a,x = .ref a /\ (a = a1 \/ a = a2 \/ a = a3):=by
            match m,hm3,hx with
            | 0,_,hx=>cases hx;exact ⟨a1,rfl,.inl rfl⟩
            | 1,_,hx=>cases hx;exact ⟨a2,rfl,.inr (.inl rfl)⟩
            | 2,_,hx=>cases hx;exact ⟨a3,rfl,.inr (.inr rfl)⟩
          obtain ⟨zs,h9,zl⟩:=hz a ha
          refine ⟨_,rfl,.inl ⟨rfl,_,SqL.of h9⟩,a,zs,.int 0,rfl,rfl,h9,by omega,_,rfl,s9.put (len a ha).1,T9.trans (SameT.put h9),fun a' ha'=>?_⟩
          by_cases e:a' = a
          · subst e
            exact ⟨_,zb,by rw [List.length_append];show _ + 1 <= _;omega⟩
          · obtain ⟨zs',h9',zl'⟩:=hz a' ha'
            exact ⟨zs',by rw [zi e];exact h9',by omega⟩
        · rintro σ H9 ⟨v9,rfl,s9,T9,hz⟩
          exact ⟨_,_,_,rfl,s9⟩
      · rintro σ H5 ⟨v7,v8,v9,rfl,s5⟩
        exact ⟨_,_,_,_,_,_,_,_,_,rfl,(S1.trans S2).trans (SameB.of (s24.trans s5)),(B2.same (s24.trans s5)).mono (by omega)⟩
    · rintro σ H1 ⟨v1,v2,v3,v4,v5,v6,v7,v8,v9,rfl,S1,B1⟩
      exact k _ S1
end
inductive JB (K:PySem.W.Frag) (vs:List V) (H:Hp) (Q:VK):Prop
  | mk (a:Addr) (ns:List Int) (_:vs = [.ref a]) (_:SqL K H a (ns.map V.int)) (_:ns.length <= 63) (_:∀ H',Q (.bl true) H'):JB K vs H Q
def JC (K:PySem.W.Frag):Sp:=fun vs H Q _=>JB K vs H Q
section
variable {P:Program} {w:World} {K:PySem.W.Frag} {mg:Str -> Option Value} {base:Heap}
theorem zaq:zy ["_law_script", "_law_cells"] ["_law_script"] (zt (zp 38)):=⟨rfl,rfl,rfl,by decide +kernel,rfl,by decide +kernel,by decide +kernel⟩
theorem zbk {f:Addr} {fd:FuncData} (F:Fun K "law" "law" (zp 38) f fd) (B:Blt mg) (D_folded:Dfn P w K mg base "_law_folded" 1 ["_law_script", "_law_size"] (Q6 K)) (D_box:Dfn P w K mg base "_law_box" 1 ["_law_script", "_law_k"] (V4 K))
    (D_right:Dfn P w K mg base "_law_right" 7 ["_law_box_here"] Zz):qA P w K mg base CX0 8 f fd ["_law_script"] (JC K):=by
  have nd:=zaq.nd
  refine F.ok zaq (fun vs H Q E h=>?_) (fun cdv A outer s H vs Q E hr h=>?_)
  · obtain ⟨a,ns,rfl,_⟩:=h
    rfl
  · obtain ⟨a,ns,rfl,hS,hlen,k⟩:=h
    refine ⟨_,(ze (zv (i:=1) nd rfl (Or.inr rfl) (zj D_folded (hr.mono (by decide)) rfl (za (pv 0) (za zg zd))))
      (zm (zE (zr (Zi rfl) rfl B.all boot_all (za (jd ["_law_cells"] [1] rfl rfl (by kernel_rfl) (qe rfl B.range (za (zr (Zf rfl) rfl B.max QQ (za zg (za (zr zI rfl B.len boot_len (za (pv 1) zd)) zd))) zd)) (fun _ _ _ _=>qR) (fun _ _ _ _=>(zj D_right (hr.mono (by decide)) rfl (za (zj D_box (hr.mono (by decide)) rfl (za (pv 1) (za (pv 0) zd))) zd)))) zd))))),?_⟩
    refine ⟨_,rfl,a,ns,3,rfl,hS,hlen,by decide,by decide,fun p ms H1 s1 hp hm=>?_⟩
    have e62:(2:Int) ^ 62 = 4611686018427387904:=by decide
    have hl:(ms.map V.int).length <= 3:=by rw [List.length_map];exact hm
    refine ⟨_,rfl,p,_,rfl,.inl hp,_,_,rfl,_,rfl,(by rw [e62];split <;> omega),(by rw [e62];split <;> omega),?_⟩
    have hN:(if ((ms.map V.int).length:Int) > 2 then ((ms.map V.int).length:Int) else 2).toNat <= 8:=by split <;> omega
    have hbig:100 < sizeLine:=by rw [sizeLine_eq];decide
    refine w8 (fun i zs H2=>zs = List.replicate i (V.bl true) /\ Same H1 H2) ⟨rfl,Same.refl _⟩ ?_ ?_
    · rintro i zs H2 hi ⟨rfl,sm⟩
      rw [Int.zero_add]
      refine ⟨rfl,?_⟩
      refine ⟨_,rfl,_,rfl,p,ms,i,rfl,sm.seq hp,by omega,fun q o hq Bq=>⟨q,0,rfl,Bq,by decide,fun H3 s3=>⟨?_,?_,fun c u e=>?_⟩⟩⟩
      · rw [List.length_replicate];omega
      · rw [List.replicate_succ']
      · exact s3 c u ((zc hq) c u (sm c u e)) (zf (sm c u e) hq)
    · rintro zs H2 ⟨rfl,sm⟩
      refine ⟨by rw [List.length_replicate];omega,fun D hD=>⟨D,List.replicate (if ((ms.map V.int).length:Int) > 2 then ((ms.map V.int).length:Int) else 2).toNat true,rfl,?_,?_⟩⟩
      · refine SqL.of ?_
        rw [zb,List.map_replicate]
      · have:=k (upd H2 D (.lst (List.replicate (if ((ms.map V.int).length:Int) > 2 then ((ms.map V.int).length:Int) else 2).toNat (V.bl true))))
        simpa using this
end
inductive Fd (K:PySem.W.Frag) (nm:Str) (st:Stmt):Prop
  | mk (f:Addr) (fd:FuncData) (a:PySem.W.nsIn K mainGlobals nm = some (some (.ref f))) (F:Fun K nm nm st f fd):Fd K nm st
theorem fd_mk {K:PySem.W.Frag} {nm:Str} {st:Stmt} {f:Addr} {oc:Value} {od an:Option Addr} {osl:Array (Option Value)} {kV doc pm cdv ct:Value} (a:PySem.W.nsIn K mainGlobals nm = some (some (.ref f))) (l:K.lookup f = some ⟨oc,od,.func (PySem.W.fnOf nm nm (xp st) (jW st) (zt st) .none kV doc pm an cdv ct),osl⟩) (c:PySem.W.codeIn K cdv nm = true) (k:PySem.W.keepIn K (.ref f) = true):Fd K nm st:=⟨f,_,a,WZ l c k⟩
theorem all_mk {l:PySem.W.OpenLaw} {w:World} {K:PySem.W.Frag} {h:Heap} {mg:Str -> Option Value} {fa:Addr} (X:K.In h) (G:h.Ns mainGlobals mg) (hfa:mg "law" = some (.ref fa))
    {f35:Addr} {od35 an35:Option Addr} {sl35:Array (Option Value)} {oc35 kV35 dc35 pm35 cd35 ct35:Value}
    (h0:Fd K "turned" (zp 1))
    (h1:Fd K "next_by" (zp 2))
    (h2:Fd K "steps_from" (zp 3))
    (h3:Fd K "all_from" (zp 4))
    (h4:Fd K "ahead_of" (zp 5))
    (h5:Fd K "feeders_for" (zp 6))
    (h6:Fd K "picks_in" (zp 8))
    (h7:Fd K "staying_picks" (zp 9))
    (h8:Fd K "new_feeders" (zp 10))
    (h9:Fd K "dropped_parts" (zp 11))
    (h10:Fd K "mended_trip" (zp 12))
    (h11:Fd K "mended_plan" (zp 13))
    (h12:Fd K "_law_box" (zp 15))
    (h13:Fd K "_law_take" (zp 16))
    (h14:Fd K "_law_folded" (zp 17))
    (h15:Fd K "_law_same" (zp 18))
    (h16:Fd K "_law_spelled" (zp 19))
    (h17:Fd K "_law_name" (zp 20))
    (h18:Fd K "_law_names" (zp 21))
    (h19:Fd K "_law_place" (zp 22))
    (h20:Fd K "_law_places" (zp 23))
    (h21:Fd K "_law_shuffled" (zp 24))
    (h22:Fd K "_law_feeders" (zp 25))
    (h23:Fd K "_law_aheads" (zp 26))
    (h24:Fd K "_law_job" (zp 27))
    (h25:Fd K "_law_order" (zp 28))
    (h26:Fd K "_law_trip" (zp 29))
    (h27:Fd K "_law_plan" (zp 30))
    (h28:Fd K "_law_over" (zp 31))
    (h29:Fd K "_law_stock_now" (zp 32))
    (h30:Fd K "_law_all_picks" (zp 33))
    (h31:Fd K "_law_feeders_now" (zp 34))
    (h32:Fd K "_law_mended_due" (zp 35))
    (h33:Fd K "_law_broken" (zp 36))
    (h34:Fd K "_law_right" (zp 37))
    (a35:PySem.W.nsIn K mainGlobals "law" = some (some (.ref f35))) (l35:K.lookup f35 = some ⟨oc35,od35,.func (PySem.W.fnOf "law" "law" (xp (zp 38)) (jW (zp 38)) (zt (zp 38)) .none kV35 dc35 pm35 an35 cd35 ct35),sl35⟩) (c35:PySem.W.codeIn K cd35 "law" = true) (k35:PySem.W.keepIn K (.ref f35) = true)
    (z_abs:PySem.W.nsIn K mainGlobals "abs" = some none)
    (z_all:PySem.W.nsIn K mainGlobals "all" = some none)
    (z_any:PySem.W.nsIn K mainGlobals "any" = some none)
    (z_bool:PySem.W.nsIn K mainGlobals "bool" = some none)
    (z_dict:PySem.W.nsIn K mainGlobals "dict" = some none)
    (z_divmod:PySem.W.nsIn K mainGlobals "divmod" = some none)
    (z_enumerate:PySem.W.nsIn K mainGlobals "enumerate" = some none)
    (z_int:PySem.W.nsIn K mainGlobals "int" = some none)
    (z_isinstance:PySem.W.nsIn K mainGlobals "isinstance" = some none)
    (z_len:PySem.W.nsIn K mainGlobals "len" = some none)
    (z_list:PySem.W.nsIn K mainGlobals "list" = some none)
    (z_max:PySem.W.nsIn K mainGlobals "max" = some none)
    (z_min:PySem.W.nsIn K mainGlobals "min" = some none)
    (z_range:PySem.W.nsIn K mainGlobals "range" = some none)
    (z_repr:PySem.W.nsIn K mainGlobals "repr" = some none)
    (z_sorted:PySem.W.nsIn K mainGlobals "sorted" = some none)
    (z_str:PySem.W.nsIn K mainGlobals "str" = some none)
    (z_sum:PySem.W.nsIn K mainGlobals "sum" = some none)
    (z_tuple:PySem.W.nsIn K mainGlobals "tuple" = some none)
    (z_zip:PySem.W.nsIn K mainGlobals "zip" = some none)
    : ∃ fd:FuncData,(∀ (s:Shared) (v:Value),BindsTo s fd ⟨[v],[]⟩ [("_law_script",v)]) /\ ∀ base:Heap,K.In base -> base.Ns mainGlobals mg -> qA l.prog w K mg base CX0 8 fa fd ["_law_script"] (JC K):=by
  have e:=hfa.symm.trans (PySem.W.mg_of X G a35)
  cases e
  have B:Blt mg:=⟨PySem.W.mg_none_of X G z_abs,PySem.W.mg_none_of X G z_all,PySem.W.mg_none_of X G z_any,PySem.W.mg_none_of X G z_bool,PySem.W.mg_none_of X G z_dict,PySem.W.mg_none_of X G z_divmod,PySem.W.mg_none_of X G z_enumerate,PySem.W.mg_none_of X G z_int,PySem.W.mg_none_of X G z_isinstance,PySem.W.mg_none_of X G z_len,PySem.W.mg_none_of X G z_list,PySem.W.mg_none_of X G z_max,PySem.W.mg_none_of X G z_min,PySem.W.mg_none_of X G z_range,PySem.W.mg_none_of X G z_repr,PySem.W.mg_none_of X G z_sorted,PySem.W.mg_none_of X G z_str,PySem.W.mg_none_of X G z_sum,PySem.W.mg_none_of X G z_tuple,PySem.W.mg_none_of X G z_zip⟩
  obtain ⟨f0,g0,a0,F0⟩:=h0
  have b0:=F0.binds (ps:=["pairs"]) fun _ _ _ _ _ _ us hl=>by obtain ⟨_,rfl⟩:=y4 hl;rfl
  obtain ⟨f1,g1,a1,F1⟩:=h1
  have b1:=F1.binds (ps:=["pairs"]) fun _ _ _ _ _ _ us hl=>by obtain ⟨_,rfl⟩:=y4 hl;rfl
  obtain ⟨f2,g2,a2,F2⟩:=h2
  have b2:=F2.binds (ps:=["start", "rows"]) fun _ _ _ _ _ _ us hl=>by obtain ⟨_,_,rfl⟩:=jh hl;rfl
  obtain ⟨f3,g3,a3,F3⟩:=h3
  have b3:=F3.binds (ps:=["part", "rows"]) fun _ _ _ _ _ _ us hl=>by obtain ⟨_,_,rfl⟩:=jh hl;rfl
  obtain ⟨f4,g4,a4,F4⟩:=h4
  have b4:=F4.binds (ps:=["job", "part"]) fun _ _ _ _ _ _ us hl=>by obtain ⟨_,_,rfl⟩:=jh hl;rfl
  obtain ⟨f5,g5,a5,F5⟩:=h5
  have b5:=F5.binds (ps:=["job", "kind"]) fun _ _ _ _ _ _ us hl=>by obtain ⟨_,_,rfl⟩:=jh hl;rfl
  obtain ⟨f6,g6,a6,F6⟩:=h6
  have b6:=F6.binds (ps:=["plan"]) fun _ _ _ _ _ _ us hl=>by obtain ⟨_,rfl⟩:=y4 hl;rfl
  obtain ⟨f7,g7,a7,F7⟩:=h7
  have b7:=F7.binds (ps:=["plan", "stock"]) fun _ _ _ _ _ _ us hl=>by obtain ⟨_,_,rfl⟩:=jh hl;rfl
  obtain ⟨f8,g8,a8,F8⟩:=h8
  have b8:=F8.binds (ps:=["job", "plan", "stock"]) fun _ _ _ _ _ _ us hl=>by obtain ⟨_,_,_,rfl⟩:=wZ hl;rfl
  obtain ⟨f9,g9,a9,F9⟩:=h9
  have b9:=F9.binds (ps:=["job", "feeders"]) fun _ _ _ _ _ _ us hl=>by obtain ⟨_,_,rfl⟩:=jh hl;rfl
  obtain ⟨f10,g10,a10,F10⟩:=h10
  have b10:=F10.binds (ps:=["trip", "feeders", "dropped"]) fun _ _ _ _ _ _ us hl=>by obtain ⟨_,_,_,rfl⟩:=wZ hl;rfl
  obtain ⟨f11,g11,a11,F11⟩:=h11
  have b11:=F11.binds (ps:=["job", "plan", "stock"]) fun _ _ _ _ _ _ us hl=>by obtain ⟨_,_,_,rfl⟩:=wZ hl;rfl
  obtain ⟨f12,g12,a12,F12⟩:=h12
  have b12:=F12.binds (ps:=["_law_script", "_law_k"]) fun _ _ _ _ _ _ us hl=>by obtain ⟨_,_,rfl⟩:=jh hl;rfl
  obtain ⟨f13,g13,a13,F13⟩:=h13
  have b13:=F13.binds (ps:=["_law_box_here", "_law_size"]) fun _ _ _ _ _ _ us hl=>by obtain ⟨_,_,rfl⟩:=jh hl;rfl
  obtain ⟨f14,g14,a14,F14⟩:=h14
  have b14:=F14.binds (ps:=["_law_script", "_law_size"]) fun _ _ _ _ _ _ us hl=>by obtain ⟨_,_,rfl⟩:=jh hl;rfl
  obtain ⟨f15,g15,a15,F15⟩:=h15
  have b15:=F15.binds (ps:=["_law_found", "_law_due"]) fun _ _ _ _ _ _ us hl=>by obtain ⟨_,_,rfl⟩:=jh hl;rfl
  obtain ⟨f16,g16,a16,F16⟩:=h16
  have b16:=F16.binds (ps:=["_law_number", "_law_size"]) fun _ _ _ _ _ _ us hl=>by obtain ⟨_,_,rfl⟩:=jh hl;rfl
  obtain ⟨f17,g17,a17,F17⟩:=h17
  have b17:=F17.binds (ps:=["_law_box_here", "_law_taken"]) fun _ _ _ _ _ _ us hl=>by obtain ⟨_,_,rfl⟩:=jh hl;rfl
  obtain ⟨f18,g18,a18,F18⟩:=h18
  have b18:=F18.binds (ps:=["_law_box_here", "_law_many"]) fun _ _ _ _ _ _ us hl=>by obtain ⟨_,_,rfl⟩:=jh hl;rfl
  obtain ⟨f19,g19,a19,F19⟩:=h19
  have b19:=F19.binds (ps:=["_law_box_here", "_law_taken"]) fun _ _ _ _ _ _ us hl=>by obtain ⟨_,_,rfl⟩:=jh hl;rfl
  obtain ⟨f20,g20,a20,F20⟩:=h20
  have b20:=F20.binds (ps:=["_law_box_here", "_law_many"]) fun _ _ _ _ _ _ us hl=>by obtain ⟨_,_,rfl⟩:=jh hl;rfl
  obtain ⟨f21,g21,a21,F21⟩:=h21
  have b21:=F21.binds (ps:=["_law_box_here", "_law_some"]) fun _ _ _ _ _ _ us hl=>by obtain ⟨_,_,rfl⟩:=jh hl;rfl
  obtain ⟨f22,g22,a22,F22⟩:=h22
  have b22:=F22.binds (ps:=["_law_box_here", "_law_kinds", "_law_parts", "_law_plenty"]) fun _ _ _ _ _ _ us hl=>by obtain ⟨_,_,_,_,rfl⟩:=zaC hl;rfl
  obtain ⟨f23,g23,a23,F23⟩:=h23
  have b23:=F23.binds (ps:=["_law_box_here", "_law_many"]) fun _ _ _ _ _ _ us hl=>by obtain ⟨_,_,rfl⟩:=jh hl;rfl
  obtain ⟨f24,g24,a24,F24⟩:=h24
  have b24:=F24.binds (ps:=["_law_box_here", "_law_few", "_law_most", "_law_plenty"]) fun _ _ _ _ _ _ us hl=>by obtain ⟨_,_,_,_,rfl⟩:=zaC hl;rfl
  obtain ⟨f25,g25,a25,F25⟩:=h25
  have b25:=F25.binds (ps:=["_law_box_here", "_law_job_here"]) fun _ _ _ _ _ _ us hl=>by obtain ⟨_,_,rfl⟩:=jh hl;rfl
  obtain ⟨f26,g26,a26,F26⟩:=h26
  have b26:=F26.binds (ps:=["_law_box_here", "_law_picks"]) fun _ _ _ _ _ _ us hl=>by obtain ⟨_,_,rfl⟩:=jh hl;rfl
  obtain ⟨f27,g27,a27,F27⟩:=h27
  have b27:=F27.binds (ps:=["_law_box_here", "_law_job_here", "_law_most"]) fun _ _ _ _ _ _ us hl=>by obtain ⟨_,_,_,rfl⟩:=wZ hl;rfl
  obtain ⟨f28,g28,a28,F28⟩:=h28
  have b28:=F28.binds (ps:=["_law_many", "_law_aheads_here"]) fun _ _ _ _ _ _ us hl=>by obtain ⟨_,_,rfl⟩:=jh hl;rfl
  obtain ⟨f29,g29,a29,F29⟩:=h29
  have b29:=F29.binds (ps:=["_law_box_here", "_law_job_here", "_law_plan_here"]) fun _ _ _ _ _ _ us hl=>by obtain ⟨_,_,_,rfl⟩:=wZ hl;rfl
  obtain ⟨f30,g30,a30,F30⟩:=h30
  have b30:=F30.binds (ps:=["_law_plan_here"]) fun _ _ _ _ _ _ us hl=>by obtain ⟨_,rfl⟩:=y4 hl;rfl
  obtain ⟨f31,g31,a31,F31⟩:=h31
  have b31:=F31.binds (ps:=["_law_job_here", "_law_plan_here", "_law_stock"]) fun _ _ _ _ _ _ us hl=>by obtain ⟨_,_,_,rfl⟩:=wZ hl;rfl
  obtain ⟨f32,g32,a32,F32⟩:=h32
  have b32:=F32.binds (ps:=["_law_job_here", "_law_plan_here", "_law_stock"]) fun _ _ _ _ _ _ us hl=>by obtain ⟨_,_,_,rfl⟩:=wZ hl;rfl
  obtain ⟨f33,g33,a33,F33⟩:=h33
  have b33:=F33.binds (ps:=["_law_box_here"]) fun _ _ _ _ _ _ us hl=>by obtain ⟨_,rfl⟩:=y4 hl;rfl
  obtain ⟨f34,g34,a34,F34⟩:=h34
  have b34:=F34.binds (ps:=["_law_box_here"]) fun _ _ _ _ _ _ us hl=>by obtain ⟨_,rfl⟩:=y4 hl;rfl
  have F35:=WZ (st:=zp 38) l35 c35 k35
  refine ⟨PySem.W.fnOf "law" "law" (xp (zp 38)) (jW (zp 38)) (zt (zp 38)) .none kV35 dc35 pm35 an35 cd35 ct35,fun s v=>.of_eq rfl,fun base _ _=>?_⟩
  have D_turned:Dfn l.prog w K mg base "turned" 1 ["pairs"] (Zw K):=⟨_,_,Wz F0 B,PySem.W.mg_of X G a0,F0.kp,b0⟩
  have D_next_by:Dfn l.prog w K mg base "next_by" 1 ["pairs"] (Q5 K):=⟨_,_,YN F1 B,PySem.W.mg_of X G a1,F1.kp,b1⟩
  have D_steps_from:Dfn l.prog w K mg base "steps_from" 1 ["start", "rows"] (Zx K):=⟨_,_,WA F2 B,PySem.W.mg_of X G a2,F2.kp,b2⟩
  have D_all_from:Dfn l.prog w K mg base "all_from" 2 ["part", "rows"] (V6 K):=⟨_,_,zbo F3 B D_steps_from,PySem.W.mg_of X G a3,F3.kp,b3⟩
  have D_ahead_of:Dfn l.prog w K mg base "ahead_of" 3 ["job", "part"] (ZD K):=⟨_,_,WG F4 B D_turned D_next_by D_all_from,PySem.W.mg_of X G a4,F4.kp,b4⟩
  have D_feeders_for:Dfn l.prog w K mg base "feeders_for" 1 ["job", "kind"] (V1 K):=⟨_,_,zbm F5 B,PySem.W.mg_of X G a5,F5.kp,b5⟩
  have D_picks_in:Dfn l.prog w K mg base "picks_in" 1 ["plan"] (ZA K):=⟨_,_,zcn F6 B,PySem.W.mg_of X G a6,F6.kp,b6⟩
  have D_staying_picks:Dfn l.prog w K mg base "staying_picks" 2 ["plan", "stock"] (zaR K):=⟨_,_,zcl F7 B D_picks_in,PySem.W.mg_of X G a7,F7.kp,b7⟩
  have D_new_feeders:Dfn l.prog w K mg base "new_feeders" 3 ["job", "plan", "stock"] (zaT K):=⟨_,_,zco F8 B D_picks_in D_staying_picks D_feeders_for,PySem.W.mg_of X G a8,F8.kp,b8⟩
  have D_dropped_parts:Dfn l.prog w K mg base "dropped_parts" 4 ["job", "feeders"] (zaY K):=⟨_,_,zct F9 B D_ahead_of,PySem.W.mg_of X G a9,F9.kp,b9⟩
  have D_mended_trip:Dfn l.prog w K mg base "mended_trip" 1 ["trip", "feeders", "dropped"] (zaU K):=⟨_,_,zcp F10 B,PySem.W.mg_of X G a10,F10.kp,b10⟩
  have D_mended_plan:Dfn l.prog w K mg base "mended_plan" 5 ["job", "plan", "stock"] (zaV K):=⟨_,_,zcq F11 B D_picks_in D_new_feeders D_dropped_parts D_mended_trip,PySem.W.mg_of X G a11,F11.kp,b11⟩
  have D_law_box:Dfn l.prog w K mg base "_law_box" 1 ["_law_script", "_law_k"] (V4 K):=⟨_,_,zbn F12 B,PySem.W.mg_of X G a12,F12.kp,b12⟩
  have D_law_take:Dfn l.prog w K mg base "_law_take" 1 ["_law_box_here", "_law_size"] (jE):=⟨_,_,YJ F13 B,PySem.W.mg_of X G a13,F13.kp,b13⟩
  have D_law_folded:Dfn l.prog w K mg base "_law_folded" 1 ["_law_script", "_law_size"] (Q6 K):=⟨_,_,YO F14 B,PySem.W.mg_of X G a14,F14.kp,b14⟩
  have D_law_same:Dfn l.prog w K mg base "_law_same" 6 ["_law_found", "_law_due"] (spS K 6):=⟨_,_,J4 F15 B (PySem.W.mg_of X G a15) b15 6,PySem.W.mg_of X G a15,F15.kp,b15⟩
  have D_law_spelled:Dfn l.prog w K mg base "_law_spelled" 1 ["_law_number", "_law_size"] (Zy):=⟨_,_,WB F16 B,PySem.W.mg_of X G a16,F16.kp,b16⟩
  have D_law_name:Dfn l.prog w K mg base "_law_name" 2 ["_law_box_here", "_law_taken"] (VW):=⟨_,_,zbj F17 B D_law_take D_law_spelled,PySem.W.mg_of X G a17,F17.kp,b17⟩
  have D_law_names:Dfn l.prog w K mg base "_law_names" 3 ["_law_box_here", "_law_many"] (ZC):=⟨_,_,WF F18 B D_law_name,PySem.W.mg_of X G a18,F18.kp,b18⟩
  have D_law_place:Dfn l.prog w K mg base "_law_place" 2 ["_law_box_here", "_law_taken"] (vm K):=⟨_,_,WD F19 B D_law_take,PySem.W.mg_of X G a19,F19.kp,b19⟩
  have D_law_places:Dfn l.prog w K mg base "_law_places" 3 ["_law_box_here", "_law_many"] (wL):=⟨_,_,Vk F20 B D_law_place,PySem.W.mg_of X G a20,F20.kp,b20⟩
  have D_law_shuffled:Dfn l.prog w K mg base "_law_shuffled" 2 ["_law_box_here", "_law_some"] (wJ K):=⟨_,_,YK F21 B D_law_take,PySem.W.mg_of X G a21,F21.kp,b21⟩
  have D_law_feeders:Dfn l.prog w K mg base "_law_feeders" 3 ["_law_box_here", "_law_kinds", "_law_parts", "_law_plenty"] (Q7 K):=⟨_,_,YQ F22 B D_law_take D_law_shuffled D_law_place,PySem.W.mg_of X G a22,F22.kp,b22⟩
  have D_law_aheads:Dfn l.prog w K mg base "_law_aheads" 3 ["_law_box_here", "_law_many"] (wN K):=⟨_,_,Vl F23 B D_law_take D_law_shuffled,PySem.W.mg_of X G a23,F23.kp,b23⟩
  have D_law_job:Dfn l.prog w K mg base "_law_job" 4 ["_law_box_here", "_law_few", "_law_most", "_law_plenty"] (V0 K):=⟨_,_,zbl F24 B D_law_take D_law_names D_law_place D_law_places D_law_feeders D_law_aheads,PySem.W.mg_of X G a24,F24.kp,b24⟩
  have D_law_order:Dfn l.prog w K mg base "_law_order" 2 ["_law_box_here", "_law_job_here"] (ZB K):=⟨_,_,WE F25 B D_law_take,PySem.W.mg_of X G a25,F25.kp,b25⟩
  have D_law_trip:Dfn l.prog w K mg base "_law_trip" 3 ["_law_box_here", "_law_picks"] (Q1 K):=⟨_,_,YI F26 B D_law_shuffled,PySem.W.mg_of X G a26,F26.kp,b26⟩
  have D_law_plan:Dfn l.prog w K mg base "_law_plan" 4 ["_law_box_here", "_law_job_here", "_law_most"] (Q3 K):=⟨_,_,YL F27 B D_law_take D_law_order D_law_trip,PySem.W.mg_of X G a27,F27.kp,b27⟩
  have D_law_over:Dfn l.prog w K mg base "_law_over" 1 ["_law_many", "_law_aheads_here"] (Q4 K):=⟨_,_,YM F28 B,PySem.W.mg_of X G a28,F28.kp,b28⟩
  have D_law_stock_now:Dfn l.prog w K mg base "_law_stock_now" 2 ["_law_box_here", "_law_job_here", "_law_plan_here"] (zaS K):=⟨_,_,zcm F29 B D_law_take,PySem.W.mg_of X G a29,F29.kp,b29⟩
  have D_law_all_picks:Dfn l.prog w K mg base "_law_all_picks" 1 ["_law_plan_here"] (ZA K):=⟨_,_,zcv F30 B,PySem.W.mg_of X G a30,F30.kp,b30⟩
  have D_law_feeders_now:Dfn l.prog w K mg base "_law_feeders_now" 2 ["_law_job_here", "_law_plan_here", "_law_stock"] (zaX K):=⟨_,_,zcs F31 B D_law_all_picks,PySem.W.mg_of X G a31,F31.kp,b31⟩
  have D_law_mended_due:Dfn l.prog w K mg base "_law_mended_due" 3 ["_law_job_here", "_law_plan_here", "_law_stock"] (zaW K):=⟨_,_,zcr F32 B D_law_feeders_now D_law_over D_law_all_picks,PySem.W.mg_of X G a32,F32.kp,b32⟩
  have D_law_broken:Dfn l.prog w K mg base "_law_broken" 5 ["_law_box_here"] (zaZ K):=⟨_,_,zcu F33 B D_law_take D_law_job D_law_plan D_law_stock_now,PySem.W.mg_of X G a33,F33.kp,b33⟩
  have D_law_right:Dfn l.prog w K mg base "_law_right" 7 ["_law_box_here"] (Zz):=⟨_,_,WC F34 B D_law_broken D_law_mended_due D_mended_plan D_law_same,PySem.W.mg_of X G a34,F34.kp,b34⟩
  exact zbk F35 B D_law_folded D_law_box D_law_right
theorem walk {l:PySem.W.OpenLaw} {q:Program} {loose:List Str} {XP:(Str -> Option Value) -> Heap -> Prop} {YP:World -> Heap -> Prop} {d:DefRec} {K:Params -> PySem.W.Frag} (hn:l.most = some 63) (hdf:d.params.defaults = [])
    (hY:∀ (w:World) (h:Heap),YP w h -> (K w.params).In h)
    (F:∀ (w:World) (mg:Str -> Option Value) (fa:Addr) (h:Heap),(K w.params).In h -> h.Ns mainGlobals mg -> mg d.name = some (.ref fa) ->
      ∃ fd:FuncData,(∀ (s:Shared) (u:Value),BindsTo s fd ⟨[u],[]⟩ [("_law_script",u)]) /\ ∀ base:Heap,(K w.params).In base -> base.Ns mainGlobals mg -> qA l.prog w (K w.params) mg base CX0 8 fa fd ["_law_script"] (JC (K w.params))) :
    PySem.W.WalkO q loose XP YP l.row.toRowW d [] (fun f vs=>PySem.call f vs):=
  L2.walk_of (n:=63) (k:=8) (x:= "_law_script") (CX:=fun _=>CX0) (sp:=fun w=>JC (K w.params)) hn (by decide) hdf ⟨rfl,by decide,by decide,rfl⟩ hY F (fun _ _ a ns hl _ hS=>⟨a,ns,rfl,hS,hl,fun _=>rfl⟩) fun _ _ _ _ _ z=>z
def pw2:Program:={ PySem.Challenge.pw_pickboard_k42_mended_pick_by_pick with main:={ PySem.Challenge.pw_pickboard_k42_mended_pick_by_pick.main with body:=[zp 0,zp 1,zp 2,zp 3,zp 4,zp 5,zp 6,zp 7,zp 8,zp 9,zp 10,zp 11,zp 12,zp 13,zp 14,zp 15,zp 16,zp 17,zp 18,zp 19,zp 20,zp 21,zp 22,zp 23,zp 24,zp 25,zp 26,zp 27,zp 28,zp 29,zp 30,zp 31,zp 32,zp 33,zp 34,zp 35,zp 36,zp 37,zp 38] } }
def rw2:PySem.W.OpenLaw:={ PySem.Challenge.rw_pickboard_k42_mended_pick_by_pick with prog:=pw2 }
theorem rw_eq:PySem.Challenge.rw_pickboard_k42_mended_pick_by_pick = rw2:=by kernel_rfl
end L2
open PySem PySem.W PyProof.Rows
set_option maxRecDepth 100000 in
set_option maxHeartbeats 0 in
theorem PySem.Challenge.cw_pickboard_k42_mended_pick_by_pick_holds : PySem.Challenge.rw_pickboard_k42_mended_pick_by_pick.Holds := by
  refine (congrArg PySem.W.OpenLaw.Holds L2.rw_eq).mpr ?_
  w_on;o_law;k_head;(case hw=>w_witness2)
  k_fill
  refine L2.walk (l:=L2.rw2) rfl rfl (fun w h Y=>PySem.W.kIn_of Y) ?F
  case F=>
    intro w mg fa h KX G hmg
    refine' L2.all_mk KX G hmg (L2.fd_mk (by k_is) (by k_is) (by k_is) (by k_is)) (L2.fd_mk (by k_is) (by k_is) (by k_is) (by k_is)) (L2.fd_mk (by k_is) (by k_is) (by k_is) (by k_is)) (L2.fd_mk (by k_is) (by k_is) (by k_is) (by k_is)) (L2.fd_mk (by k_is) (by k_is) (by k_is) (by k_is)) (L2.fd_mk (by k_is) (by k_is) (by k_is) (by k_is)) (L2.fd_mk (by k_is) (by k_is) (by k_is) (by k_is)) (L2.fd_mk (by k_is) (by k_is) (by k_is) (by k_is)) (L2.fd_mk (by k_is) (by k_is) (by k_is) (by k_is)) (L2.fd_mk (by k_is) (by k_is) (by k_is) (by k_is)) (L2.fd_mk (by k_is) (by k_is) (by k_is) (by k_is)) (L2.fd_mk (by k_is) (by k_is) (by k_is) (by k_is)) (L2.fd_mk (by k_is) (by k_is) (by k_is) (by k_is)) (L2.fd_mk (by k_is) (by k_is) (by k_is) (by k_is)) (L2.fd_mk (by k_is) (by k_is) (by k_is) (by k_is)) (L2.fd_mk (by k_is) (by k_is) (by k_is) (by k_is)) (L2.fd_mk (by k_is) (by k_is) (by k_is) (by k_is)) (L2.fd_mk (by k_is) (by k_is) (by k_is) (by k_is)) (L2.fd_mk (by k_is) (by k_is) (by k_is) (by k_is)) (L2.fd_mk (by k_is) (by k_is) (by k_is) (by k_is)) (L2.fd_mk (by k_is) (by k_is) (by k_is) (by k_is)) (L2.fd_mk (by k_is) (by k_is) (by k_is) (by k_is)) (L2.fd_mk (by k_is) (by k_is) (by k_is) (by k_is)) (L2.fd_mk (by k_is) (by k_is) (by k_is) (by k_is)) (L2.fd_mk (by k_is) (by k_is) (by k_is) (by k_is)) (L2.fd_mk (by k_is) (by k_is) (by k_is) (by k_is)) (L2.fd_mk (by k_is) (by k_is) (by k_is) (by k_is)) (L2.fd_mk (by k_is) (by k_is) (by k_is) (by k_is)) (L2.fd_mk (by k_is) (by k_is) (by k_is) (by k_is)) (L2.fd_mk (by k_is) (by k_is) (by k_is) (by k_is)) (L2.fd_mk (by k_is) (by k_is) (by k_is) (by k_is)) (L2.fd_mk (by k_is) (by k_is) (by k_is) (by k_is)) (L2.fd_mk (by k_is) (by k_is) (by k_is) (by k_is)) (L2.fd_mk (by k_is) (by k_is) (by k_is) (by k_is)) (L2.fd_mk (by k_is) (by k_is) (by k_is) (by k_is)) (by k_is) (by k_is) (by k_is) (by k_is) (by k_is) (by k_is) (by k_is) (by k_is) (by k_is) (by k_is) (by k_is) (by k_is) (by k_is) (by k_is) (by k_is) (by k_is) (by k_is) (by k_is) (by k_is) (by k_is) (by k_is) (by k_is) (by k_is) (by k_is)
