import PyProof.Rows.All
import Wide.All
import OpenK.AllK
import Wide.FinOn
import Lean
import PyProof.EqAt
import PyProof.EqKinds
import PyProof.TupleCall
import PyProof.NeKinds
import PyProof.ReprRoads
import PyProof.ReprBulk
import PyProof.SumWalk
import PyProof.FString5
import PyProof.StrBlock2
import PyProof.StrBlockI
import PyProof.StrBlockH
import PyProof.StrWalks
import PyProof.StrLawsIn
import PyProof.AutoListH
import PyProof.CompUse
import PyProof.ListRange
import PyProof.CallFns
import PyProof.ListTruth
import PyProof.Rows.Range3
import PyProof.SeqI3
import KE.KRevSl
import PyProof.DictIter
import PyProof.DictWalks
import PyProof.DictCompW
import PyProof.Cells
import OpenK.KOwn
import PyProof.ExcClass3
import PyProof.ExcInit
import PyProof.ExcBaseAll.ValueError
import PyProof.ExcArgsOwn
import PyProof.ExcAttrAll.ValueError
import PyProof.Rows.SortWalk
import PyProof.Rows.SortStr
import PyProof.MeetsDict
import PyProof.DictUpdate
import PyProof.FactsAll.dict_3
import KE.KDictList
import PyProof.FactsAll.dict_4
import KE.KDictSum
import PyProof.IsiH_list
import PyProof.Rows.Exc
import KE.KDictOf
import PyProof.SetKind
import PyProof.Rows.SetFrom
import PyProof.FactsAll.set_1
import PyProof.FactsAll.set_2
import KE.KSortTup
import KE.KItemsList
import PyProof.Rows.SortRev
import PyProof.Rows.StrCase
import PyProof.Rows.StrLen
import KE.KPairComp
import KE.KMinKey
import PyProof.Ascii
import PySem.Challenge.RW_pickboard_k75_whole_fewest_changes_of_ti
set_option Elab.async false
set_option linter.all false
set_option maxRecDepth 100000
namespace L2
open PySem PySem.Spec PyProof.Rows
abbrev Key:=Sum Int Str
def wc:Key -> Value -> Bool
  | .inl k,v=>Value.isInt k v
  | .inr x,v=>Value.isStrOf x v
def zbN (w:World):Key -> Int
  | .inl k=>hashInt k
  | .inr x=>hashStr w x
theorem zY:∀ {k:Key} {v:Value},wc k v = true -> (∃ i t,k = Sum.inl i /\ v = Value.int i t) \/ (∃ x t,k = Sum.inr x /\ v = Value.str x t)
  | .inl i,v,h=>by
    obtain ⟨t,e⟩:=Value.isInt_shape (k:=i) (v:=v) h
    exact .inl ⟨i,t,rfl,e⟩
  | .inr x,v,h=>by
    obtain ⟨t,e⟩:=Value.isStrOf_shape (x:=x) (v:=v) h
    exact .inr ⟨x,t,rfl,e⟩
theorem XZ (i:Int) (t:Tok):wc (.inl i) (.int i t) = true:=by simp [wc,Value.isInt]
theorem XY (x:Str) (t:Tok):wc (.inr x) (.str x t) = true:=by simp [wc,Value.isStrOf]
theorem zaK (a b:Int):decide ((Sum.inl a:Key) = Sum.inl b) = (a == b):=by
  by_cases e:a = b
  · subst e;simp
  · have h:¬ (Sum.inl a:Key) = Sum.inl b:=fun q=>e (Sum.inl.inj q)
    rw [decide_eq_false h]
    exact (beq_eq_false_iff_ne.mpr e).symm
theorem zaH (a b:Str):decide ((Sum.inr a:Key) = Sum.inr b) = decide (a = b):=by
  by_cases e:a = b
  · subst e;simp
  · have h:¬ (Sum.inr a:Key) = Sum.inr b:=fun q=>e (Sum.inr.inj q)
    rw [decide_eq_false h,decide_eq_false e]
theorem zaJ (a:Int) (b:Str):decide ((Sum.inl a:Key) = Sum.inr b) = false:=decide_eq_false (fun q=>nomatch q)
theorem zaI (a:Str) (b:Int):decide ((Sum.inr a:Key) = Sum.inl b) = false:=decide_eq_false (fun q=>nomatch q)
def zE (prog:Program) (w:World):PySem.KeyKind prog w Key where
  is:=wc
  hash:=zbN w
  inj:=fun v a b ha hb=>by
    rcases zY ha with ⟨i,t,rfl,rfl⟩ | ⟨x,t,rfl,rfl⟩
    · rcases zY hb with ⟨j,u,rfl,e⟩ | ⟨y,u,rfl,e⟩
      · injection e with e1 _;rw [e1]
      · exact nomatch e
    · rcases zY hb with ⟨j,u,rfl,e⟩ | ⟨y,u,rfl,e⟩
      · exact nomatch e
      · injection e with e1 _;rw [e1]
  byValue:=fun k v h=>by
    rcases zY h with ⟨i,t,rfl,rfl⟩ | ⟨x,t,rfl,rfl⟩ <;> rfl
  pyHash:=fun hv h=>by
    rcases zY hv with ⟨i,t,rfl,rfl⟩ | ⟨x,t,rfl,rfl⟩
    · exact wpAny_pyHash_int h
    · exact wpAny_pyHash_str h
  eqBool:=fun hu hv h=>by
    rcases zY hu with ⟨i,t,rfl,rfl⟩ | ⟨x,t,rfl,rfl⟩
    · rcases zY hv with ⟨j,u,rfl,rfl⟩ | ⟨y,u,rfl,rfl⟩
      · rw [zaK] at h;exact wpAny_eqBool_int h
      · rw [zaJ] at h;exact SeqAt.EqAt.int_str i t y u _ _ _ _ h
    · rcases zY hv with ⟨j,u,rfl,rfl⟩ | ⟨y,u,rfl,rfl⟩
      · rw [zaI] at h;exact SeqAt.EqAt.str_int x t j u _ _ _ _ h
      · rw [zaH] at h;exact wpAny_eqBool_str h
  «strs»:=fun k x t v h=>by
    rcases zY h with ⟨i,u,rfl,e⟩ | ⟨y,u,rfl,e⟩
    · exact nomatch e
    · injection e with e1 _
      subst e1
      cases v <;> rfl
theorem QN (prog:Program) (w:World) (k:Key) (v:Value):(zE prog w).is k v = wc k v:=rfl
theorem ZW (prog:Program) (w:World) (i:Int) (t:Tok):(zE prog w).is (.inl i) (.int i t) = true:=XZ i t
theorem ZV (prog:Program) (w:World) (x:Str) (t:Tok):(zE prog w).is (.inr x) (.str x t) = true:=XY x t
inductive V where
  | non | bl (b:Bool) | int (i:Int) | str (x:Str) | byt (b:Array UInt8) | flt (b:UInt64) | ref (a:Addr) | ty (n:String)
  deriving DecidableEq
def RelV:V -> Value -> Prop
  | .non,u=>u = Value.none
  | .bl b,u=>u = Value.bool b
  | .int i,u=>∃ t,u = Value.int i t
  | .str x,u=>∃ t,u = Value.str x t
  | .byt b,u=>∃ t,u = Value.bytes b t
  | .flt b,u=>∃ t,u = Value.float b t
  | .ref a,u=>u = Value.ref a
  | .ty n,u=>u = Value.type n
abbrev Vals:List V -> List Value -> Prop:=Paired RelV
theorem Vals.length {xs:List V} {us:List Value} (r:Vals xs us):xs.length = us.length:=Paired.length r
theorem Vals.get:∀ {xs:List V} {us:List Value} {i:Nat} {x:V},Vals xs us -> xs[i]? = some x -> ∃ u,us[i]? = some u /\ RelV x u
  | _,_,_,_,.nil,e=>by simp at e
  | _,_,0,_,.cons r _,e=>by simp at e;subst e;exact ⟨_,rfl,r⟩
  | _,_,i + 1,x,.cons _ t,e=>by
    obtain ⟨u,h1,h2⟩:=Vals.get (i:=i) (x:=x) t (by simpa using e)
    exact ⟨u,by simpa using h1,h2⟩
theorem Vals.set {x:V} {u:Value} (r:RelV x u):∀ {xs:List V} {us:List Value} (i:Nat),Vals xs us -> Vals (xs.set i x) (us.set i u)
  | _,_,_,.nil=>.nil
  | _,_,0,.cons _ t=>.cons r t
  | _,_,i + 1,.cons q t=>.cons q (Vals.set r i t)
theorem Vals.append:∀ {xs ys:List V} {us ws:List Value},Vals xs us -> Vals ys ws -> Vals (xs ++ ys) (us ++ ws)
  | _,_,_,_,.nil,s=>s
  | _,_,_,_,.cons r t,s=>.cons r (Vals.append t s)
theorem Vals.take:∀ {xs:List V} {us:List Value} (n:Nat),Vals xs us -> Vals (xs.take n) (us.take n)
  | _,_,0,_=>.nil
  | _,_,_ + 1,.nil=>.nil
  | _,_,n + 1,.cons r t=>.cons r (Vals.take n t)
theorem Vals.drop:∀ {xs:List V} {us:List Value} (n:Nat),Vals xs us -> Vals (xs.drop n) (us.drop n)
  | _,_,0,r=>r
  | _,_,_ + 1,.nil=>.nil
  | _,_,n + 1,.cons _ t=>Vals.drop n t
def RelO:Option V -> Option Value -> Prop
  | some v,some u=>RelV v u
  | none,none=>True
  | _,_=>False
def KV {κ:Type}:List (κ × V) -> List (κ × Value) -> Prop:=Paired fun (p:κ × V) (q:κ × Value)=>p.1 = q.1 /\ RelV p.2 q.2
def kV:Key -> V
  | .inl i=>.int i
  | .inr x=>.str x
inductive HO where
    | lst (xs:List V)
    | tup (xs:List V)
    | dK (kvs:List (Key × V)) | dT (kvs:List (List Key × V))
    | set (S:Int -> Bool) (n:Nat)
    | ins (C dx:Addr) (fs:List (Str × V))
    | own (x:Addr)
    | xd (fs:List (Str × V))
    | met (f x:Addr)
    | rng (lo hi:Int)
    | frz (o:Obj) (u:HO)
    | tbl (ps:Array Value)
    | ext (φ:Heap -> Prop)
abbrev Hp:=Addr -> Option HO
def upd (H:Hp) (a:Addr) (o:HO):Hp:=fun b=>if b = a then some o else H b
theorem zf {H:Hp} {a:Addr} {o:HO}:upd H a o a = some o:=by unfold upd;rw [if_pos rfl]
theorem zu {H:Hp} {a b:Addr} {o:HO} (h:b ≠ a):upd H a o b = H b:=by unfold upd;rw [if_neg h]
theorem V2 {H:Hp} {a b:Addr} {o u:HO} (h:H a = some o) (h':H b = some u) (d:o ≠ u):a ≠ b:=by
  intro e;subst e;rw [h] at h';exact d (Option.some.inj h')
theorem zj {H:Hp} {a b:Addr} {o:HO} (h:H a = some o) (h':H b = none):a ≠ b:=by
  intro e;subst e;rw [h] at h';cases h'
section
variable (P:Program) (w:World)
def TupX (h:Heap) (a:Addr) (its:Array Value):Prop:=IsTup h a its /\ ∃ o,h.get? a = some o /\ o.dict = none
theorem TupX.by {h:Heap} {a:Addr} {its:Array Value} {n:Nat} (e:h.get? a = some { cls:=.type "tuple",data:=.seq its n }):TupX h a its:=⟨⟨_,e,rfl,n,rfl⟩,_,e,rfl⟩
def ObjOk (H:Hp) (h:Heap) (a:Addr):HO -> Prop
  | .lst xs=>xs.length <= sizeLine /\ ∃ (its:List Value) (n:Nat),Vals xs its /\ h.get? a = some { cls:=.type "list",data:=.seq its.toArray n }
  | .tup xs=>xs.length <= sizeLine /\ ∃ its:List Value,Vals xs its /\ TupX h a its.toArray
  | .dK kvs=>kvs.length <= sizeLine /\ (a == sysModules) = false /\ ∃ vs,KV kvs vs /\ h.DictOf (zE P w) a vs
  | .dT kvs=>kvs.length <= sizeLine /\ (a == sysModules) = false /\ ∃ xs:List (List Key × Addr × Value),
      Paired (fun (p:List Key × V) (q:List Key × Addr × Value)=>p.1 = q.1 /\ H q.2.1 = some (.tup (p.1.map kV)) /\ RelV p.2 q.2.2) kvs xs /\
      ∃ o es ep,h.get? a = some o /\ o.ExactDict /\ o.data = .dict es ep /\ es.toList = xs.map (entryOfKey (tupleKind (zE P w))) /\ (xs.map (·.1)).Nodup
  | .set S n=>h.SetOf (intKind P w) a S n
  | .ins C dx fs=>H dx = some (.own a) /\ fs.length <= 1000 /\ dx ≠ a /\ h.get? a = some (PySem.W.instObj C dx) /\
      ∃ mA,h.Ns1 dx mA /\ (∀ f,RelO (fs.lookup f) (mA f)) /\ PySem.Within mA (fs.map (·.1))
  | .own _=>∃ o,h.get? a = some o
  | .xd fs=>∃ mA,h.Ns1 a mA /\ ∀ f,RelO (fs.lookup f) (mA f)
  | .rng lo hi=>∃ t u v,h.get? a = some { cls:=.type "range",data:=.fields #[.int lo t,.int hi u,.int 1 v] }
  | .frz o u=>h.get? a = some o /\ ObjOk H h a u
  | .tbl ps=>h.get? a = some { cls:=.none,data:=.fields ps }
  | .met f x=>h.get? a = some (PySem.W.methodObj (.ref f) (.ref x))
  | .ext φ=>φ h /\ (∃ o,h.get? a = some o) /\ ∀ h1 h2:Heap,φ h1 -> (∀ o,h1.get? a = some o -> h2.get? a = some o) -> φ h2
def HOk (H:Hp) (h:Heap):Prop:=∀ a o,H a = some o -> ObjOk P w H h a o
end
section
variable {P:Program} {w:World} {H H':Hp} {h h':Heap} {a:Addr} {o:HO}
theorem ObjOk.lt (x:ObjOk P w H h a o):a < h.objs.size:=by
  cases o with
  | lst xs=>obtain ⟨_,_,_,_,e⟩:=x;exact Heap.lt_size e
  | tup xs=>obtain ⟨_,_,_,p⟩:=x;exact p.1.lt
  | dK kvs=>obtain ⟨_,_,_,_,o,_,_,e,_⟩:=x;exact Heap.lt_size e
  | dT kvs=>obtain ⟨_,_,_,_,o,_,_,e,_⟩:=x;exact Heap.lt_size e
  | set S n=>obtain ⟨o,_,_,_,e,_⟩:=x;exact Heap.lt_size e
  | ins C dx fs=>obtain ⟨_,_,_,e,_⟩:=x;exact Heap.lt_size e
  | own y=>obtain ⟨_,e⟩:=x;exact Heap.lt_size e
  | xd fs=>obtain ⟨_,⟨_,_,_,e,_⟩,_⟩:=x;exact Heap.lt_size e
  | rng lo hi=>obtain ⟨_,_,_,e⟩:=x;exact Heap.lt_size e
  | frz ob u=>obtain ⟨e,_⟩:=x;exact Heap.lt_size e
  | tbl ps=>exact Heap.lt_size (show h.get? a = some _ from x)
  | met f y=>exact Heap.lt_size (show h.get? a = some _ from x)
  | ext φ=>obtain ⟨_,⟨_,e⟩,_⟩:=x;exact Heap.lt_size e
theorem Paired.mapP {α β:Type} {F G:α -> β -> Prop}:∀ {l₁:List α} {l₂:List β},Paired F l₁ l₂ -> (∀ a b,F a b -> G a b) -> Paired G l₁ l₂
  | _,_,.nil,_=>.nil
  | _,_,.cons r t,f=>.cons (f _ _ r) (Paired.mapP t f)
theorem ObjOk.stay (x:ObjOk P w H h a o) (k:∀ b u,(b = a \/ H b = some (.own a)) -> h.get? b = some u -> h'.get? b = some u)
    (ho:∀ b,H b = some (.own a) -> H' b = some (.own a)) (ht:∀ b xs,H b = some (.tup xs) -> H' b = some (.tup xs)):ObjOk P w H' h' a o:=by
  induction o with
  | lst xs=>obtain ⟨z,its,n,r,e⟩:=x;exact ⟨z,its,n,r,k _ _ (.inl rfl) e⟩
  | tup xs=>obtain ⟨z,its,r,⟨ob,e,c⟩,o2,e2,dn⟩:=x;exact ⟨z,its,r,⟨ob,k _ _ (.inl rfl) e,c⟩,o2,k _ _ (.inl rfl) e2,dn⟩
  | dK kvs=>obtain ⟨z,y,vs,r,ob,es,ep,e,c⟩:=x;exact ⟨z,y,vs,r,ob,es,ep,k _ _ (.inl rfl) e,c⟩
  | dT kvs=>
    obtain ⟨z,y,xs,r,ob,es,ep,e,c⟩:=x
    exact ⟨z,y,xs,Paired.mapP r fun p q z=>⟨z.1,ht _ _ z.2.1,z.2.2⟩,ob,es,ep,k _ _ (.inl rfl) e,c⟩
  | set S n=>obtain ⟨ob,es,ep,t,e,c⟩:=x;exact ⟨ob,es,ep,t,k _ _ (.inl rfl) e,c⟩
  | ins C dx fs=>
    obtain ⟨d,z,ne,e,mA,⟨od,es,ep,e2,c⟩,r⟩:=x
    exact ⟨ho _ d,z,ne,k _ _ (.inl rfl) e,mA,⟨od,es,ep,k _ _ (.inr d) e2,c⟩,r⟩
  | own y=>obtain ⟨ob,e⟩:=x;exact ⟨ob,k _ _ (.inl rfl) e⟩
  | xd fs=>obtain ⟨mA,⟨od,es,ep,e,c⟩,r⟩:=x;exact ⟨mA,⟨od,es,ep,k _ _ (.inl rfl) e,c⟩,r⟩
  | rng lo hi=>obtain ⟨t,u,v,e⟩:=x;exact ⟨t,u,v,k _ _ (.inl rfl) e⟩
  | frz ob u ih=>obtain ⟨e,q⟩:=x;exact ⟨k _ _ (.inl rfl) e,ih q⟩
  | tbl ps=>
    have e:h.get? a = some { cls:=.none,data:=.fields ps }:=x
    show h'.get? a = some { cls:=.none,data:=.fields ps }
    exact k a _ (.inl rfl) e
  | met f y=>
    have e:h.get? a = some (PySem.W.methodObj (.ref f) (.ref y)):=x
    show h'.get? a = some (PySem.W.methodObj (.ref f) (.ref y))
    exact k a _ (.inl rfl) e
  | ext φ=>obtain ⟨p,⟨o,e⟩,st⟩:=x;exact ⟨st _ _ p fun o q=>k _ _ (.inl rfl) q,⟨o,k _ _ (.inl rfl) e⟩,st⟩
theorem HOk.lt (x:HOk P w H h) (e:H a = some o):a < h.objs.size:=(x a o e).lt
theorem HOk.fresh (x:HOk P w H h) (e:h.objs.size <= a):H a = none:=by
  cases q:H a with
  | none=>rfl
  | some u=>exact absurd (Nat.lt_of_lt_of_le (x.lt q) e) (Nat.lt_irrefl _)
theorem HOk.kept (x:HOk P w H h) (k:∀ b u,h.get? b = some u -> h'.get? b = some u):HOk P w H h':=fun a o e=>
  (x a o e).stay (fun b u _ q=>k b u q) (fun _ q=>q) fun _ _ q=>q
theorem HOk.laid (x:HOk P w H h) (k:∀ b u,h.get? b = some u -> h'.get? b = some u) (hp:h.objs.size <= a) (new:ObjOk P w (upd H a o) h' a o):HOk P w (upd H a o) h':=fun b u e=>by
  have hn:=x.fresh hp
  by_cases hb:b = a
  · subst hb;rw [zf] at e;cases e;exact new
  · rw [zu hb] at e
    exact (x b u e).stay (fun c v _ q=>k c v q) (fun c q=>by rw [zu (zj q hn)];exact q) fun c xs q=>by rw [zu (zj q hn)];exact q
end
def Rd (H:Hp) (a:Addr) (u:HO):Prop:=H a = some u \/ ∃ o,H a = some (.frz o u)
theorem Rd.ok {P:Program} {w:World} {H:Hp} {h:Heap} {a:Addr} {u:HO} (r:Rd H a u) (x:HOk P w H h):ObjOk P w H h a u:=by
  rcases r with r | ⟨o,r⟩
  · exact x a u r
  · obtain ⟨_,q⟩:=x a _ r
    exact q
def Mut:Option HO -> Prop
  | some (.lst _)=>True
  | some (.dK _)=>True
  | some (.dT _)=>True
  | some (.set _ _)=>True
  | some (.ins _ _ _)=>True
  | some (.ext _)=>True
  | _=>False
section
variable {P:Program} {w:World} {H:Hp} {h h':Heap} {x e:Addr} {o':HO}
theorem HOk.write (ok:HOk P w H h) (mu:Mut (H x)) (he:e = x \/ H e = some (.own x)) (k:∀ b u,b ≠ e -> h.get? b = some u -> h'.get? b = some u) (heo:∃ u,h'.get? e = some u)
    (new:ObjOk P w (upd H x o') h' x o'):HOk P w (upd H x o') h':=fun b u q=>by
  have nown:∀ c y,H c = some (.own y) -> c ≠ x:=fun c y r z=>by subst z;rw [r] at mu;exact mu
  have ntup:∀ c xs,H c = some (.tup xs) -> c ≠ x:=fun c xs r z=>by subst z;rw [r] at mu;exact mu
  by_cases hb:b = x
  · subst hb;rw [zf] at q;cases q;exact new
  · rw [zu hb] at q
    by_cases hbe:b = e
    · have q':H b = some (.own x):=by
        rcases he with z | z
        · exact absurd (hbe.trans z) hb
        · rw [hbe];exact z
      rw [q] at q';cases q'
      obtain ⟨v,hv⟩:=heo
      exact ⟨v,by rw [hbe];exact hv⟩
    · refine (ok b u q).stay (fun c v hc r=>k c v ?_ r) (fun c r=>by rw [zu (nown c b r)];exact r) fun c xs r=>by rw [zu (ntup c xs r)];exact r
      rcases hc with rfl | hc
      · exact hbe
      · rintro rfl
        rcases he with z | z
        · exact nown c b hc z
        · rw [hc] at z;cases z;exact hb rfl
end
structure Un (fs ex:List Addr) (H H':Hp) (h h':Heap):Prop where
  keep:∀ b o,h.get? b = some o -> H b = none -> b ∉ fs -> b ∉ ex -> h'.get? b = some o
  slot:∀ b o,h.get? b = some o -> H b = none -> b ∈ fs -> b ∉ ex -> ∃ sl,h'.get? b = some { o with slots:=sl }
  free:∀ b o,h.get? b = some o -> H b = none -> b ∉ ex -> H' b = none
  there:∀ b o,h.get? b = some o -> b ∉ ex -> ∃ o',h'.get? b = some o'
  tups:∀ b xs,H b = some (.tup xs) -> H' b = some (.tup xs)
  frzs:∀ b o u,H b = some (.frz o u) -> H' b = some (.frz o u)
  tbls:∀ b ps,H b = some (.tbl ps) -> ∃ more,H' b = some (.tbl (ps ++ more))
section
variable {fs fs' ex ex':List Addr} {H H1 H2:Hp} {h h1 h2 h':Heap} {a x e:Addr} {o:HO}
theorem Un.any (u:Un fs ex H H1 h h1) {b:Addr} {ob:Obj} (q:h.get? b = some ob) (n:H b = none) (hx:b ∉ ex):∃ sl,h1.get? b = some { ob with slots:=sl }:=by
  by_cases hb:b ∈ fs
  · exact u.slot b ob q n hb hx
  · exact ⟨ob.slots,u.keep b ob q n hb hx⟩
theorem Un.kept (k:∀ b u,h.get? b = some u -> h'.get? b = some u):Un fs ex H H h h':=
  ⟨fun b ob q _ _ _=>k b ob q,fun b ob q _ _ _=>⟨ob.slots,k b ob q⟩,fun _ _ _ n _=>n,fun b ob q _=>⟨ob,k b ob q⟩,fun _ _ q=>q,fun _ _ _ q=>q,fun _ ps q=>⟨#[],by rw [q];simp⟩⟩
theorem Un.refl:Un fs ex H H h h:=Un.kept fun _ _ q=>q
theorem Un.laid (k:∀ b u,h.get? b = some u -> h'.get? b = some u) (hp:h.objs.size <= a) (hn:H a = none):Un fs ex H (upd H a o) h h' where
  keep:=fun b u q _ _ _=>k b u q
  slot:=fun b u q _ _ _=>⟨u.slots,k b u q⟩
  free:=fun b u q n _=>by rw [zu (Nat.ne_of_lt (Nat.lt_of_lt_of_le (Heap.lt_size q) hp))];exact n
  there:=fun b u q _=>⟨u,k b u q⟩
  tups:=fun b xs q=>by rw [zu (zj q hn)];exact q
  frzs:=fun b u xs q=>by rw [zu (zj q hn)];exact q
  tbls:=fun b ps q=>⟨#[],by rw [zu (zj q hn),q];simp⟩
theorem Un.write (mu:Mut (H x)) (he:e = x \/ H e = some (.own x)) (k:∀ b u,b ≠ e -> h.get? b = some u -> h'.get? b = some u) (heo:∃ u,h'.get? e = some u):Un fs ex H (upd H x o) h h':=by
  have hx:∀ b,H b = none -> b ≠ x:=fun b n z=>by subst z;rw [n] at mu;exact mu
  have hb:∀ b,H b = none -> b ≠ e:=fun b n z=>by
    subst z
    rcases he with r | r
    · exact hx b n r
    · rw [n] at r;cases r
  have hm:∀ b u,H b = some u -> ¬ Mut (some u) -> b ≠ x:=fun b u q nm z=>by subst z;rw [q] at mu;exact nm mu
  refine ⟨fun b u q n _ _=>k b u (hb b n) q,fun b u q n _ _=>⟨u.slots,k b u (hb b n) q⟩,fun b u q n _=>by rw [zu (hx b n)];exact n,fun b u q _=>?_,
    fun b xs q=>by rw [zu (hm b _ q fun z=>z)];exact q,fun b u xs q=>by rw [zu (hm b _ q fun z=>z)];exact q,fun b ps q=>⟨#[],by rw [zu (hm b _ q fun z=>z),q];simp⟩⟩
  by_cases hbe:b = e
  · subst hbe;exact heo
  · exact ⟨u,k b u hbe q⟩
end
def trk (h:Heap) (H:Hp):List Addr:=(List.range h.objs.size).filter fun a=>(H a).isSome
def Za (h:Heap) (H:Hp):Heap:=PySem.W.hideAll h (trk h H)
theorem X2 (h:Heap) (H:Hp):(Za h H).objs.size = h.objs.size:=PySem.W.hideAll_size _ _
theorem Wh {h:Heap} {H:Hp} {b:Addr} {o:Obj} (e:h.get? b = some o) (n:H b = none):(Za h H).get? b = some o:=
  PySem.W.hideAll_get _ e fun hm=>by
    have q:(H b).isSome = true:=(List.mem_filter.mp hm).2
    rw [n] at q;simp at q
theorem Yn {h:Heap} {H:Hp} {b:Addr} {o:Obj} (e:(Za h H).get? b = some o):h.get? b = some o /\ H b = none:=by
  have e':h.get? b = some o:=PySem.W.of_hideAll (trk h H) e
  refine ⟨e',?_⟩
  cases q:H b with
  | none=>rfl
  | some x=>
    have hm:b ∈ trk h H:=List.mem_filter.mpr ⟨List.mem_range.mpr (Heap.lt_size e'),by simp [q]⟩
    have z:(Za h H).get? b = none:=PySem.W.hideAll_none (trk h H) hm
    rw [z] at e;cases e
def YG (g h:Heap) (L:Addr):List (Addr × Obj):=(List.range h.objs.size).filterMap fun a=>if a = L \/ (g.get? a).isSome = true then none else (h.get? a).map fun o=>(a,o)
def qu (g h:Heap) (L d:Addr):List (Addr × Obj):=(YG g h L).filter fun p=>decide (p.1 ≠ d)
structure Mod (K:PySem.W.Frag) (mg:Str -> Option Value) (base:Heap):Prop where
  kin:K.In base
  glob:base.Ns mainGlobals mg
  blt:∃ mb,base.Ns builtinsNs mb /\ ∀ x:Str,x ≠ "__name__" -> mb x = bootBuiltins x
  nolimit:base.NoLimit
structure Cx where
  prog:Program
  w:World
  K:PySem.W.Frag
  mg:Str -> Option Value
  base:Heap
  A:Around
  N:List Str
  s₀:Shared
  H₀:Hp
  env:Env
  outer:List Env
  stack:List Env
  ex:List Addr
  fn:Str -> Bool
  calm:Bool
  pn:List (Addr × Obj)
  xe:Value -> Shared -> Prop
def frs (l:List Env):List Addr:=l.filterMap (·.frame)
abbrev Cx.fs (X:Cx):List Addr:=frs X.outer
def Vis (sc:Scope) (x:Str):Prop:=sc.names.lookup x = some .local \/ sc.names.lookup x = some .cell \/ sc.names.lookup x = some .free
def Loc (sc:Scope) (x:Str):Prop:=sc.names.lookup x = some .local \/ sc.names.lookup x = some .cell
def zbS (env:Env) (h:Heap) (m:Str -> Option Value) (x:Str) (u:Value):Prop:=
  (env.kindOf x = some .local /\ m x = some u) \/ ((env.kindOf x = some .cell \/ env.kindOf x = some .free) /\ ∃ c,env.cells.lookup x = some c /\ h.IsCell c (some u))
structure Cx.Ok (X:Cx):Prop where
  mod:Mod X.K X.mg X.base
  kind:X.env.scope.kind = .function
  glob:X.env.globals = mainGlobals
  blt:X.env.builtins = builtinsNs
  above:X.s₀.heap.objs.size <= X.env.locals
  inj:∀ x y c,X.env.cells.lookup x = some c -> X.env.cells.lookup y = some c -> x = y
  has:∀ x,(X.env.kindOf x = some .cell \/ X.env.kindOf x = some .free) -> ∃ c,X.env.cells.lookup x = some c
  cab:∀ x c,X.fn x = true -> X.env.cells.lookup x = some c -> X.s₀.heap.objs.size <= c
  hd:X.calm = true -> X.A.handled = none
  frames:X.A.frames = some X.stack
  stk:X.stack = X.outer \/ (X.stack = X.env :: X.outer /\ X.env.frame = some X.env.locals)
  exf:∀ b ∈ X.ex,b ≠ X.env.locals /\ ∀ x c,X.env.cells.lookup x = some c -> c ≠ b
  bs:∀ b o,X.base.get? b = some o -> X.s₀.heap.get? b = some o /\ X.H₀ b = none
  bsz:X.base.objs.size <= X.s₀.heap.objs.size
  noex:∀ b o,X.base.get? b = some o -> b ∉ X.ex
  exfs:∀ b ∈ X.ex,b ∉ X.fs
  funs:X.s₀.heap.FunFrames X.base X.outer
  frf:∀ b ∈ X.fs,X.H₀ b = none
structure Inv (X:Cx) (pins:List (Addr × Obj)) (σ:List (Option V)) (H:Hp) (s:Shared):Prop where
  ok:X.Ok
  os:s.os = X.s₀.os
  bare:AllBare s.gens
  base:Un X.fs X.ex X.H₀ H X.s₀.heap s.heap
  loc:∃ m,s.heap.Ns X.env.locals m /\ ∀ (i:Nat) (x:Str) (v:V),X.N[i]? = some x -> σ[i]? = some (some v) -> Vis X.env.scope x -> ∃ u,RelV v u /\ zbS X.env s.heap m x u
  cell:∀ x c,X.env.cells.lookup x = some c -> ∃ v,s.heap.IsCell c v
  free:H X.env.locals = none
  freeC:∀ x c,X.env.cells.lookup x = some c -> H c = none
  pin:∀ p ∈ X.pn ++ pins,s.heap.get? p.1 = some p.2 /\ H p.1 = none /\ p.1 ≠ X.env.locals /\ p.1 ∉ X.fs /\ ∀ v,p.2.data ≠ .cell v
  hok:HOk X.prog X.w H s.heap
  len:σ.length = X.N.length
section
variable {X:Cx} {pins:List (Addr × Obj)} {σ:List (Option V)} {H H':Hp} {s:Shared} {h':Heap}
theorem Cx.Ok.nofr (ok:X.Ok) {b:Addr} {o:Obj} (e:X.base.get? b = some o):b ∉ X.fs:=fun hb=>by
  have:=(ok.funs.mem hb).1
  rw [e] at this;cases this
theorem Inv.bs (I:Inv X pins σ H s):∀ b o,X.base.get? b = some o -> s.heap.get? b = some o /\ H b = none:=fun b o e=>
  ⟨I.base.keep b o (I.ok.bs b o e).1 (I.ok.bs b o e).2 (I.ok.nofr e) (I.ok.noex b o e),I.base.free b o (I.ok.bs b o e).1 (I.ok.bs b o e).2 (I.ok.noex b o e)⟩
theorem Inv.bk (I:Inv X pins σ H s):∀ b o,X.base.get? b = some o -> s.heap.get? b = some o:=fun b o e=>(I.bs b o e).1
theorem Inv.mod (I:Inv X pins σ H s):Mod X.K X.mg X.base:=I.ok.mod
theorem Inv.kIn (I:Inv X pins σ H s):X.K.In s.heap:=I.ok.mod.kin.keeps I.bk
theorem Inv.lt (I:Inv X pins σ H s):X.env.locals < s.heap.objs.size:=let ⟨_,hn,_⟩:=I.loc;hn.lt
theorem Inv.sz (I:Inv X pins σ H s):X.s₀.heap.objs.size <= s.heap.objs.size:=Nat.le_trans I.ok.above (Nat.le_of_lt I.lt)
theorem Inv.nofs (I:Inv X pins σ H s) {a:Addr} (h:s.heap.objs.size <= a):a ∉ X.fs:=fun hb=>by
  obtain ⟨_,o,ho,_⟩:=I.ok.funs.mem hb
  exact absurd (Nat.lt_of_lt_of_le (Heap.lt_size ho) (Nat.le_trans I.sz h)) (Nat.lt_irrefl _)
theorem Inv.cne (I:Inv X pins σ H s):∀ x c,X.env.cells.lookup x = some c -> c ≠ X.env.locals:=fun x c e z=>by
  obtain ⟨v,o,ho,hd⟩:=I.cell x c e
  obtain ⟨m,⟨o',es,ep,ho',hd',_⟩,_⟩:=I.loc
  rw [z,ho'] at ho;cases ho;rw [hd'] at hd;cases hd
theorem Inv.funs (I:Inv X pins σ H s):s.heap.FunFrames X.base X.outer:=by
  have all:∀ (l:List Env),(∀ b ∈ frs l,b ∈ X.fs) -> X.s₀.heap.FunFrames X.base l -> s.heap.FunFrames X.base l:=by
    intro l
    induction l with
    | nil=>intro _ _;trivial
    | cons env r ih=>
      intro hs hl
      obtain ⟨hk,⟨L,o,hf,hn,ho,hd⟩,hr⟩:=hl
      have hL:L ∈ X.fs:=hs L (by unfold frs;rw [List.filterMap_cons,hf];exact List.mem_cons_self)
      obtain ⟨sl,e⟩:=I.base.slot L o ho (I.ok.frf L hL) hL fun z=>I.ok.exfs L z hL
      exact ⟨hk,⟨L,_,hf,hn,e,hd⟩,ih (fun b hb=>hs b (by unfold frs;rw [List.filterMap_cons,hf];exact List.mem_cons_of_mem _ hb)) hr⟩
  exact all X.outer (fun _ hb=>hb) I.ok.funs
theorem Inv.stack (I:Inv X pins σ H s):s.heap.FunFrames X.base X.stack:=by
  rcases I.ok.stk with e | ⟨e,hf⟩
  · rw [e];exact I.funs
  · rw [e]
    obtain ⟨m,hn,_⟩:=I.loc
    refine .cons (by rw [I.ok.kind];decide) hf hn ?_ I.funs
    exact Heap.get?_none_of_le (Nat.le_trans I.ok.bsz I.ok.above)
theorem Inv.stkSub (I:Inv X pins σ H s):∀ b ∈ frs X.stack,b ∈ X.env.locals :: X.fs:=fun b hb=>by
  rcases I.ok.stk with e | ⟨e,hf⟩
  · rw [e] at hb;exact List.mem_cons_of_mem _ hb
  · rw [e] at hb
    unfold frs at hb
    rw [List.filterMap_cons,hf] at hb
    exact hb
theorem Inv.stkFree (I:Inv X pins σ H s):∀ b ∈ frs X.stack,H b = none:=fun b hb=>by
  rcases List.mem_cons.mp (I.stkSub b hb) with e | hb
  · rw [e];exact I.free
  · obtain ⟨_,o,ho,_⟩:=I.ok.funs.mem hb
    exact I.base.free b o ho (I.ok.frf b hb) fun z=>I.ok.exfs b z hb
theorem Inv.step {g':Array GenState} {t':Nat} {d':Drawn} {ch:List Addr} (I:Inv X pins σ H s)
    (hch:∀ b ∈ ch,(b ∈ X.ex \/ X.s₀.heap.objs.size <= b) /\ b ≠ X.env.locals /\ (∀ x c,X.env.cells.lookup x = some c -> c ≠ b) /\ ∀ p ∈ X.pn ++ pins,p.1 ≠ b)
    (keep:∀ b o,b ≠ X.env.locals -> b ∉ X.fs -> b ∉ ch -> s.heap.get? b = some o -> H b = none -> h'.get? b = some o)
    (slot:∀ b o,b ≠ X.env.locals -> b ∈ X.fs -> b ∉ ch -> s.heap.get? b = some o -> H b = none -> ∃ sl,h'.get? b = some { o with slots:=sl }) (free:∀ b o,b ∉ ch -> s.heap.get? b = some o -> H b = none -> H' b = none)
    (there:∀ b o,b ∉ ch -> s.heap.get? b = some o -> ∃ o',h'.get? b = some o')
    (tups:∀ b xs,H b = some (.tup xs) -> H' b = some (.tup xs)) (frzs:∀ b o u,H b = some (.frz o u) -> H' b = some (.frz o u)) (tbls:∀ b ps,H b = some (.tbl ps) -> ∃ more,H' b = some (.tbl (ps ++ more)))
    (ns:∀ m,s.heap.Ns X.env.locals m -> h'.Ns X.env.locals m) (hok:HOk X.prog X.w H' h') (hg:AllBare g') :
    Inv X pins σ H' { s with heap:=h',gens:=g',drawn:=d',toks:=t' }:=by
  have neL:∀ b o,X.s₀.heap.get? b = some o -> b ≠ X.env.locals:=fun b o e=>Nat.ne_of_lt (Nat.lt_of_lt_of_le (Heap.lt_size e) I.ok.above)
  have neC:∀ b o,X.s₀.heap.get? b = some o -> b ∉ X.ex -> b ∉ ch:=fun b o e hx hb=>by
    rcases (hch b hb).1 with z | z
    · exact hx z
    · exact absurd (Nat.lt_of_lt_of_le (Heap.lt_size e) z) (Nat.lt_irrefl _)
  have cellK:∀ x c,X.env.cells.lookup x = some c -> ∀ v,s.heap.IsCell c v -> h'.IsCell c v:=fun x c e v ⟨o,ho,hd⟩=>by
    have nch:c ∉ ch:=fun z=>(hch c z).2.2.1 x c e rfl
    by_cases hc:c ∈ X.fs
    · obtain ⟨sl,q⟩:=slot c o (I.cne x c e) hc nch ho (I.freeC x c e)
      exact ⟨_,q,hd⟩
    · exact ⟨o,keep c o (I.cne x c e) hc nch ho (I.freeC x c e),hd⟩
  refine ⟨I.ok,I.os,hg,⟨fun b o e n hb hx=>?_,fun b o e n hb hx=>?_,fun b o e n hx=>?_,fun b o e hx=>?_,fun b xs e=>tups b xs (I.base.tups b xs e),fun b o xs e=>frzs b o xs (I.base.frzs b o xs e),fun b ps e=>?_⟩,?_,fun x c e=>?_,?_,fun x c e=>?_,fun p hp=>?_,hok,I.len⟩
  · exact keep b o (neL b o e) hb (neC b o e hx) (I.base.keep b o e n hb hx) (I.base.free b o e n hx)
  · obtain ⟨sl,e1⟩:=I.base.slot b o e n hb hx
    obtain ⟨sl',e2⟩:=slot b _ (neL b o e) hb (neC b o e hx) e1 (I.base.free b o e n hx)
    exact ⟨sl',e2⟩
  · obtain ⟨o',e1⟩:=I.base.there b o e hx
    exact free b o' (neC b o e hx) e1 (I.base.free b o e n hx)
  · obtain ⟨o',e1⟩:=I.base.there b o e hx
    exact there b o' (neC b o e hx) e1
  · obtain ⟨m1,e1⟩:=I.base.tbls b ps e
    obtain ⟨m2,e2⟩:=tbls b _ e1
    exact ⟨m1 ++ m2,by rw [e2,Array.append_assoc]⟩
  · obtain ⟨m,hn,hl⟩:=I.loc
    refine ⟨m,ns m hn,fun i x v e1 e2 e3=>?_⟩
    obtain ⟨u,r,l⟩:=hl i x v e1 e2 e3
    refine ⟨u,r,?_⟩
    rcases l with l | ⟨k,c,e,z⟩
    · exact .inl l
    · exact .inr ⟨k,c,e,cellK x c e _ z⟩
  · obtain ⟨v,z⟩:=I.cell x c e
    exact ⟨v,cellK x c e v z⟩
  · obtain ⟨m,⟨o,_,_,ho,_⟩,_⟩:=I.loc
    exact free _ o (fun z=>(hch _ z).2.1 rfl) ho I.free
  · obtain ⟨v,o,ho,hd⟩:=I.cell x c e
    exact free c o (fun z=>(hch c z).2.2.1 x c e rfl) ho (I.freeC x c e)
  · obtain ⟨e,n,ne,nf,d⟩:=I.pin p hp
    have nch:p.1 ∉ ch:=fun z=>(hch p.1 z).2.2.2 p hp rfl
    exact ⟨keep p.1 p.2 ne nf nch e n,free p.1 p.2 nch e n,ne,nf,d⟩
theorem Inv.un {t':Nat} (I:Inv X pins σ H s) (u:Un X.fs [] H H' s.heap h') (hok:HOk X.prog X.w H' h'):Inv X pins σ H' { s with heap:=h',toks:=t' }:=by
  obtain ⟨m,⟨o,es,ep,ho,r⟩,_⟩:=id I.loc
  obtain ⟨sl,hL⟩:=u.any ho I.free (by simp)
  exact I.step (g':=s.gens) (d':=s.drawn) (ch:=[]) (fun _ z=>nomatch z) (fun b o _ hb _ e n=>u.keep b o e n hb (by simp)) (fun b o _ hb _ e n=>u.slot b o e n hb (by simp)) (fun b o _ e n=>u.free b o e n (by simp)) (fun b o _ e=>u.there b o e (by simp)) u.tups u.frzs u.tbls (fun m' hm=>by
    obtain ⟨o',es',ep',ho',r'⟩:=hm
    rw [ho] at ho';cases ho'
    exact ⟨_,es',ep',hL,r'⟩) hok I.bare
theorem Inv.call {g':Array GenState} {t':Nat} {d':Drawn} {ch:List Addr} (I:Inv X pins σ H s) (u:Un (frs X.stack) ch H H' s.heap h') (hok:HOk X.prog X.w H' h') (hg:AllBare g')
    (hch:∀ b ∈ ch,(b ∈ X.ex \/ X.s₀.heap.objs.size <= b) /\ b ≠ X.env.locals /\ (∀ x c,X.env.cells.lookup x = some c -> c ≠ b) /\ ∀ p ∈ X.pn ++ pins,p.1 ≠ b) :
    Inv X pins σ H' { s with heap:=h',gens:=g',drawn:=d',toks:=t' }:=by
  obtain ⟨m,⟨o,es,ep,ho,r⟩,_⟩:=id I.loc
  obtain ⟨sl,hL⟩:=u.any ho I.free fun z=>(hch _ z).2.1 rfl
  exact I.step (ch:=ch) hch (fun b o hL hb hc e n=>u.keep b o e n (fun z=>(List.mem_cons.mp (I.stkSub b z)).elim hL hb) hc) (fun b o _ _ hc e n=>u.any e n hc) (fun b o hc e n=>u.free b o e n hc) (fun b o hc e=>u.there b o e hc) u.tups u.frzs u.tbls (fun m' hm=>by
    obtain ⟨o',es',ep',ho',r'⟩:=hm
    rw [ho] at ho';cases ho'
    exact ⟨_,es',ep',hL,r'⟩) hok hg
theorem Inv.turned {t':Nat} {it:Addr} (I:Inv X pins σ H s) (k:∀ b o,b ≠ it -> s.heap.get? b = some o -> h'.get? b = some o) (hn:H it = none) (hL:it ≠ X.env.locals)
    (h1:it ∈ X.ex \/ X.s₀.heap.objs.size <= it) (h2:∀ x c,X.env.cells.lookup x = some c -> c ≠ it) (h3:∀ p ∈ X.pn ++ pins,p.1 ≠ it):Inv X pins σ H { s with heap:=h',toks:=t' }:=by
  have nit:∀ b u,H b = some u -> b ≠ it:=fun b u e z=>by rw [z,hn] at e;cases e
  refine I.step (g':=s.gens) (d':=s.drawn) (ch:=[it]) (fun b hb=>?_) (fun b o _ _ hc e _=>k b o (fun z=>hc (by simp [z])) e) (fun b o _ _ hc e _=>⟨o.slots,k b o (fun z=>hc (by simp [z])) e⟩) (fun _ _ _ _ n=>n)
    (fun b o hc e=>⟨o,k b o (fun z=>hc (by simp [z])) e⟩) (fun _ _ e=>e) (fun _ _ _ e=>e) (fun b ps e=>⟨#[],by rw [e];simp⟩) (fun m hm=>?_) (fun b u e=>?_) I.bare
  · have e:b = it:=by simpa using hb
    subst e
    exact ⟨h1,hL,h2,h3⟩
  · obtain ⟨o,es,ep,ho,r⟩:=hm
    exact ⟨o,es,ep,k _ o (Ne.symm hL) ho,r⟩
  · refine (I.hok b u e).stay (fun c v hc q=>k c v ?_ q) (fun _ q=>q) fun _ _ q=>q
    rcases hc with z | z
    · rw [z];exact nit b u e
    · exact nit c _ z
theorem Inv.tok (I:Inv X pins σ H s) (t:Nat):Inv X pins σ H { s with toks:=t }:=I.un (h':=s.heap) (t':=t) Un.refl I.hok
theorem Inv.kept {t':Nat} (I:Inv X pins σ H s) (k:∀ b u,s.heap.get? b = some u -> h'.get? b = some u):Inv X pins σ H { s with heap:=h',toks:=t' }:=I.un (Un.kept k) (I.hok.kept k)
theorem Inv.laid {a:Addr} {o:HO} {t':Nat} (I:Inv X pins σ H s) (k:∀ b u,s.heap.get? b = some u -> h'.get? b = some u) (hp:s.heap.objs.size <= a) (new:ObjOk X.prog X.w (upd H a o) h' a o) :
    Inv X pins σ (upd H a o) { s with heap:=h',toks:=t' }:=I.un (Un.laid k hp (I.hok.fresh hp)) (I.hok.laid k hp new)
theorem Inv.write {x e:Addr} {o:HO} {t':Nat} (I:Inv X pins σ H s) (mu:Mut (H x)) (he:e = x \/ H e = some (.own x)) (k:∀ b u,b ≠ e -> s.heap.get? b = some u -> h'.get? b = some u) (heo:∃ u,h'.get? e = some u)
    (new:ObjOk X.prog X.w (upd H x o) h' x o):Inv X pins σ (upd H x o) { s with heap:=h',toks:=t' }:=I.un (Un.write mu he k heo) (I.hok.write mu he k heo new)
theorem Inv.weak {σ':List (Option V)} (I:Inv X pins σ H s) (hl:σ'.length = σ.length) (w:∀ (i:Nat) v,σ'[i]? = some (some v) -> σ[i]? = some (some v)):Inv X pins σ' H s:=
  ⟨I.ok,I.os,I.bare,I.base,let ⟨m,hn,hl'⟩:=I.loc;⟨m,hn,fun i x v e1 e2 e3=>hl' i x v e1 (w i v e2) e3⟩,I.cell,I.free,I.freeC,I.pin,I.hok,hl.trans I.len⟩
theorem Inv.pins_of {pins':List (Addr × Obj)} (I:Inv X pins σ H s) (h:∀ p ∈ pins',s.heap.get? p.1 = some p.2 /\ H p.1 = none /\ p.1 ≠ X.env.locals /\ p.1 ∉ X.fs /\ ∀ v,p.2.data ≠ .cell v):Inv X pins' σ H s:=
  ⟨I.ok,I.os,I.bare,I.base,I.loc,I.cell,I.free,I.freeC,fun p hp=>(List.mem_append.mp hp).elim (fun z=>I.pin p (List.mem_append_left _ z)) (h p),I.hok,I.len⟩
theorem ZR {N:List Str} (hN:N.Nodup) {i j:Nat} {x:Str} (a:N[i]? = some x) (b:N[j]? = some x):i = j:=by
  obtain ⟨h1,e1⟩:=List.getElem?_eq_some_iff.mp a
  obtain ⟨h2,e2⟩:=List.getElem?_eq_some_iff.mp b
  exact (List.getElem_inj hN).mp (e1.trans e2.symm)
theorem Xz {M:Model} {A:Around} {E:Value -> Shared -> Prop} {i:Nat} {x:Str} {v:V} {u:Value} {Q:Unit -> Shared -> Prop} (I:Inv X pins σ H s) (hN:X.N.Nodup) (hi:X.N[i]? = some x) (hx:Loc X.env.scope x) (r:RelV v u)
    (h:∀ s',Inv X pins (σ.set i (some v)) H s' -> (∃ a,Heap.SameBut a s.heap s'.heap /\ (a = X.env.locals \/ X.env.cells.lookup x = some a)) -> Q () s') (hf:X.fn x = true \/ X.env.scope.names.lookup x = some .local:=by first | exact .inl rfl | exact .inr rfl | assumption):wpAny M A (storeName X.env x u) Q E s:=by
  obtain ⟨m,hn,hl⟩:=id I.loc
  have hcls:(X.env.scope.kind == .class || (X.env.scope.kind == .module && X.env.locals != X.env.globals)) = false:=by rw [I.ok.kind];rfl
  have hiσ:i < σ.length:=by rw [I.len];exact (List.getElem?_eq_some_iff.mp hi).1
  have cne:=I.cne
  have tracked:∀ {a:Addr} {h':Heap},(∃ o,s.heap.get? a = some o /\ H a = none) -> Heap.SameBut a s.heap h' -> HOk X.prog X.w H h':=fun {a h'} ha hs b ob e=>by
    obtain ⟨_,_,hfree⟩:=ha
    refine (I.hok b ob e).stay (fun c w' hc q=>(hs.2 c ?_).trans q) (fun _ q=>q) fun _ _ q=>q
    rintro rfl
    rcases hc with rfl | hc
    · rw [hfree] at e;cases e
    · rw [hfree] at hc;cases hc
  rcases hx with hk | hk
  · refine wpAny_storeName_local hk hn (fun h' hn' hs=>?_) hcls
    obtain ⟨oL,_,_,hoL,_⟩:=id hn
    refine h _ ⟨I.ok,I.os,I.bare,⟨fun b o e n hb hx=>?_,fun b o e n hb hx=>?_,I.base.free,fun b o e hx=>?_,I.base.tups,I.base.frzs,I.base.tbls⟩,⟨_,hn',fun j y v' e1 e2 e3=>?_⟩,fun y c e=>?_,I.free,I.freeC,fun p hp=>?_,tracked ⟨oL,hoL,I.free⟩ hs,by simpa using I.len⟩ ⟨_,hs,.inl rfl⟩
    · exact (hs.2 b (Nat.ne_of_lt (Nat.lt_of_lt_of_le (Heap.lt_size e) I.ok.above))).trans (I.base.keep b o e n hb hx)
    · obtain ⟨sl,e1⟩:=I.base.slot b o e n hb hx
      exact ⟨sl,(hs.2 b (Nat.ne_of_lt (Nat.lt_of_lt_of_le (Heap.lt_size e) I.ok.above))).trans e1⟩
    · obtain ⟨o',e1⟩:=I.base.there b o e hx
      exact ⟨o',(hs.2 b (Nat.ne_of_lt (Nat.lt_of_lt_of_le (Heap.lt_size e) I.ok.above))).trans e1⟩
    · by_cases hj:j = i
      · subst hj
        rw [hi] at e1;cases e1
        rw [List.getElem?_set_self hiσ] at e2
        cases e2
        exact ⟨u,r,.inl ⟨hk,by simp⟩⟩
      · rw [List.getElem?_set_ne (Ne.symm hj)] at e2
        obtain ⟨u',r',q⟩:=hl j y v' e1 e2 e3
        refine ⟨u',r',?_⟩
        rcases q with ⟨k,e⟩ | ⟨k,c,e,z⟩
        · refine .inl ⟨k,?_⟩
          have:y ≠ x:=fun e=>hj (ZR hN e1 (e ▸ hi))
          simp [this,e]
        · exact .inr ⟨k,c,e,z.sameBut hs (cne y c e)⟩
    · obtain ⟨w',z⟩:=I.cell y c e
      exact ⟨w',z.sameBut hs (cne y c e)⟩
    · obtain ⟨e,n,ne,nf,d⟩:=I.pin p hp
      exact ⟨(hs.2 p.1 ne).trans e,n,ne,nf,d⟩
  · have hfn:X.fn x = true:=by
      rcases hf with z | z
      · exact z
      · rw [z] at hk;cases hk
    obtain ⟨c,hc⟩:=I.ok.has x (.inl hk)
    obtain ⟨w',z⟩:=I.cell x c hc
    refine wpAny_storeName_cell I.ok.kind hk hc z (fun h' hc' hs=>?_)
    obtain ⟨oc,hoc,hocd⟩:=id z
    refine h { s with heap:=h' } ⟨I.ok,I.os,I.bare,⟨fun b o e n hb hx=>?_,fun b o e n hb hx=>?_,I.base.free,fun b o e hx=>?_,I.base.tups,I.base.frzs,I.base.tbls⟩,⟨m,hn.sameBut hs (Ne.symm (cne x c hc)),fun j y v' e1 e2 e3=>?_⟩,fun y c' e=>?_,I.free,I.freeC,fun p hp=>?_,tracked ⟨oc,hoc,I.freeC x c hc⟩ hs,by simpa using I.len⟩ ⟨c,hs,.inr hc⟩
    · exact (hs.2 b (Nat.ne_of_lt (Nat.lt_of_lt_of_le (Heap.lt_size e) (I.ok.cab x c hfn hc)))).trans (I.base.keep b o e n hb hx)
    · obtain ⟨sl,e1⟩:=I.base.slot b o e n hb hx
      exact ⟨sl,(hs.2 b (Nat.ne_of_lt (Nat.lt_of_lt_of_le (Heap.lt_size e) (I.ok.cab x c hfn hc)))).trans e1⟩
    · obtain ⟨o',e1⟩:=I.base.there b o e hx
      exact ⟨o',(hs.2 b (Nat.ne_of_lt (Nat.lt_of_lt_of_le (Heap.lt_size e) (I.ok.cab x c hfn hc)))).trans e1⟩
    · by_cases hj:j = i
      · subst hj
        rw [hi] at e1;cases e1
        rw [List.getElem?_set_self hiσ] at e2
        cases e2
        exact ⟨u,r,.inr ⟨.inl hk,c,hc,hc'⟩⟩
      · rw [List.getElem?_set_ne (Ne.symm hj)] at e2
        obtain ⟨u',r',q⟩:=hl j y v' e1 e2 e3
        refine ⟨u',r',?_⟩
        rcases q with q | ⟨k,c',e,z'⟩
        · exact .inl q
        · refine .inr ⟨k,c',e,z'.sameBut hs ?_⟩
          rintro rfl
          exact hj (ZR hN e1 (I.ok.inj _ _ _ e hc ▸ hi))
    · by_cases hcc:c' = c
      · subst hcc;exact ⟨_,hc'⟩
      · obtain ⟨w2,z2⟩:=I.cell y c' e
        exact ⟨w2,z2.sameBut hs hcc⟩
    · obtain ⟨e,n,ne,nf,d⟩:=I.pin p hp
      refine ⟨(hs.2 p.1 ?_).trans e,n,ne,nf,d⟩
      intro q
      rw [q,hoc] at e
      have q':oc = p.2:=Option.some.inj e
      exact d w' (by rw [<- q'];exact hocd)
theorem qQ {M:Model} {A:Around} {E:Value -> Shared -> Prop} {i:Nat} {x:Str} {v:V} {u:Value} {Q:Unit -> Shared -> Prop} (I:Inv X pins σ H s) (hN:X.N.Nodup) (hi:X.N[i]? = some x) (hx:Loc X.env.scope x) (r:RelV v u)
    (h:∀ s',Inv X pins (σ.set i (some v)) H s' -> Q () s') (hf:X.fn x = true \/ X.env.scope.names.lookup x = some .local:=by first | exact .inl rfl | exact .inr rfl | assumption):wpAny M A (storeName X.env x u) Q E s:=
  Xz I hN hi hx r (fun s' I' _=>h s' I') hf
theorem Inv.call' {s':Shared} {ch:List Addr} (I:Inv X pins σ H s) (ho:s'.os = s.os) (u:Un (frs X.stack) ch H H' s.heap s'.heap) (hok:HOk X.prog X.w H' s'.heap) (hg:AllBare s'.gens)
    (hch:∀ b ∈ ch,(b ∈ X.ex \/ X.s₀.heap.objs.size <= b) /\ b ≠ X.env.locals /\ (∀ x c,X.env.cells.lookup x = some c -> c ≠ b) /\ ∀ p ∈ X.pn ++ pins,p.1 ≠ b):Inv X pins σ H' s':=by
  obtain ⟨h',g',d',t',o'⟩:=s'
  have e:o' = s.os:=ho
  subst e
  exact I.call (g':=g') (t':=t') (d':=d') u hok hg hch
end
abbrev XK:=Value -> Option Addr -> Hp -> Prop
abbrev St:=List (Option V)
abbrev VK:=V -> Hp -> Prop
abbrev TE:=St -> Hp -> VK -> Prop
abbrev TT:=St -> Hp -> (Bool -> Hp -> Prop) -> Prop
abbrev TA:=St -> Hp -> (List V -> Hp -> Prop) -> Prop
structure Zn where
  nx:St -> Hp -> Prop
  rt:VK
  bk:St -> Hp -> Prop:=fun _ _=>False
  ct:St -> Hp -> Prop:=fun _ _=>False
abbrev TS:=Zn -> St -> Hp -> Prop
def EP (X:Cx) (pins:List (Addr × Obj)) (σ:St) (Q:VK) (u:Value) (s':Shared):Prop:=∃ v H',Inv X pins σ H' s' /\ RelV v u /\ Q v H'
def TP (X:Cx) (pins:List (Addr × Obj)) (σ:St) (Q:Bool -> Hp -> Prop) (b:Bool) (s':Shared):Prop:=∃ H',Inv X pins σ H' s' /\ Q b H'
def AP (X:Cx) (pins:List (Addr × Obj)) (σ:St) (Q:List V -> Hp -> Prop) (us:List Value) (s':Shared):Prop:=∃ vs H',Inv X pins σ H' s' /\ Vals vs us /\ Q vs H'
def SP (X:Cx) (pins:List (Addr × Obj)) (D:Zn) (f:Flow) (s':Shared):Prop:=
  match f with
  | .next=>∃ σ' H',Inv X pins σ' H' s' /\ D.nx σ' H'
  | .brk=>∃ σ' H',Inv X pins σ' H' s' /\ D.bk σ' H'
  | .cont=>∃ σ' H',Inv X pins σ' H' s' /\ D.ct σ' H'
  | .ret u=>∃ v σ' H',Inv X pins σ' H' s' /\ RelV v u /\ D.rt v H'
def PE (X:Cx) (e:Expr) (t:TE):Prop:=
  ∀ (pins:List (Addr × Obj)) (s:Shared) (σ:St) (H:Hp) (Q:VK),Inv X pins σ H s -> t σ H Q -> wpAny (model X.prog X.w) X.A (eval e X.env) (EP X pins σ Q) X.xe s
def PT (X:Cx) (e:Expr) (t:TT):Prop:=
  ∀ (pins:List (Addr × Obj)) (s:Shared) (σ:St) (H:Hp) (Q:Bool -> Hp -> Prop),Inv X pins σ H s -> t σ H Q -> wpAny (model X.prog X.w) X.A (isTrue e X.env (eval e X.env)) (TP X pins σ Q) X.xe s
def PW (X:Cx) (e:Expr) (t:TT):Prop:=
  ∀ (whole:Sem Value) (pins:List (Addr × Obj)) (s:Shared) (σ:St) (H:Hp) (Q:Bool -> Hp -> Prop),Inv X pins σ H s -> t σ H Q -> wpAny (model X.prog X.w) X.A (isTrue e X.env whole) (TP X pins σ Q) X.xe s
theorem PW.pt {X:Cx} {e:Expr} {t:TT} (h:PW X e t):PT X e t:=h _
def PA (X:Cx) (es:List Expr) (t:TA):Prop:=
  ∀ (pos:Pos) (pins:List (Addr × Obj)) (s:Shared) (σ:St) (H:Hp) (Q:List V -> Hp -> Prop),Inv X pins σ H s -> t σ H Q -> wpAny (model X.prog X.w) X.A (spliced (backTo pos (starEach es X.env))) (AP X pins σ Q) X.xe s
def PS (X:Cx) (st:Stmt) (t:TS):Prop:=
  ∀ (pins:List (Addr × Obj)) (s:Shared) (σ:St) (H:Hp) (D:Zn),Inv X pins σ H s -> t D σ H -> wpAny (model X.prog X.w) X.A (exec st X.env) (SP X pins D) X.xe s
def PSs (X:Cx) (st:List Stmt) (t:TS):Prop:=
  ∀ (pins:List (Addr × Obj)) (s:Shared) (σ:St) (H:Hp) (D:Zn),Inv X pins σ H s -> t D σ H -> wpAny (model X.prog X.w) X.A (execs st X.env) (SP X pins D) X.xe s
theorem thn {α:Type} {t:Sem α} {Q Q':α -> Shared -> Prop} {M:Model} {A:Around} {E:Value -> Shared -> Prop} {s:Shared} (h:wpAny M A t Q E s) (hQ:∀ a s,Q a s -> Q' a s):wpAny M A t Q' E s:=wpAny_mono h hQ fun _ _ x=>x
section
variable {X:Cx}
inductive IsB (x:V) (H:Hp) (Q:Bool -> Hp -> Prop):Prop
  | mk (c:Bool) (h:x = .bl c) (q:Q c H):IsB x H Q
inductive IsI (x:V) (H:Hp) (Q:Int -> Hp -> Prop):Prop
  | mk (i:Int) (h:x = .int i) (q:Q i H):IsI x H Q
inductive zbt (vs:List V) (H:Hp) (Q:V -> V -> Hp -> Prop):Prop
  | mk (v w:V) (h:vs = [v,w]) (q:Q v w H):zbt vs H Q
inductive zac (i:Nat) (σ:St) (H:Hp) (Q:VK):Prop
  | mk (v:_) (_:σ[i]? = some (some v)) (_:Q v H):zac i σ H Q
def tC (v:V):TE:=fun _ H Q=>Q v H
theorem zar {i:Nat} {x:Str} {pos:Pos} (hN:X.N[i]? = some x) (hv:Vis X.env.scope x) (hd:(x == ("__debug__" : Str)) = false:=by decide) (hcd:(x == ("__classdict__" : Str)) = false:=by decide):PE X (.Name x pos) (zac i):=by
  intro pins s σ H Q I h
  obtain ⟨v,e,h⟩:=h
  obtain ⟨m,hn,hl⟩:=I.loc
  obtain ⟨u,r,l⟩:=hl i x v hN e hv
  have fin:EP X pins σ Q u s:=⟨v,H,I,r,h⟩
  rcases l with ⟨hk,hm⟩ | ⟨hk,c,hc,hcell⟩
  · exact wpAny_Name (wpAny_loadName_local I.ok.kind hk hn hm fin) hd
  · rcases hk with hk | hk
    · exact wpAny_Name (wpAny_loadName_cell I.ok.kind hk hc hcell fin) hd
    · exact wpAny_Name (wpAny_loadName_free I.ok.kind hk hc hcell fin hcd) hd
theorem zk {i j pos}:PE X (.Constant (.int i) j pos) (tC (.int i)):=fun _ _ _ H _ I h=>wpAny_Constant_int ⟨.int i,H,I.tok _,⟨_,rfl⟩,h⟩
theorem jw {b j pos}:PE X (.Constant (.bool b) j pos) (tC (.bl b)):=fun _ _ _ H _ I h=>Constant_bool ⟨.bl b,H,I,rfl,h⟩
theorem VN {x j pos}:PE X (.Constant (.str x) j pos) (tC (.str x)):=fun _ _ _ H _ I h=>Calls.Constant_str ⟨.str x,H,I.tok _,⟨_,rfl⟩,h⟩
def Gl (X:Cx) (x:Str):Prop:=X.env.kindOf x = some .globalImplicit
theorem Ys {E:Value -> Shared -> Prop} {pins:List (Addr × Obj)} {s:Shared} {σ:St} {H:Hp} {x:Str} {u:Value} {pos:Pos} {Q:Value -> Shared -> Prop} (I:Inv X pins σ H s) (hg:Gl X x) (hm:X.mg x = some u) (h:Q u s)
    (hd:(x == ("__debug__" : Str)) = false:=by decide):wpAny (model X.prog X.w) X.A (eval (.Name x pos) X.env) Q E s:=
  Calls.Name_function_global I.ok.kind hg (Calls.loadGlobal_global (by rw [I.ok.glob];exact I.mod.glob.keeps I.bk) hm h) hd
theorem qZ {E:Value -> Shared -> Prop} {pins:List (Addr × Obj)} {s:Shared} {σ:St} {H:Hp} {x:Str} {u:Value} {pos:Pos} {Q:Value -> Shared -> Prop} (I:Inv X pins σ H s) (hg:Gl X x) (hm:X.mg x = none) (hv:bootBuiltins x = some u) (h:Q u s)
    (hn:x ≠ "__name__" :=by decide) (hd:(x == ("__debug__" : Str)) = false:=by decide):wpAny (model X.prog X.w) X.A (eval (.Name x pos) X.env) Q E s:=by
  obtain ⟨mb,h1,h2⟩:=I.mod.blt
  exact Calls.Name_function_global I.ok.kind hg (Calls.loadGlobal_builtin (by rw [I.ok.glob];exact I.mod.glob.keeps I.bk) hm (by rw [I.ok.blt];exact h1.keeps I.bk) ((h2 x hn).trans hv) h) hd
variable {a b:Expr} {ta tb:TE} {pos:Pos}
def PC (X:Cx) (op:CmpOp) (a b:Expr) (t:TE):Prop:=
  ∀ (pins:List (Addr × Obj)) (s:Shared) (σ:St) (H:Hp) (Q:VK),Inv X pins σ H s -> t σ H Q ->
    wpAny (model X.prog X.w) X.A (eval a X.env) (fun v s₁=>wpAny (model X.prog X.w) X.A (eval b X.env) (fun u s₂=>wpAny (model X.prog X.w) X.A (compareOp op v u) (EP X pins σ Q) X.xe s₂) X.xe s₁) X.xe s
def tB (t:TE):TT:=fun σ H Q=>t σ H fun x H1=>IsB x H1 Q
theorem jB {e:Expr} {t:TE} (h:PE X e t) (he:∀ whole,isTrue e X.env whole = (do let v <- whole;standAt e.pos;holding [v] (truthy v)):=by intro _;rfl):PT X e (tB t):=by
  intro pins s σ H Q I hw
  refine isTrue_plain (thn (h pins s σ H _ I hw) fun v s1 ⟨x,H1,I1,r1,q1⟩=>?_) (he _)
  obtain ⟨d,rfl,q⟩:=q1
  cases r1
  exact wpAny_truthy_bool ⟨H1,I1,q⟩
variable {tA tB':TT} {qu:List Expr}
def zbM (t u:TT):TT:=fun σ H Q=>t σ H fun c H1=>if c = true then u σ H1 Q else Q false H1
def tOr (t u:TT):TT:=fun σ H Q=>t σ H fun c H1=>if c = true then Q true H1 else u σ H1 Q
def zbF (t:TT):TT:=fun σ H Q=>t σ H fun c H1=>Q (!c) H1
theorem yN (ha:PT X a tA):PW X (.BoolOp .And [a] pos) tA:=by
  intro wh pins s σ H Q I h
  refine isTrue_and (thn (ha pins s σ H Q I h) fun c s1 e=>?_)
  cases c with
  | true=>exact isTrue_and_nil e
  | false=>exact e
theorem xU (ha:PT X a tA):PW X (.BoolOp .Or [a] pos) tA:=by
  intro wh pins s σ H Q I h
  refine isTrue_or (thn (ha pins s σ H Q I h) fun c s1 e=>?_)
  cases c with
  | false=>exact isTrue_or_nil e
  | true=>exact e
theorem QE (ha:PT X a tA) (hb:PW X (.BoolOp .And (b :: qu) pos) tB'):PW X (.BoolOp .And (a :: b :: qu) pos) (zbM tA tB'):=by
  intro wh pins s σ H Q I h
  refine isTrue_and (thn (ha pins s σ H _ I h) fun c s1 ⟨H1,I1,q1⟩=>?_)
  cases c with
  | true=>exact hb wh pins s1 σ H1 Q I1 q1
  | false=>exact ⟨H1,I1,q1⟩
theorem w9 (ha:PT X a tA) (hb:PW X (.BoolOp .Or (b :: qu) pos) tB'):PW X (.BoolOp .Or (a :: b :: qu) pos) (tOr tA tB'):=by
  intro wh pins s σ H Q I h
  refine isTrue_or (thn (ha pins s σ H _ I h) fun c s1 ⟨H1,I1,q1⟩=>?_)
  cases c with
  | true=>exact ⟨H1,I1,q1⟩
  | false=>exact hb wh pins s1 σ H1 Q I1 q1
theorem jP (ha:PT X a tA):PT X (.UnaryOp .Not a pos) (zbF tA):=by
  intro pins s σ H Q I h
  exact isTrue_not (ha pins s σ H (fun c H1=>Q (!c) H1) I h)
def za3 (ta tb:TE):TE:=fun σ H Q=>ta σ H fun x H1=>IsB x H1 fun c H1=>if c = true then tb σ H1 Q else Q (.bl false) H1
def zbE (ta tb:TE):TE:=fun σ H Q=>ta σ H fun x H1=>IsB x H1 fun c H1=>if c = true then Q (.bl true) H1 else tb σ H1 Q
theorem VO {op} {t:TE} (h:PE X a t):PE X (.BoolOp op [a] pos) t:=fun pins s σ H Q I hw=>BoolOp_one (h pins s σ H Q I hw)
theorem zau (ha:PE X a ta) (hb:PE X (.BoolOp .And (b :: qu) pos) tb):PE X (.BoolOp .And (a :: b :: qu) pos) (za3 ta tb):=by
  intro pins s σ H Q I h
  refine BoolOp_and (thn (ha pins s σ H _ I h) fun v s1 ⟨x,H1,I1,r1,q1⟩=>?_)
  obtain ⟨c,rfl,q1⟩:=q1
  cases r1
  refine wpAny_truthy_bool ?_
  cases c with
  | true=>exact hb pins s1 σ H1 Q I1 q1
  | false=>exact ⟨.bl false,H1,I1,rfl,q1⟩
theorem zbe (ha:PE X a ta) (hb:PE X (.BoolOp .Or (b :: qu) pos) tb):PE X (.BoolOp .Or (a :: b :: qu) pos) (zbE ta tb):=by
  intro pins s σ H Q I h
  refine BoolOp_or (thn (ha pins s σ H _ I h) fun v s1 ⟨x,H1,I1,r1,q1⟩=>?_)
  obtain ⟨c,rfl,q1⟩:=q1
  cases r1
  refine wpAny_truthy_bool ?_
  cases c with
  | false=>exact hb pins s1 σ H1 Q I1 q1
  | true=>exact ⟨.bl true,H1,I1,rfl,q1⟩
def tIf (t:TT) (ta tb:TE):TE:=fun σ H Q=>t σ H fun c H1=>if c = true then ta σ H1 Q else tb σ H1 Q
theorem xy {c:Expr} (hc:PT X c tA) (ha:PE X a ta) (hb:PE X b tb):PE X (.IfExp c a b pos) (tIf tA ta tb):=by
  intro pins s σ H Q I h
  refine wpAny_IfExp (thn (hc pins s σ H _ I h) fun d s1 ⟨H1,I1,q1⟩=>?_)
  cases d with
  | true=>exact ha pins s1 σ H1 Q I1 q1
  | false=>exact hb pins s1 σ H1 Q I1 q1
end
def SqL (K:PySem.W.Frag) (H:Hp) (a:Addr) (xs:List V):Prop:=
  Rd H a (.lst xs) \/
    ∃ (o:Obj) (its:Array Value) (n:Nat),K.lookup a = some o /\ o.cls = .type "list" /\ o.dict = none /\ o.data = .seq its n /\ its.size <= sizeLine /\ Vals xs its.toList
def SqT (K:PySem.W.Frag) (H:Hp) (a:Addr) (xs:List V):Prop:=
  Rd H a (.tup xs) \/
    ∃ (o:Obj) (its:Array Value) (n:Nat),K.lookup a = some o /\ o.cls = .type "tuple" /\ o.data = .seq its n /\ its.size <= sizeLine /\ Vals xs its.toList
def zbR:Value -> Option V
  | .none=>some .non
  | .bool b=>some (.bl b)
  | .int i _=>some (.int i)
  | .str x _=>some (.str x)
  | .bytes b _=>some (.byt b)
  | .float b _=>some (.flt b)
  | .ref a=>some (.ref a)
  | .type n=>some (.ty n)
  | _=>none
theorem RelV.abs {x:V} {u:Value} (r:RelV x u):zbR u = some x:=by
  cases x with
  | non=>cases r;rfl
  | bl _=>cases r;rfl
  | int _=>obtain ⟨t,rfl⟩:=r;rfl
  | str _=>obtain ⟨t,rfl⟩:=r;rfl
  | byt _=>obtain ⟨t,rfl⟩:=r;rfl
  | flt _=>obtain ⟨t,rfl⟩:=r;rfl
  | ref _=>cases r;rfl
  | ty _=>cases r;rfl
theorem RelV.inj {x y:V} {u:Value} (r:RelV x u) (q:RelV y u):x = y:=Option.some.inj (r.abs.symm.trans q.abs)
theorem Vals.inj:∀ {xs ys:List V} {us:List Value},Vals xs us -> Vals ys us -> xs = ys
  | _,_,_,.nil,.nil=>rfl
  | _,_,_,.cons r t,.cons r' t'=>by rw [r.inj r',Vals.inj t t']
section
variable {X:Cx} {pins:List (Addr × Obj)} {σ:St} {H:Hp} {s:Shared} {a:Addr} {xs ys:List V}
theorem SqL.of {K:PySem.W.Frag} (h:H a = some (.lst xs)):SqL K H a xs:=.inl (.inl h)
theorem SqT.of {K:PySem.W.Frag} (h:H a = some (.tup xs)):SqT K H a xs:=.inl (.inl h)
theorem Inv.list (I:Inv X pins σ H s) (h:SqL X.K H a xs):∃ its:List Value,Vals xs its /\ PlainL s.heap a its.toArray /\ xs.length <= sizeLine:=by
  rcases h with h | ⟨o,its,n,hk,hc,hd,hs,hz,r⟩
  · obtain ⟨z,its,n,r,e⟩:=h.ok I.hok
    exact ⟨its,r,⟨_,n,e,rfl,rfl,rfl⟩,z⟩
  · refine ⟨its.toList,r,⟨o,n,I.kIn a o hk,hc,hd,by simpa using hs⟩,?_⟩
    have e:=r.length
    simp only [Array.length_toList] at e
    omega
theorem Inv.tuple (I:Inv X pins σ H s) (h:SqT X.K H a xs):∃ its:List Value,Vals xs its /\ IsTup s.heap a its.toArray /\ xs.length <= sizeLine:=by
  rcases h with h | ⟨o,its,n,hk,hc,hs,hz,r⟩
  · obtain ⟨z,its,r,p⟩:=h.ok I.hok
    exact ⟨its,r,p.1,z⟩
  · refine ⟨its.toList,r,⟨o,I.kIn a o hk,hc,n,by simpa using hs⟩,?_⟩
    have e:=r.length
    simp only [Array.length_toList] at e
    omega
theorem Inv.list_inj (I:Inv X pins σ H s) (h:SqL X.K H a xs) (h':SqL X.K H a ys):xs = ys:=by
  obtain ⟨its,r,⟨o,n,e,_,_,d⟩,_⟩:=I.list h
  obtain ⟨its',r',⟨o',n',e',_,_,d'⟩,_⟩:=I.list h'
  rw [e] at e';cases e'
  rw [d] at d'
  injection d' with d1 _
  have:its = its':=by simpa using congrArg Array.toList d1
  subst this
  exact r.inj r'
theorem Inv.tuple_inj (I:Inv X pins σ H s) (h:SqT X.K H a xs) (h':SqT X.K H a ys):xs = ys:=by
  obtain ⟨its,r,⟨o,e,_,n,d⟩,_⟩:=I.tuple h
  obtain ⟨its',r',⟨o',e',_,n',d'⟩,_⟩:=I.tuple h'
  rw [e] at e';cases e'
  rw [d] at d'
  injection d' with d1 _
  have:its = its':=by simpa using congrArg Array.toList d1
  subst this
  exact r.inj r'
end
abbrev Cx.wish (X:Cx) (E:Value -> Shared -> Prop):Cx:={ X with xe:=E }
abbrev Cx.nox (X:Cx):Cx:=X.wish fun _ _=>False
theorem Cx.Ok.wish {X:Cx} (ok:X.Ok) (E:Value -> Shared -> Prop):(X.wish E).Ok:=
  ⟨ok.mod,ok.kind,ok.glob,ok.blt,ok.above,ok.inj,ok.has,ok.cab,ok.hd,ok.frames,ok.stk,ok.exf,ok.bs,ok.bsz,ok.noex,ok.exfs,ok.funs,ok.frf⟩
theorem Cx.Ok.unwish {X:Cx} {E:Value -> Shared -> Prop} (ok:(X.wish E).Ok):X.Ok:=
  ⟨ok.mod,ok.kind,ok.glob,ok.blt,ok.above,ok.inj,ok.has,ok.cab,ok.hd,ok.frames,ok.stk,ok.exf,ok.bs,ok.bsz,ok.noex,ok.exfs,ok.funs,ok.frf⟩
section
variable {X:Cx} {pins:List (Addr × Obj)} {σ:St} {H:Hp} {s:Shared} {E:Value -> Shared -> Prop}
theorem Inv.wish (I:Inv X pins σ H s) (E:Value -> Shared -> Prop):Inv (X.wish E) pins σ H s:=⟨I.ok.wish E,I.os,I.bare,I.base,I.loc,I.cell,I.free,I.freeC,I.pin,I.hok,I.len⟩
theorem Inv.unwish (I:Inv (X.wish E) pins σ H s):Inv X pins σ H s:=⟨I.ok.unwish,I.os,I.bare,I.base,I.loc,I.cell,I.free,I.freeC,I.pin,I.hok,I.len⟩
theorem SP.unwish {D:Zn} {f:Flow} {s':Shared} (h:SP (X.wish E) pins D f s'):SP X pins D f s':=by
  cases f with
  | next=>obtain ⟨σ',H',I,q⟩:=h;exact ⟨σ',H',I.unwish,q⟩
  | brk=>obtain ⟨σ',H',I,q⟩:=h;exact ⟨σ',H',I.unwish,q⟩
  | cont=>obtain ⟨σ',H',I,q⟩:=h;exact ⟨σ',H',I.unwish,q⟩
  | ret u=>obtain ⟨v,σ',H',I,r,q⟩:=h;exact ⟨v,σ',H',I.unwish,r,q⟩
theorem PSs.nox {st:List Stmt} {t:TS} (h:PSs X.nox st t):PSs X st t:=fun pins s σ H D I hw=>
  wpAny_mono (h pins s σ H D (I.wish _) hw) (fun _ _ q=>q.unwish) fun _ _ z=>False.elim z
end
section
variable {X:Cx} {st:Stmt} {qu:List Stmt} {t u:TS} {e:Expr} {te:TE} {pos:Pos}
def zaZ:TS:=fun D σ H=>D.nx σ H
def zbB (t u:TS):TS:=fun D σ H=>t { D with nx:=u D } σ H
theorem qw:PSs X [] zaZ:=fun _ _ σ H _ I h=>wpAny_execs_nil ⟨σ,H,I,h⟩
theorem zi (h1:PS X st t) (h2:PSs X qu u):PSs X (st :: qu) (zbB t u):=by
  intro pins s σ H D I h
  refine wpAny_execs_cons (thn (h1 pins s σ H { D with nx:=u D } I h) fun f s1 q=>?_)
  cases f with
  | next=>
    obtain ⟨σ',H',I',q⟩:=q
    exact h2 pins s1 σ' H' D I' q
  | ret v=>exact q
  | brk=>exact q
  | cont=>exact q
theorem zr (h1:PS X st t):PSs X [st] t:=by
  intro pins s σ H D I h
  refine wpAny_execs_cons (thn (h1 pins s σ H D I h) fun f s1 q=>?_)
  cases f with
  | next=>exact wpAny_execs_nil q
  | ret v=>exact q
  | brk=>exact q
  | cont=>exact q
theorem Inv.quiet {pins:List (Addr × Obj)} {σ:St} {H:Hp} {s:Shared} (I:Inv X pins σ H s):interactive X.env = false:=by simp [interactive,I.ok.kind]
def za0 (te:TE):TS:=fun D σ H=>te σ H fun _ H1=>D.nx σ H1
theorem qU (he:PE X e te) (hs:swapsWith e none pos.line X.env = pure false:=by rfl):PS X (.Expr e pos) (za0 te):=by
  intro pins s σ H D I h
  exact wpAny_Expr_any (thn (he pins s σ H _ I h) fun v s1 ⟨x,H1,I1,r1,q1⟩=>⟨σ,H1,I1,q1⟩) I.quiet hs
def zbC (te:TE):TS:=fun D σ H=>te σ H D.rt
theorem zI (he:PE X e te):PS X (.Return (some e) pos) (zbC te):=by
  intro pins s σ H D I h
  exact wpAny_Return_some (thn (he pins s σ H _ I h) fun v s1 ⟨x,H1,I1,r1,q1⟩=>⟨x,σ,H1,I1,r1,q1⟩)
def zbI (c:TT) (t u:TS):TS:=fun D σ H=>c σ H fun b H1=>if b = true then t D σ H1 else u D σ H1
theorem jf {c:Expr} {a b:List Stmt} {tc:TT} (hc:PT X c tc) (ha:PSs X a t) (hb:PSs X b u):PS X (.If c a b pos) (zbI tc t u):=by
  intro pins s σ H D I h
  refine wpAny_If (thn (hc pins s σ H _ I h) fun d s1 ⟨H1,I1,q1⟩=>?_)
  cases d with
  | true=>exact ha pins s1 σ H1 D I1 q1
  | false=>exact hb pins s1 σ H1 D I1 q1
end
abbrev TG:=V -> St -> Hp -> (St -> Hp -> Prop) -> Prop
abbrev TGs:=List V -> St -> Hp -> (St -> Hp -> Prop) -> Prop
def PG (X:Cx) (target:Expr) (t:TG):Prop:=
  ∀ (pins:List (Addr × Obj)) (s:Shared) (σ:St) (H:Hp) (v:V) (u:Value) (Q:St -> Hp -> Prop),Inv X pins σ H s -> RelV v u -> t v σ H Q ->
    wpAny (model X.prog X.w) X.A (assign target X.env u) (fun _ s'=>∃ σ' H',Inv X pins σ' H' s' /\ Q σ' H') X.xe s
def PGs (X:Cx) (ts:List Expr) (t:TGs):Prop:=
  ∀ (pins:List (Addr × Obj)) (s:Shared) (σ:St) (H:Hp) (vs:List V) (us:List Value) (Q:St -> Hp -> Prop),Inv X pins σ H s -> Vals vs us -> t vs σ H Q ->
    wpAny (model X.prog X.w) X.A (assignInOrder ((assignEach ts X.env).map (·.2)) us) (fun _ s'=>∃ σ' H',Inv X pins σ' H' s' /\ Q σ' H') X.xe s
abbrev zaU:=V -> V -> V -> Hp -> (Hp -> Prop) -> Prop
def zbr (X:Cx) (t:zaU):Prop:=
  ∀ (pins:List (Addr × Obj)) (s:Shared) (σ:St) (H:Hp) (o i v:V) (ov iv u:Value) (Q:Hp -> Prop),Inv X pins σ H s -> RelV o ov -> RelV i iv -> RelV v u -> t o i v H Q ->
    wpAny (model X.prog X.w) X.A (setItem ov iv u) (fun _ s'=>∃ H',Inv X pins σ H' s' /\ Q H') X.xe s
abbrev TIp:=V -> V -> Hp -> VK -> Prop
def PIp (X:Cx) (op:Operator) (t:TIp):Prop:=
  ∀ (pins:List (Addr × Obj)) (s:Shared) (σ:St) (H:Hp) (x y:V) (v u:Value) (Q:VK),Inv X pins σ H s -> RelV x v -> RelV y u -> t x y H Q ->
    wpAny (model X.prog X.w) X.A (inplaceOp op v u) (EP X pins σ Q) X.xe s
section
variable {X:Cx} {pos:Pos}
def vf (i:Nat):TG:=fun v σ H Q=>Q (σ.set i (some v)) H
theorem zB {i:Nat} {x:Str} (hN:X.N.Nodup) (hi:X.N[i]? = some x) (hx:Loc X.env.scope x) (hf:X.fn x = true \/ X.env.scope.names.lookup x = some .local:=by first | exact .inl rfl | exact .inr rfl | assumption):PG X (.Name x pos) (vf i):=by
  intro pins s σ H v u Q I r h
  exact wpAny_assign_Name (qQ I hN hi hx r (fun s' I'=>⟨_,H,I',h⟩) hf)
def zbn:TGs:=fun vs σ H Q=>vs = [] /\ Q σ H
inductive JJ (t:TG) (u:TGs) (vs:List V) (σ:St) (H:Hp) (Q:St -> Hp -> Prop):Prop
  | mk (v r:_) (_:vs = v :: r) (_:t v σ H fun σ' H'=>u r σ' H' Q):JJ t u vs σ H Q
theorem jg:PGs X [] zbn:=by
  intro pins s σ H vs us Q I r h
  obtain ⟨e,h⟩:=h
  subst e
  cases r
  exact assignInOrder_nil ⟨σ,H,I,h⟩
theorem zV {e:Expr} {es:List Expr} {t:TG} {u:TGs} (h1:PG X e t) (h2:PGs X es u)
    (hs:(assignEach (e :: es) X.env).map (·.2) = assign e X.env :: (assignEach es X.env).map (·.2):=by rfl):PGs X (e :: es) (JJ t u):=by
  intro pins s σ H vs us Q I r h
  obtain ⟨v,vr,e1,h⟩:=h
  subst e1
  cases r with
  | cons r rr=>
    rw [hs]
    refine assignInOrder_cons (thn (h1 pins s σ H _ _ _ I r h) fun _ s1 ⟨σ1,H1,I1,q1⟩=>?_)
    exact h2 pins s1 σ1 H1 _ _ Q I1 rr q1
inductive zaP (K:PySem.W.Frag) (n:Nat) (t:TGs) (v:V) (σ:St) (H:Hp) (Q:St -> Hp -> Prop):Prop
  | mk (a xs:_) (_:v = .ref a) (_:SqT K H a xs) (_:xs.length = n) (_:t xs σ H Q):zaP K n t v σ H Q
theorem jQ {es:List Expr} {k:Nat} {t:TGs} {n:Nat} (hc:X.calm = true) (h:PGs X es t)
    (hn:(assignEach es X.env).length = n:=by rfl) (hst:(assignEach es X.env).findIdx? (·.1) = none:=by rfl):PG X (.Tuple es k pos) (zaP X.K n t):=by
  intro pins s σ H v u Q I r hw
  obtain ⟨a,xs,e1,hq,hl,hw⟩:=hw
  subst e1
  cases r
  obtain ⟨its,rv,ht,hz⟩:=I.tuple hq
  refine assign_Tuple_tuple (I.ok.hd hc) ht (by simp [hn,<- hl,rv.length]) hst fun h' hx=>?_
  have I1:Inv X pins σ H { s with heap:=h' }:=I.kept (t':=s.toks) fun b o e=>hx b o (Nat.ne_of_lt (Heap.lt_size e)) e
  exact h pins _ σ H xs _ Q I1 (by simpa using rv) hw
def zbP (to ti:TE) (t:zaU):TG:=fun v σ H Q=>to σ H fun o H1=>ti σ H1 fun i H2=>t o i v H2 fun H3=>Q σ H3
theorem vO {o i:Expr} {to ti:TE} {t:zaU} (ho:PE X o to) (hi:PE X i ti) (hs:zbr X t)
    (ha:∀ v,assign (.Subscript o i pos) X.env v = (do
      let ov <- holding [v] (eval o X.env)
      let iv <- holding [v,ov] (eval i X.env)
      standAt pos
      holding [v,ov,iv] (setItem ov iv v)
      release [v,ov,iv] []):=by intro _;rfl):PG X (.Subscript o i pos) (zbP to ti t):=by
  intro pins s σ H v u Q I r h
  rw [ha]
  refine wpAny_bind (wpAny_holding (thn (ho pins s σ H _ I h) fun ov s1 ⟨x,H1,I1,r1,q1⟩=>?_))
  refine wpAny_bind (wpAny_holding (thn (hi pins s1 σ H1 _ I1 q1) fun iv s2 ⟨y,H2,I2,r2,q2⟩=>?_))
  refine wpAny_bind (wpAny_standAt (wpAny_bind (wpAny_holding (thn (hs pins s2 σ H2 x y v ov iv u _ I2 r1 r2 r q2) fun _ s3 ⟨H3,I3,q3⟩=>?_))))
  exact wpAny_release ⟨σ,H3,I3,q3⟩
def WR (te:TE) (g:TG):TS:=fun D σ H=>te σ H fun x H1=>g x σ H1 D.nx
theorem xV {tg e:Expr} {te:TE} {g:TG} (he:PE X e te) (hg:PG X tg g) (hs:swapsWithSole [tg] e pos.line X.env = pure false:=by rfl) (hw:swappedStores [tg] e X.env = pure none:=by rfl)
    (h1:(assignEach [tg] X.env).map (·.2) = [assign tg X.env]:=by rfl):PS X (.Assign [tg] e pos) (WR te g):=by
  intro pins s σ H D I h
  refine wpAny_Assign_stores (thn (he pins s σ H _ I h) fun v s1 ⟨x,H1,I1,r1,q1⟩=>?_) hs hw
  rw [h1]
  exact thn (hg pins s1 σ H1 x v _ I1 r1 q1) fun _ s2 q=>q
theorem zx {i:Nat} {x:Str} {e:Expr} {te:TE} {pos':Pos} (hN:X.N.Nodup) (hi:X.N[i]? = some x) (hx:Loc X.env.scope x) (he:PE X e te) (hs:swapsWith e (some (.Name x pos')) pos.line X.env = pure false:=by rfl) (hf:X.fn x = true \/ X.env.scope.names.lookup x = some .local:=by first | exact .inl rfl | exact .inr rfl | assumption) :
    PS X (.Assign [.Name x pos'] e pos) (WR te (vf i)):=by
  intro pins s σ H D I h
  refine wpAny_Assign_Name (thn (he pins s σ H _ I h) fun v s1 ⟨y,H1,I1,r1,q1⟩=>?_) hs
  exact qQ I1 hN hi hx r1 (fun s2 I2=>⟨_,H1,I2,q1⟩) hf
def zbD (i j:Nat) (ta:TA):TS:=fun D σ H=>ta σ H fun vs H1=>zbt vs H1 fun v w H1=>D.nx ((σ.set i (some v)).set j (some w)) H1
theorem zam {i j:Nat} {x y:Str} {a b:Expr} {ta:TA} {px py pt:Pos} {kt k2 pt2} (hc:X.calm = true) (hN:X.N.Nodup) (hi:X.N[i]? = some x) (hj:X.N[j]? = some y) (hij:i ≠ j)
    (hx:X.env.scope.names.lookup x = some .local) (hy:X.env.scope.names.lookup y = some .local) (ha:PA X [a,b] ta)
    (hw:swappedStores [.Tuple [.Name x px,.Name y py] kt pt] (.Tuple [a,b] k2 pt2) X.env = pure (some [x,y]))
    (hs:swapsWithSole [.Tuple [.Name x px,.Name y py] kt pt] (.Tuple [a,b] k2 pt2) pos.line X.env = pure false:=by rfl) :
    PS X (.Assign [.Tuple [.Name x px,.Name y py] kt pt] (.Tuple [a,b] k2 pt2) pos) (zbD i j ta):=by
  intro pins s σ H D I h
  rw [exec_Assign_arm]
  refine wpAny_bind (wpAny_standAt ?_)
  rw [hs]
  refine wpAny_bind (wpAny_pure ?_)
  rw [if_neg (by decide)]
  refine wpAny_bind (Tuple_ (thn (ha _ pins s σ H _ I h) fun us s1 ⟨vs,H1,I1,r1,q1⟩=>?_))
  obtain ⟨v,w,e1,q1⟩:=q1
  subst e1
  obtain ⟨u1,u2,rfl,rv,rw'⟩:∃ u1 u2,us = [u1,u2] /\ RelV v u1 /\ RelV w u2:=by
    cases r1 with
    | cons p q=>
      cases q with
      | cons p' q'=>
        cases q'
        exact ⟨_,_,rfl,p,p'⟩
  refine wpAny_newObj_type ?_ (by show 2 <= sizeLine;decide)
  have I2:Inv X pins σ H1 { s1 with heap:=s1.heap.push { cls:=.type "tuple",data:=.seq [u1,u2].toArray } }:=I1.kept (t':=s1.toks) fun b o e=>Heap.get?_push_of_some _ e
  rw [hw]
  refine wpAny_bind (wpAny_pure ?_)
  show wpAny (model X.prog X.w) X.A (do rule "assign.swapped-stores";let items <- unpackItems (.ref s1.heap.objs.size) 2 none;assignInOrder [fun v=>bindName X.env y v,fun v=>bindName X.env x v] items.reverse;pure Flow.next) _ _ _
  refine wpAny_bind (wpAny_rule (wpAny_bind (unpackItems_tuple (items:=#[u1,u2]) (I.ok.hd hc) (IsTup.new s1.heap _) fun h' hx'=>?_)))
  have I3:=I2.kept (h':=h') (t':=s1.toks) fun b o e=>hx' b o (Nat.ne_of_lt (Heap.lt_size e)) e
  show wpAny _ _ (assignInOrder [fun v=>bindName X.env y v,fun v=>bindName X.env x v] [u2,u1] >>= fun _=>pure Flow.next) _ _ _
  refine wpAny_bind (assignInOrder_cons (wpAny_bindName (qQ I3 hN hj (.inl hy) rw' (fun s2 I4=>?_) (.inr hy))))
  refine assignInOrder_cons (wpAny_bindName (qQ I4 hN hi (.inl hx) rv (fun s3 I5=>assignInOrder_nil (wpAny_pure ?_)) (.inr hx)))
  rw [List.set_comm _ _ (Ne.symm hij)] at I5
  exact ⟨_,H1,I5,q1⟩
def zbL (i:Nat) (te:TE) (ti:TIp):TS:=fun D σ H=>∃ x,σ[i]? = some (some x) /\ te σ H fun y H1=>ti x y H1 fun z H2=>D.nx (σ.set i (some z)) H2
theorem zao {i:Nat} {x:Str} {e:Expr} {te:TE} {op:Operator} {ti:TIp} {pos':Pos} (hN:X.N.Nodup) (hi:X.N[i]? = some x) (hx:Loc X.env.scope x) (he:PE X e te) (ho:PIp X op ti) (hf:X.fn x = true \/ X.env.scope.names.lookup x = some .local:=by first | exact .inl rfl | exact .inr rfl | assumption) :
    PS X (.AugAssign (.Name x pos') op e pos) (zbL i te ti):=by
  intro pins s σ H D I h
  obtain ⟨v,e1,h⟩:=h
  obtain ⟨m,hn,hl⟩:=I.loc
  have vis:Vis X.env.scope x:=by rcases hx with k | k;exact .inl k;exact .inr (.inl k)
  obtain ⟨u,r,l⟩:=hl i x v hi e1 vis
  refine wpAny_AugAssign_Name ?_
  have go:wpAny (model X.prog X.w) X.A (eval e X.env) (fun w s₂=>wpAny (model X.prog X.w) X.A (inplaceOp op u w) (fun r s₃=>wpAny (model X.prog X.w) X.A (storeName X.env x r) (fun _=>SP X pins D .next) X.xe s₃) X.xe s₂) X.xe s:=by
    refine thn (he pins s σ H _ I h) fun w s1 ⟨y,H1,I1,r1,q1⟩=>?_
    refine thn (ho pins s1 σ H1 v y u w _ I1 r r1 q1) fun z s2 ⟨zv,H2,I2,r2,q2⟩=>?_
    exact qQ I2 hN hi hx r2 (fun s3 I3=>⟨_,H2,I3,q2⟩) hf
  rcases l with ⟨hk,hm⟩ | ⟨hk,c,hc,hcell⟩
  · exact wpAny_loadName_local I.ok.kind hk hn hm go
  · rcases hk with hk | hk
    · exact wpAny_loadName_cell I.ok.kind hk hc hcell go
    · rcases hx with k | k
      · have:X.env.scope.names.lookup x = some .free:=hk
        rw [k] at this;cases this
      · have:X.env.scope.names.lookup x = some .free:=hk
        rw [k] at this;cases this
inductive ipI (f:Int -> Int -> Int) (x:V) (y:V) (H:Hp) (Q:VK):Prop
  | mk (i j:_) (_:x = .int i) (_:y = .int j) (_:Q (.int (f i j)) H):ipI f x y H Q
theorem zaN:PIp X .Add (ipI fun i j=>i + j):=by
  intro pins s σ H x y v u Q I r1 r2 h
  obtain ⟨i,j,e1,e2,q⟩:=h
  subst e1;subst e2
  obtain ⟨t,rfl⟩:=r1
  obtain ⟨t',rfl⟩:=r2
  exact iadd_int ⟨.int _,H,I.tok _,⟨_,rfl⟩,q⟩
end
section
variable {X:Cx} {pos:Pos}
end
structure It where
  go:Nat -> Hp -> Prop
  yld:Nat -> Hp -> V -> Hp -> Prop
  stop:Nat -> Hp -> Prop
def qT (X:Cx) (pins:List (Addr × Obj)) (H:Hp) (b:Addr):Prop:=
  H b = none /\ b ≠ X.env.locals /\ b ∉ X.fs /\ (b ∈ X.ex \/ X.s₀.heap.objs.size <= b) /\ (∀ x c,X.env.cells.lookup x = some c -> c ≠ b) /\ ∀ p ∈ X.pn ++ pins,p.1 ≠ b
theorem Inv.fpOk {X:Cx} {pins:List (Addr × Obj)} {σ:St} {H H':Hp} {s:Shared} {b:Addr} (I:Inv X pins σ H s) (hb:s.heap.objs.size <= b) (hn:H' b = none):qT X pins H' b:=by
  refine ⟨hn,Nat.ne_of_gt (Nat.lt_of_lt_of_le I.lt hb),I.nofs hb,.inr (Nat.le_trans I.sz hb),fun x c e z=>?_,fun p hp z=>?_⟩
  · obtain ⟨v,q⟩:=I.cell x c e
    exact absurd (Nat.lt_of_lt_of_le q.lt (by rw [z];exact hb)) (Nat.lt_irrefl _)
  · exact absurd (Nat.lt_of_lt_of_le (Heap.lt_size (I.pin p hp).1) (by rw [z];exact hb)) (Nat.lt_irrefl _)
structure WH (P:Program) (w:World) (K:PySem.W.Frag) (tg:Expr) (J:It) (fp:List Addr) (it:Addr) (tn:Nat -> Heap -> Prop):Prop where
  mem:it ∈ fp
  obj:∀ i h,tn i h -> ∀ b ∈ fp,∃ o,h.get? b = some o /\ ∀ v,o.data ≠ .cell v
  keep:∀ i h h',tn i h -> (∀ b ∈ fp,∀ o,h.get? b = some o -> h'.get? b = some o) -> tn i h'
  item:∀ (X:Cx),X.prog = P -> X.w = w -> X.K = K -> X.calm = true -> ∀ (i:Nat) (pins:List (Addr × Obj)) (s:Shared) (σ:St) (H:Hp) (E:Value -> Shared -> Prop),Inv X pins σ H s -> (∀ b ∈ fp,qT X pins H b) -> tn i s.heap -> J.go i H ->
    wpAny (model P w) X.A (pyNext (.ref it)) (fun r s1=>∃ u,r = some u /\
      wpAny (model P w) X.A (letOwnedTupleGo tg (.ref it) u) (fun _ s2=>∃ x H',Inv X pins σ H' s2 /\ RelV x u /\ J.yld i H x H' /\ tn (i + 1) s2.heap /\ ∀ b ∈ fp,H' b = none) E s1) E s
  done:∀ (X:Cx),X.prog = P -> X.w = w -> X.K = K -> X.calm = true -> ∀ (i:Nat) (pins:List (Addr × Obj)) (s:Shared) (σ:St) (H:Hp) (E:Value -> Shared -> Prop),Inv X pins σ H s -> (∀ b ∈ fp,qT X pins H b) -> tn i s.heap -> J.stop i H ->
    wpAny (model P w) X.A (pyNext (.ref it)) (fun r s1=>r = none /\ Inv X pins σ H s1) E s
  self:∀ (A:Around) (i:Nat) (s:Shared) (Q:Value -> Shared -> Prop) (E:Value -> Shared -> Prop),tn i s.heap -> Q (.ref it) s -> wpAny (model P w) A (pyIter (.ref it)) Q E s
abbrev TI:=St -> Hp -> (It -> Hp -> Prop) -> Prop
def PIE (X:Cx) (pins:List (Addr × Obj)) (σ:St) (tg:Expr) (R:It -> Hp -> Prop) (itv:Value) (s2:Shared):Prop:=
  ∃ (it:Addr) (fp:List Addr) (tn:Nat -> Heap -> Prop) (J:It) (H':Hp),itv = .ref it /\ Inv X pins σ H' s2 /\ WH X.prog X.w X.K tg J fp it tn /\ tn 0 s2.heap /\ (∀ b ∈ fp,qT X pins H' b) /\ R J H'
def PI (X:Cx) (tg iter:Expr) (wi:TI):Prop:=
  ∀ (pins:List (Addr × Obj)) (s:Shared) (σ:St) (H:Hp) (R:It -> Hp -> Prop),Inv X pins σ H s -> wi σ H R ->
    wpAny (model X.prog X.w) X.A (eval iter X.env) (fun v s1=>wpAny (model X.prog X.w) X.A (pyIter v) (PIE X pins σ tg R) X.xe s1) X.xe s
theorem Y4 {M:Model} {A:Around} {E:Value -> Shared -> Prop} {s:Shared} {tg:Expr} {it:Addr} {u:Value} {o:Obj} {n:String} {vs:Array Value} {Q:Unit -> Shared -> Prop} (ho:s.heap.get? it = some o) (hc:o.cls = .type n) (hd:o.data = .fields vs)
    (hn:["enumerate", "zip", "dict_itemiterator", "dict_reverseitemiterator", "odict_iterator", "itertools.zip_longest", "itertools.pairwise"].contains n = false) (hQ:Q () s):wpAny M A (letOwnedTupleGo tg (.ref it) u) Q E s:=by
  unfold letOwnedTupleGo
  cases tg <;> first
    | exact wpAny_pure hQ
    | (cases u <;> first
        | exact wpAny_pure hQ
        | (refine wpAny_bind (wpAny_load ho ?_)
           rw [hc,hd]
           show wpAny M A (if (["enumerate", "zip", "dict_itemiterator", "dict_reverseitemiterator", "odict_iterator", "itertools.zip_longest", "itertools.pairwise"].contains n && vs[0]? == some (rawInt _)) = true then _ else _) Q E s
           rw [if_neg (by intro h;rw [hn,Bool.false_and] at h;cases h)]
           exact wpAny_pure hQ))
def Itl (K:PySem.W.Frag) (a:Addr):It:=
  ⟨fun i H=>∃ xs x,SqL K H a xs /\ xs[i]? = some x,fun i H x H'=>H' = H /\ ∀ xs,SqL K H a xs -> xs[i]? = some x,fun i H=>∃ xs,SqL K H a xs /\ xs.length <= i⟩
def Itr (lo:Int) (n:Nat):It:=⟨fun i _=>i < n,fun i H x H'=>H' = H /\ x = .int (lo + i),fun i _=>n <= i⟩
theorem Xx {P:Program} {w:World} {K:PySem.W.Frag} {tg:Expr} (a it:Addr):WH P w K tg (Itl K a) [it] it (fun i h=>h.IsListIter it a i) where
  mem:=by simp
  obj:=fun i h st b hb=>by
    have e:b = it:=by simpa using hb
    subst e
    obtain ⟨o,e,c,d⟩:=st
    exact ⟨o,e,fun v z=>by rw [d] at z;cases z⟩
  keep:=fun i h h' st k=>st.at fun o e=>k it (by simp) o e
  item:=by
    intro X hP hw hK hc i pins s σ H E I hf st hg
    subst hP hw hK
    obtain ⟨xs,x,hq,hx⟩:=hg
    obtain ⟨its,rv,p,hz⟩:=I.list hq
    obtain ⟨u,hu,ru⟩:=rv.get hx
    obtain ⟨f0,f1,f2,f3,f4,f5⟩:=hf it (by simp)
    refine wpAny_pyNext_list_item st p.isList (x:=u) (by simpa using hu) fun h' st' sb=>?_
    have I1:Inv X pins σ H { s with heap:=h' }:=I.turned (t':=s.toks) (fun b o hb e=>(sb.2 b hb).trans e) f0 f1 f3 f4 f5
    obtain ⟨o,e,c,d⟩:=id st'
    exact ⟨u,rfl,Y4 (s:={ s with heap:=h' }) e c d (by decide) ⟨x,H,I1,ru,⟨rfl,fun ys hy=>by rw [I.list_inj hy hq];exact hx⟩,st',fun b hb=>(hf b hb).1⟩⟩
  done:=by
    intro X hP hw hK hc i pins s σ H E I hf st hg
    subst hP hw hK
    obtain ⟨xs,hq,hx⟩:=hg
    obtain ⟨its,rv,p,hz⟩:=I.list hq
    obtain ⟨f0,f1,f2,f3,f4,f5⟩:=hf it (by simp)
    have hl:=rv.length
    exact wpAny_pyNext_list_end (I.ok.hd hc) st p.isList (by simp;omega) fun h' eb=>⟨rfl,I.turned (t':=s.toks) (fun b o hb e=>eb b o hb e) f0 f1 f3 f4 f5⟩
  self:=fun _ _ _ _ _ st h=>wpAny_pyIter_listiter st h
theorem Qp {P:Program} {w:World} {K:PySem.W.Frag} {tg:Expr} (it:Addr) (lo:Int) (n:Nat):WH P w K tg (Itr lo n) [it] it (fun i h=>IsRangeIter h it (lo + (i:Nat) * 1) ((n:Int) - (i:Nat)) 1) where
  mem:=by simp
  obj:=fun i h st b hb=>by
    have e:b = it:=by simpa using hb
    subst e
    exact ⟨_,st,fun v z=>by
      have z':Data.fields _ = Data.cell v:=z
      cases z'⟩
  keep:=fun i h h' st k=>k it (by simp) _ st
  item:=by
    intro X hP hw hK hc i pins s σ H E I hf st hg
    subst hP hw hK
    obtain ⟨f0,f1,f2,f3,f4,f5⟩:=hf it (by simp)
    have W:=Walks.range (prog:=X.prog) (w:=X.w) (I.ok.hd hc) it lo 1 n
    refine W.item i s _ _ hg st fun v h' tk hv st' kk=>?_
    obtain ⟨t,rfl⟩:=hv
    have I1:Inv X pins σ H { s with heap:=h',toks:=tk }:=I.turned (fun b o hb e=>kk b o (by simpa using hb) e) f0 f1 f3 f4 f5
    refine ⟨_,rfl,Y4 (s:={ s with heap:=h',toks:=tk }) (n:= "range_iterator") st' rfl rfl (by decide) ⟨.int (lo + i),H,I1,⟨t,?_⟩,⟨rfl,rfl⟩,st',fun b hb=>(hf b hb).1⟩⟩
    rw [Int.mul_one]
  done:=by
    intro X hP hw hK hc i pins s σ H E I hf st hg
    subst hP hw hK
    obtain ⟨f0,f1,f2,f3,f4,f5⟩:=hf it (by simp)
    exact wpAny_pyNext_range_end (I.ok.hd hc) st (by have:n <= i:=hg;omega) fun h' eb=>⟨rfl,I.turned (t':=s.toks) (fun b o hb e=>eb b o hb e) f0 f1 f3 f4 f5⟩
  self:=fun _ _ _ _ _ st h=>wpAny_pyIter_rangeiter st h
section
variable {X:Cx} {tg:Expr}
inductive InL (K:PySem.W.Frag) (x:V) (H:Hp) (R:It -> Hp -> Prop):Prop
  | mk (a:Addr) (h:x = .ref a) (e:∃ xs,SqL K H a xs) (r:R (Itl K a) H):InL K x H R
def Y1 (K:PySem.W.Frag) (tl:TE):TI:=fun σ H R=>tl σ H fun x H1=>InL K x H1 R
theorem zD {l:Expr} {tl:TE} (hl:PE X l tl):PI X tg l (Y1 X.K tl):=by
  intro pins s σ H R I h
  refine thn (hl pins s σ H _ I h) fun v s1 ⟨x,H1,I1,r1,q1⟩=>?_
  obtain ⟨a,e,⟨xs,hq⟩,q⟩:=q1
  subst e
  cases r1
  obtain ⟨its,rv,p,hz⟩:=I1.list hq
  refine wpAny_pyIter_list p.isList ?_
  refine ⟨s1.heap.objs.size,[s1.heap.objs.size],_,_,H1,rfl,I1.kept (t':=s1.toks) fun b o e=>Heap.get?_push_of_some _ e,Xx a _,⟨_,Heap.get?_push_size _ rfl,rfl,rfl⟩,fun b hb=>?_,q⟩
  have e:b = s1.heap.objs.size:=by simpa using hb
  subst e
  exact I1.fpOk (Nat.le_refl _) (I1.hok.fresh (Nat.le_refl _))
theorem ZM {pins:List (Addr × Obj)} {σ:St} {H:Hp} {s:Shared} {R:It -> Hp -> Prop} {E:Value -> Shared -> Prop} {lo hi:Int} {t u v:Tok} {tk:Nat} (I:Inv X pins σ H s) (h1:-(2 ^ 62) <= lo) (h2:lo < 2 ^ 62) (h3:-(2 ^ 62) <= hi) (h4:hi < 2 ^ 62)
    (q:R (Itr lo (hi - lo).toNat) H):wpAny (model X.prog X.w) X.A (pyIter (.ref s.heap.objs.size)) (PIE X pins σ tg R) E { s with heap:=s.heap.push { cls:=.type "range",data:=.fields #[.int lo t,.int hi u,.int 1 v] },toks:=tk }:=by
  refine wpAny_pyIter_range (IsRange.new ..) (small_one h1 h2 h3 h4) ?_
  have I1:Inv X pins σ H { s with heap:=s.heap.push { cls:=.type "range",data:=.fields #[.int lo t,.int hi u,.int 1 v] },toks:=tk }:=I.kept fun b o e=>Heap.get?_push_of_some _ e
  refine ⟨(s.heap.push { cls:=.type "range",data:=.fields #[.int lo t,.int hi u,.int 1 v] }).objs.size,[(s.heap.push { cls:=.type "range",data:=.fields #[.int lo t,.int hi u,.int 1 v] }).objs.size],_,_,H,rfl,
    I1.kept (t':=tk) fun b o e=>Heap.get?_push_of_some _ e,Qp _ lo (hi - lo).toNat,?_,fun b hb=>?_,q⟩
  · have e1:lo + ((0:Nat):Int) * 1 = lo:=by simp
    have e2:(((hi - lo).toNat:Nat):Int) - ((0:Nat):Int) = Builtin.Range.rangeSize lo hi 1:=by rw [rangeSize_one];split <;> omega
    show IsRangeIter _ _ (lo + ((0:Nat):Int) * 1) ((((hi - lo).toNat:Nat):Int) - ((0:Nat):Int)) 1
    rw [e1,e2]
    exact Heap.get?_push_size _ rfl
  · have e:b = (s.heap.push { cls:=.type "range",data:=.fields #[.int lo t,.int hi u,.int 1 v] }).objs.size:=by simpa using hb
    subst e
    exact I1.fpOk (Nat.le_refl _) (I1.hok.fresh (Nat.le_refl _))
inductive zbu (vs:List V) (H:Hp) (R:It -> Hp -> Prop):Prop
  | mk (j:Int) (h:vs = [.int j]) (h1:-(2 ^ 62) <= j) (h2:j < 2 ^ 62) (r:R (Itr 0 j.toNat) H):zbu vs H R
def zbl (ta:TA):TI:=fun σ H R=>ta σ H fun vs H1=>zbu vs H1 R
def zbk (ta:TA):TI:=fun σ H R=>ta σ H fun vs H1=>∃ i j:Int,vs = [.int i,.int j] /\ (-(2 ^ 62) <= i /\ i < 2 ^ 62 /\ -(2 ^ 62) <= j /\ j < 2 ^ 62) /\ R (Itr i (j - i).toNat) H1
theorem qj {a:Expr} {ta:TA} {p pos:Pos} (hg:Gl X "range") (hm:X.mg "range" = none) (ha:PA X [a] ta) (hs:starEach [a] X.env = [(false,eval a X.env)]:=by rfl):PI X tg (.Call (.Name "range" p) [a] [] pos) (zbl ta):=by
  intro pins s σ H R I h
  refine Call_ (qZ I hg hm boot_range (PyProof.Rows.callWith_type1 (thn (ha pos pins s σ H _ I h) fun us s1 ⟨vs,H1,I1,r1,q1⟩=>?_) hs rfl))
  obtain ⟨j,e,q1,q2,q⟩:=q1
  subst e
  cases r1 with
  | cons r rr=>
    cases rr
    obtain ⟨t,rfl⟩:=r
    exact call_range_1 (ZM I1 (by omega) (by omega) q1 q2 (by simpa using q))
theorem XI {a b:Expr} {ta:TA} {p pos:Pos} (hg:Gl X "range") (hm:X.mg "range" = none) (ha:PA X [a,b] ta) (hs:starEach [a,b] X.env = [(false,eval a X.env),(false,eval b X.env)]:=by rfl) (hs2:starEach [b] X.env = [(false,eval b X.env)]:=by rfl) :
    PI X tg (.Call (.Name "range" p) [a,b] [] pos) (zbk ta):=by
  intro pins s σ H R I h
  refine Call_ (qZ I hg hm boot_range (PyProof.Rows.callWith_type1 (thn (ha pos pins s σ H _ I h) fun us s1 ⟨vs,H1,I1,r1,q1⟩=>?_) (by rw [hs,hs2]) (by rw [hs2];rfl)))
  obtain ⟨i,j,e,⟨q1,q2,q3,q4⟩,q⟩:=q1
  subst e
  cases r1 with
  | cons r rr=>
    cases rr with
    | cons r' rr=>
      cases rr
      obtain ⟨t,rfl⟩:=r
      obtain ⟨t',rfl⟩:=r'
      exact call_range_2 (ZM I1 q1 q2 q3 q4 q)
def zbJ (wi:TI) (g:TG) (tb:TS):TS:=fun D σ H=>wi σ H fun J H1=>∃ W:Nat -> Nat -> St -> Hp -> Prop,(∃ m,W 0 m σ H1) /\ ∀ i m σ H,W i m σ H ->
  (J.stop i H /\ D.nx σ H) \/ (J.go i H /\ ∃ N:St -> Hp -> Prop,(∀ σ' H',N σ' H' -> ∃ m',m' < m /\ W (i + 1) m' σ' H') /\ ∀ x H',J.yld i H x H' -> g x σ H' fun σ2 H2=>tb { D with nx:=N,ct:=N,bk:=D.nx } σ2 H2)
def zG (fp:List Addr) (h:Heap):List (Addr × Obj):=fp.filterMap fun b=>(h.get? b).map fun o=>(b,o)
theorem qo {fp:List Addr} {h:Heap} {b:Addr} {o:Obj} (hb:b ∈ fp) (e:h.get? b = some o):(b,o) ∈ zG fp h:=List.mem_filterMap.mpr ⟨b,hb,by rw [e];rfl⟩
theorem j3 {fp:List Addr} {h:Heap} {p:Addr × Obj} (hp:p ∈ zG fp h):p.1 ∈ fp /\ h.get? p.1 = some p.2:=by
  obtain ⟨b,hb,e⟩:=List.mem_filterMap.mp hp
  cases q:h.get? b with
  | none=>rw [q] at e;cases e
  | some o=>
    rw [q] at e
    have e':(b,o) = p:=Option.some.inj e
    subst e'
    exact ⟨hb,q⟩
theorem Inv.pinned {pins:List (Addr × Obj)} {σ:St} {H:Hp} {s:Shared} {fp:List Addr} (I:Inv X pins σ H s) (hf:∀ b ∈ fp,qT X pins H b) (ho:∀ b ∈ fp,∃ o,s.heap.get? b = some o /\ ∀ v,o.data ≠ .cell v):Inv X (pins ++ zG fp s.heap) σ H s:=
  I.pins_of fun p hp=>(List.mem_append.mp hp).elim (fun z=>I.pin p (List.mem_append_right _ z)) fun z=>by
    obtain ⟨hb,e⟩:=j3 z
    obtain ⟨f0,f1,f2,_⟩:=hf p.1 hb
    obtain ⟨o,e',d⟩:=ho p.1 hb
    rw [e] at e';cases e'
    exact ⟨e,f0,f1,f2,d⟩
theorem Inv.unpinned {pins pl:List (Addr × Obj)} {σ:St} {H:Hp} {s:Shared} (I:Inv X (pins ++ pl) σ H s):Inv X pins σ H s:=I.pins_of fun p hp=>I.pin p (List.mem_append_right _ (List.mem_append_left _ hp))
theorem zU {iter:Expr} {body:List Stmt} {wi:TI} {g:TG} {tb:TS} {pos:Pos} (hp:PassesOwn (model X.prog X.w) X.A X.env X.xe) (hc:X.calm = true) (hi:PI X tg iter wi) (hg:PG X tg g) (hb:PSs X body tb)
    (hs:∀ x,foldedSetIterable iter X.env x = pure x:=by intro _;rfl):PS X (.For tg iter body [] pos) (zbJ wi g tb):=by
  intro pins s σ H D I h
  refine wpAny_For (thn (hi pins s σ H _ I h) fun v s1 h1=>thn h1 fun itv s2 h2=>?_) hs
  obtain ⟨it,fp,tn,J,H2,e,I2,T,st2,f2,W,⟨m0,w0⟩,turn⟩:=h2
  subst e
  have stat:∀ {H':Hp},(∀ b ∈ fp,H' b = none) -> ∀ b ∈ fp,qT X pins H' b:=fun hn b hb=>⟨hn b hb,(f2 b hb).2⟩
  refine codeAny_forLoop_any (fun n s'=>∃ i σ' H',Inv X pins σ' H' s' /\ tn i s'.heap /\ (∀ b ∈ fp,H' b = none) /\ W i n σ' H') ?_ m0 ⟨0,σ,H2,I2,st2,fun b hb=>(f2 b hb).1,w0⟩
  rintro n s3 ⟨i,σ3,H3,I3,st3,fr3,w3⟩
  rcases turn i n σ3 H3 w3 with ⟨stop,qn⟩ | ⟨go,N,hN,step⟩
  · refine wpAny_passesOwn hp (thn (T.done X rfl rfl rfl hc i pins s3 σ3 H3 X.xe I3 (stat fr3) st3 stop) fun r s4 ⟨hr,I4⟩=>?_)
    subst hr
    exact wpAny_execs_nil ⟨σ3,H3,I4,qn⟩
  · refine wpAny_passesOwn hp (thn (T.item X rfl rfl rfl hc i pins s3 σ3 H3 X.xe I3 (stat fr3) st3 go) fun r s4 ⟨u,hr,h4⟩=>?_)
    subst hr
    refine wpAny_passesOwn hp (thn h4 fun _ s5 ⟨x,H5,I5,r5,y5,st5,fr5⟩=>?_)
    have I5':=I5.pinned (stat fr5) (T.obj _ _ st5)
    refine wpAny_passesOwn hp (thn (hg _ s5 σ3 H5 x u _ I5' r5 (step x H5 y5)) fun _ s6 ⟨σ6,H6,I6,q6⟩=>?_)
    refine wpAny_passesOwn hp (thn (hb _ s6 σ6 H6 _ I6 q6) fun f s7 q7=>?_)
    have again:∀ {σ7:St} {H7:Hp},Inv X (pins ++ zG fp s5.heap) σ7 H7 s7 -> N σ7 H7 -> ∃ m,m < n /\ ∃ i σ' H',Inv X pins σ' H' s7 /\ tn i s7.heap /\ (∀ b ∈ fp,H' b = none) /\ W i m σ' H':=fun {σ7 H7} I7 n7=>by
      obtain ⟨m',hm,w7⟩:=hN σ7 H7 n7
      refine ⟨m',hm,i + 1,σ7,H7,I7.unpinned,T.keep _ _ _ st5 fun b hb o e=>(I7.pin (b,o) (List.mem_append_right _ (List.mem_append_right _ (qo hb e)))).1,fun b hb=>?_,w7⟩
      obtain ⟨o,e,d⟩:=T.obj _ _ st5 b hb
      exact (I7.pin (b,o) (List.mem_append_right _ (List.mem_append_right _ (qo hb e)))).2.1
    cases f with
    | next=>obtain ⟨σ7,H7,I7,n7⟩:=q7;exact again I7 n7
    | cont=>obtain ⟨σ7,H7,I7,n7⟩:=q7;exact again I7 n7
    | brk=>obtain ⟨σ7,H7,I7,q7⟩:=q7;exact ⟨σ7,H7,I7.unpinned,q7⟩
    | ret v=>obtain ⟨x7,σ7,H7,I7,r7,q7⟩:=q7;exact ⟨x7,σ7,H7,I7.unpinned,r7,q7⟩
end
theorem qk {K:PySem.W.Frag} {a:Addr} {xs:List V} {g:TG} {tb:TS} {D:Zn} {σ:St} {H:Hp} (Pv:Nat -> St -> Hp -> Prop) (h0:Pv 0 σ H) (hl:∀ i σ H,i <= xs.length -> Pv i σ H -> SqL K H a xs)
    (hs:∀ i x σ H,xs[i]? = some x -> Pv i σ H -> g x σ H fun σ2 H2=>tb { D with nx:=Pv (i + 1),ct:=Pv (i + 1),bk:=D.nx } σ2 H2) (hd:∀ σ H,Pv xs.length σ H -> D.nx σ H) :
    ∃ W:Nat -> Nat -> St -> Hp -> Prop,(∃ m,W 0 m σ H) /\ ∀ i m σ H,W i m σ H ->
      ((Itl K a).stop i H /\ D.nx σ H) \/ ((Itl K a).go i H /\ ∃ N:St -> Hp -> Prop,(∀ σ' H',N σ' H' -> ∃ m',m' < m /\ W (i + 1) m' σ' H') /\ ∀ x H',(Itl K a).yld i H x H' -> g x σ H' fun σ2 H2=>tb { D with nx:=N,ct:=N,bk:=D.nx } σ2 H2):=by
  refine ⟨fun i m σ H=>m = xs.length - i /\ i <= xs.length /\ Pv i σ H,⟨xs.length,by simp,Nat.zero_le _,h0⟩,?_⟩
  rintro i m σ H ⟨rfl,hi,p⟩
  have q:=hl i σ H hi p
  by_cases hlt:i < xs.length
  · refine .inr ⟨⟨xs,xs[i],q,by simp [hlt]⟩,Pv (i + 1),fun σ' H' p'=>⟨xs.length - (i + 1),by omega,rfl,hlt,p'⟩,fun x H' y=>?_⟩
    obtain ⟨e,y⟩:=y
    subst e
    exact hs i x σ _ (y xs q) p
  · have e:i = xs.length:=by omega
    subst e
    exact .inl ⟨⟨xs,q,Nat.le_refl _⟩,hd σ H p⟩
theorem qB {lo:Int} {n:Nat} {g:TG} {tb:TS} {D:Zn} {σ:St} {H:Hp} (Pv:Nat -> St -> Hp -> Prop) (h0:Pv 0 σ H)
    (hs:∀ i σ H,i < n -> Pv i σ H -> g (.int (lo + i)) σ H fun σ2 H2=>tb { D with nx:=Pv (i + 1),ct:=Pv (i + 1),bk:=D.nx } σ2 H2) (hd:∀ σ H,Pv n σ H -> D.nx σ H) :
    ∃ W:Nat -> Nat -> St -> Hp -> Prop,(∃ m,W 0 m σ H) /\ ∀ i m σ H,W i m σ H ->
      ((Itr lo n).stop i H /\ D.nx σ H) \/ ((Itr lo n).go i H /\ ∃ N:St -> Hp -> Prop,(∀ σ' H',N σ' H' -> ∃ m',m' < m /\ W (i + 1) m' σ' H') /\ ∀ x H',(Itr lo n).yld i H x H' -> g x σ H' fun σ2 H2=>tb { D with nx:=N,ct:=N,bk:=D.nx } σ2 H2):=by
  refine ⟨fun i m σ H=>m = n - i /\ i <= n /\ Pv i σ H,⟨n,by simp,Nat.zero_le _,h0⟩,?_⟩
  rintro i m σ H ⟨rfl,hi,p⟩
  by_cases hlt:i < n
  · refine .inr ⟨hlt,Pv (i + 1),fun σ' H' p'=>⟨n - (i + 1),by omega,rfl,hlt,p'⟩,fun x H' y=>?_⟩
    obtain ⟨e,y⟩:=y
    subst e y
    exact hs i σ _ hlt p
  · have e:i = n:=by omega
    subst e
    exact .inl ⟨Nat.le_refl _,hd σ H p⟩
abbrev R2:=V -> V -> Hp -> VK -> Prop
def OpR (X:Cx) (f:Value -> Value -> Sem Value) (r:R2):Prop:=
  ∀ (pins:List (Addr × Obj)) (s:Shared) (σ:St) (H:Hp) (x y:V) (v u:Value) (Q:VK),Inv X pins σ H s -> RelV x v -> RelV y u -> r x y H Q ->
    wpAny (model X.prog X.w) X.A (f v u) (EP X pins σ Q) X.xe s
def UnR (X:Cx) (f:Value -> Sem Value) (r:V -> Hp -> VK -> Prop):Prop:=
  ∀ (pins:List (Addr × Obj)) (s:Shared) (σ:St) (H:Hp) (x:V) (v:Value) (Q:VK),Inv X pins σ H s -> RelV x v -> r x H Q ->
    wpAny (model X.prog X.w) X.A (f v) (EP X pins σ Q) X.xe s
def qD (X:Cx) (f:Value) (r:List V -> Hp -> VK -> Prop):Prop:=
  ∀ (pins:List (Addr × Obj)) (s:Shared) (σ:St) (H:Hp) (xs:List V) (us:List Value) (Q:VK),Inv X pins σ H s -> Vals xs us -> r xs H Q ->
    wpAny (model X.prog X.w) X.A (call f us) (EP X pins σ Q) X.xe s
def tOp (r:R2) (ta tb:TE):TE:=fun σ H Q=>ta σ H fun x H1=>tb σ H1 fun y H2=>r x y H2 Q
def tUn (r:V -> Hp -> VK -> Prop) (ta:TE):TE:=fun σ H Q=>ta σ H fun x H1=>r x H1 Q
inductive rI (C:Int -> Int -> Prop) (g:Int -> Int -> V) (x:V) (y:V) (H:Hp) (Q:VK):Prop
  | mk (i j:_) (_:x = .int i) (_:y = .int j) (_:C i j) (_:Q (g i j) H):rI C g x y H Q
inductive rI0 (g:Int -> Int -> V) (x:V) (y:V) (H:Hp) (Q:VK):Prop
  | mk (i j:_) (_:x = .int i) (_:y = .int j) (_:Q (g i j) H):rI0 g x y H Q
inductive rU (g:Int -> V) (x:V) (H:Hp) (Q:VK):Prop
  | mk (i:_) (_:x = .int i) (_:Q (g i) H):rU g x H Q
section
variable {X:Cx} {a b c:Expr} {ta tb tc:TE} {pos:Pos}
theorem zaT (ha:PE X a ta) (hb:PE X b tb) {pins:List (Addr × Obj)} {s:Shared} {σ:St} {H:Hp} {R:V -> V -> Hp -> Prop} (I:Inv X pins σ H s)
    (h:ta σ H fun x H1=>tb σ H1 fun y H2=>R x y H2) {Q:Value -> Shared -> Prop} {f:Value -> Value -> Sem Value}
    (hf:∀ v u s2 x y H2,Inv X pins σ H2 s2 -> RelV x v -> RelV y u -> R x y H2 -> wpAny (model X.prog X.w) X.A (f v u) Q X.xe s2) :
    wpAny (model X.prog X.w) X.A (eval a X.env) (fun v s₁=>wpAny (model X.prog X.w) X.A (eval b X.env) (fun u s₂=>wpAny (model X.prog X.w) X.A (f v u) Q X.xe s₂) X.xe s₁) X.xe s:=by
  refine thn (ha pins s σ H _ I h) fun v s1 ⟨x,H1,I1,r1,q1⟩=>?_
  refine thn (hb pins s1 σ H1 _ I1 q1) fun u s2 ⟨y,H2,I2,r2,q2⟩=>?_
  exact hf v u s2 x y H2 I2 r1 r2 q2
theorem zA {op:Operator} {r:R2} (ho:OpR X (binaryOp op) r) (ha:PE X a ta) (hb:PE X b tb):PE X (.BinOp a op b pos) (tOp r ta tb):=by
  intro pins s σ H Q I h
  exact wpAny_BinOp (zaT ha hb I h fun v u s2 x y H2 I2 rx ry q=>ho pins s2 σ H2 x y v u Q I2 rx ry q)
theorem VM {op:UnaryOp} {r:V -> Hp -> VK -> Prop} (ho:UnR X (unaryOp op) r) (ha:PE X a ta):PE X (.UnaryOp op a pos) (tUn r ta):=by
  intro pins s σ H Q I h
  exact UnaryOp_ (thn (ha pins s σ H _ I h) fun v s1 ⟨x,H1,I1,r1,q1⟩=>ho pins s1 σ H1 x v Q I1 r1 q1)
theorem opI {f:Value -> Value -> Sem Value} {C:Int -> Int -> Prop} {g:Int -> Int -> Int}
    (rule:∀ (i j:Int) (t u:Tok) (s:Shared) (Q:Value -> Shared -> Prop) (E:Value -> Shared -> Prop),C i j -> Q (.int (g i j) s.toks) { s with toks:=s.toks + 1 } -> wpAny (model X.prog X.w) X.A (f (.int i t) (.int j u)) Q E s) :
    OpR X f (rI C fun i j=>.int (g i j)):=by
  intro pins s σ H x y v u Q I rx ry h
  obtain ⟨i,j,rfl,rfl,hc,q⟩:=h
  obtain ⟨t,rfl⟩:=rx
  obtain ⟨t',rfl⟩:=ry
  exact rule i j t t' s _ _ hc ⟨.int (g i j),H,I.tok _,⟨_,rfl⟩,q⟩
theorem zbg {f:Value -> Value -> Sem Value} {g:Int -> Int -> Int}
    (rule:∀ (i j:Int) (t u:Tok) (s:Shared) (Q:Value -> Shared -> Prop) (E:Value -> Shared -> Prop),Q (.int (g i j) s.toks) { s with toks:=s.toks + 1 } -> wpAny (model X.prog X.w) X.A (f (.int i t) (.int j u)) Q E s) :
    OpR X f (rI0 fun i j=>.int (g i j)):=by
  intro pins s σ H x y v u Q I rx ry h
  obtain ⟨i,j,rfl,rfl,q⟩:=h
  obtain ⟨t,rfl⟩:=rx
  obtain ⟨t',rfl⟩:=ry
  exact rule i j t t' s _ _ ⟨.int (g i j),H,I.tok _,⟨_,rfl⟩,q⟩
theorem Ye {f:Value -> Value -> Sem Value} {g:Int -> Int -> Bool}
    (rule:∀ (i j:Int) (t u:Tok) (s:Shared) (Q:Value -> Shared -> Prop) (E:Value -> Shared -> Prop),Q (.bool (g i j)) s -> wpAny (model X.prog X.w) X.A (f (.int i t) (.int j u)) Q E s) :
    OpR X f (rI0 fun i j=>.bl (g i j)):=by
  intro pins s σ H x y v u Q I rx ry h
  obtain ⟨i,j,rfl,rfl,q⟩:=h
  obtain ⟨t,rfl⟩:=rx
  obtain ⟨t',rfl⟩:=ry
  exact rule i j t t' s _ _ ⟨.bl (g i j),H,I,rfl,q⟩
def zbw (i j:Int):Prop:=0 < j /\ j < 1073741824
def zbT (i j:Int):Prop:=0 <= j /\ j <= 1000000 /\ i.natAbs < 2 ^ 64
def CMul (i j:Int):Prop:=(-(2 ^ 64) < i /\ i < 2 ^ 64) \/ (-(2 ^ 64) < j /\ j < 2 ^ 64)
theorem CMul.ok {i j:Int} (h:CMul i j):IntMulOk i j:=by
  rcases h with ⟨h1,h2⟩ | ⟨h1,h2⟩
  · exact .of_left (intBits_le_64 h1 h2)
  · exact .of_right (intBits_le_64 h1 h2)
theorem zN:OpR X (binaryOp .Add) (rI0 fun i j=>.int (i + j)):=zbg fun _ _ _ _ _ _ _ q=>add_int q
theorem QI:OpR X (binaryOp .Sub) (rI0 fun i j=>.int (i - j)):=zbg fun _ _ _ _ _ _ _ q=>sub_int q
theorem jr:OpR X (binaryOp .Mult) (rI CMul fun i j=>.int (i * j)):=opI fun _ _ _ _ _ _ _ hc q=>mul_int q hc.ok
theorem yT:OpR X (binaryOp .FloorDiv) (rI zbw fun i j=>.int (i / j)):=opI fun i j _ _ _ _ _ hc q=>by
  have h1:(0:Int) < j:=hc.1
  have h2:j < 1073741824:=hc.2
  exact floordiv_int (by omega) (by rw [Int.fdiv_eq_ediv_of_nonneg i (by omega)];exact q) (.inl (PyProof.noPylong_small (by omega)))
theorem qX:OpR X (binaryOp .Mod) (rI (fun _ j=>0 < j) fun i j=>.int (i % j)):=opI fun i j _ _ _ _ _ hc q=>by
  have h1:(0:Int) < j:=hc
  exact mod_int' (by omega) (by rw [Int.fmod_eq_emod_of_nonneg i (by omega)];exact q)
theorem zav:OpR X (binaryOp .Pow) (rI zbT fun i j=>.int (i ^ j.toNat)):=opI fun _ _ _ _ _ _ _ hc q=>pow_int_small hc.1 hc.2.1 hc.2.2 q
theorem unI {f:Value -> Sem Value} {g:Int -> Int}
    (rule:∀ (i:Int) (t:Tok) (s:Shared) (Q:Value -> Shared -> Prop) (E:Value -> Shared -> Prop),Q (.int (g i) s.toks) { s with toks:=s.toks + 1 } -> wpAny (model X.prog X.w) X.A (f (.int i t)) Q E s) :
    UnR X f (rU fun i=>.int (g i)):=by
  intro pins s σ H x v Q I rx h
  obtain ⟨i,rfl,q⟩:=h
  obtain ⟨t,rfl⟩:=rx
  exact rule i t s _ _ ⟨.int (g i),H,I.tok _,⟨_,rfl⟩,q⟩
theorem Qn:UnR X (unaryOp .USub) (rU fun i=>.int (-i)):=unI fun _ _ _ _ _ q=>neg_int q
end
def za5:V -> V -> Bool
  | .non,.non=>true | .non,.int _=>true | .int _,.non=>true | .non,.bl _=>true | .bl _,.non=>true | .non,.str _=>true | .str _,.non=>true
  | .int _,.int _=>true | .bl _,.bl _=>true | .str _,.str _=>true | .byt _,.byt _=>true
  | .int _,.str _=>true | .str _,.int _=>true | .bl _,.str _=>true | .str _,.bl _=>true
  | _,_=>false
def rEq:R2:=fun x y H Q=>za5 x y = true /\ Q (.bl (decide (x = y))) H
def rNe:R2:=fun x y H Q=>za5 x y = true /\ Q (.bl (!decide (x = y))) H
theorem JM {i j:Int}:decide (V.int i = V.int j) = (i == j):=by
  rw [Bool.eq_iff_iff]
  simp
theorem Ww {i j:Bool}:decide (V.bl i = V.bl j) = (i == j):=by
  rw [Bool.eq_iff_iff]
  simp
theorem JL {i j:Str}:decide (V.str i = V.str j) = (i == j):=by
  rw [Bool.eq_iff_iff]
  simp
theorem JN {i j:Array UInt8}:decide (V.byt i = V.byt j) = (i.toList == j.toList):=by
  rw [Bool.eq_iff_iff]
  cases i
  cases j
  simp
section
variable {X:Cx} {a b c:Expr} {ta tb tc:TE} {pos:Pos}
theorem zL {pins:List (Addr × Obj)} {σ:St} {H:Hp} {s:Shared} {Q:VK} {k k':Bool} (I:Inv X pins σ H s) (q:Q (.bl k) H) (e:k = k'):EP X pins σ Q (.bool k') s:=by
  subst e
  exact ⟨.bl k,H,I,rfl,q⟩
theorem Jx:OpR X (compareOp .Eq) rEq:=by
  intro pins s σ H x y v u Q I rx ry h
  obtain ⟨hs,q⟩:=h
  cases x with
  | non=>
    cases rx
    cases y with
    | non=>cases ry;exact PySem.EqNone.eq_none_none (zL I q (by simp))
    | bl j=>cases ry;exact PySem.EqNone.eq_none_bool (zL I q (by simp))
    | int j=>obtain ⟨t',rfl⟩:=ry;exact PySem.EqNone.eq_none_int (zL I q (by simp))
    | str j=>obtain ⟨t',rfl⟩:=ry;exact PySem.EqNone.eq_none_str (zL I q (by simp))
    | _=>exact absurd (show false = true from hs) Bool.false_ne_true
  | bl i=>
    cases rx
    cases y with
    | non=>cases ry;exact PySem.EqNone.eq_bool_none (zL I q (by simp))
    | bl j=>cases ry;exact eq_bool (zL I q Ww)
    | str j=>obtain ⟨t',rfl⟩:=ry;exact PySem.EqMixed.eq_bool_str (zL I q (by simp))
    | _=>exact absurd (show false = true from hs) Bool.false_ne_true
  | int i=>
    obtain ⟨t,rfl⟩:=rx
    cases y with
    | non=>cases ry;exact PySem.EqNone.eq_int_none (zL I q (by simp))
    | int j=>obtain ⟨t',rfl⟩:=ry;exact eq_int (zL I q JM)
    | str j=>obtain ⟨t',rfl⟩:=ry;exact PySem.EqMixed.eq_int_str (zL I q (by simp))
    | _=>exact absurd (show false = true from hs) Bool.false_ne_true
  | str i=>
    obtain ⟨t,rfl⟩:=rx
    cases y with
    | non=>cases ry;exact PySem.EqNone.eq_str_none (zL I q (by simp))
    | bl j=>cases ry;exact PySem.EqMixed.eq_str_bool (zL I q (by simp))
    | int j=>obtain ⟨t',rfl⟩:=ry;exact PySem.EqMixed.eq_str_int (zL I q (by simp))
    | str j=>obtain ⟨t',rfl⟩:=ry;exact eq_str (zL I q JL)
    | _=>exact absurd (show false = true from hs) Bool.false_ne_true
  | byt i=>
    obtain ⟨t,rfl⟩:=rx
    cases y with
    | byt j=>obtain ⟨t',rfl⟩:=ry;exact PySem.W.eq_bytes (zL I q JN)
    | _=>exact absurd (show false = true from hs) Bool.false_ne_true
  | _=>cases y <;> exact absurd (show false = true from hs) Bool.false_ne_true
theorem ZQ:OpR X (compareOp .NotEq) rNe:=by
  intro pins s σ H x y v u Q I rx ry h
  obtain ⟨hs,q⟩:=h
  cases x with
  | non=>
    cases rx
    cases y with
    | non=>cases ry;exact PySem.EqNone.ne_none_none (zL I q (by simp))
    | bl j=>cases ry;exact PySem.EqNone.ne_none_bool (zL I q (by simp))
    | int j=>obtain ⟨t',rfl⟩:=ry;exact PySem.EqNone.ne_none_int (zL I q (by simp))
    | str j=>obtain ⟨t',rfl⟩:=ry;exact PySem.EqNone.ne_none_str (zL I q (by simp))
    | _=>exact absurd (show false = true from hs) Bool.false_ne_true
  | bl i=>
    cases rx
    cases y with
    | non=>cases ry;exact PySem.EqNone.ne_bool_none (zL I q (by simp))
    | bl j=>cases ry;exact ne_bool (zL I q (congrArg not Ww))
    | str j=>obtain ⟨t',rfl⟩:=ry;exact PySem.EqMixed.ne_bool_str (zL I q (by simp))
    | _=>exact absurd (show false = true from hs) Bool.false_ne_true
  | int i=>
    obtain ⟨t,rfl⟩:=rx
    cases y with
    | non=>cases ry;exact PySem.EqNone.ne_int_none (zL I q (by simp))
    | int j=>obtain ⟨t',rfl⟩:=ry;exact ne_int (zL I q (congrArg not JM))
    | str j=>obtain ⟨t',rfl⟩:=ry;exact PySem.EqMixed.ne_int_str (zL I q (by simp))
    | _=>exact absurd (show false = true from hs) Bool.false_ne_true
  | str i=>
    obtain ⟨t,rfl⟩:=rx
    cases y with
    | non=>cases ry;exact PySem.EqNone.ne_str_none (zL I q (by simp))
    | bl j=>cases ry;exact PySem.EqMixed.ne_str_bool (zL I q (by simp))
    | int j=>obtain ⟨t',rfl⟩:=ry;exact PySem.EqMixed.ne_str_int (zL I q (by simp))
    | str j=>obtain ⟨t',rfl⟩:=ry;exact ne_str (zL I q (congrArg not JL))
    | _=>exact absurd (show false = true from hs) Bool.false_ne_true
  | byt i=>
    obtain ⟨t,rfl⟩:=rx
    cases y with
    | byt j=>obtain ⟨t',rfl⟩:=ry;exact PySem.W.ne_bytes (zL I q (congrArg not JN))
    | _=>exact absurd (show false = true from hs) Bool.false_ne_true
  | _=>cases y <;> exact absurd (show false = true from hs) Bool.false_ne_true
theorem Jv:OpR X (compareOp .Lt) (rI0 fun i j=>.bl (decide (i < j))):=Ye fun _ _ _ _ _ _ _ q=>lt_int q
theorem YZ:OpR X (compareOp .LtE) (rI0 fun i j=>.bl (decide (i <= j))):=Ye fun _ _ _ _ _ _ _ q=>le_int q
theorem vV:OpR X (compareOp .Gt) (rI0 fun i j=>.bl (decide (j < i))):=Ye fun _ _ _ _ _ _ _ q=>gt_int q
theorem Jw:OpR X (compareOp .GtE) (rI0 fun i j=>.bl (decide (j <= i))):=Ye fun _ _ _ _ _ _ _ q=>ge_int q
theorem zO (b:Expr) {op:CmpOp} (h:op ≠ .In:=by decide) (h2:op ≠ .NotIn:=by decide):behindInMarks op b = false:=by
  have e1:(op == CmpOp.In) = false:=by cases op <;> first | rfl | exact absurd rfl h
  have e2:(op == CmpOp.NotIn) = false:=by cases op <;> first | rfl | exact absurd rfl h2
  cases b <;> simp [behindInMarks,e1,e2]
theorem jh {op:CmpOp} {r:R2} (ho:OpR X (compareOp op) r) (ha:PE X a ta) (hb:PE X b tb) (hm:behindInMarks op b = false):PE X (.Compare a [op] [b] pos) (tOp r ta tb):=by
  intro pins s σ H Q I h
  exact wpAny_Compare1 (zaT ha hb I h fun v u s2 x y H2 I2 rx ry q=>ho pins s2 σ H2 x y v u Q I2 rx ry q) hm
def YL (t:TE):TT:=fun σ H Q=>t σ H fun x H'=>IsB x H' Q
theorem zR {op:CmpOp} {r:R2} (ho:OpR X (compareOp op) r) (ha:PE X a ta) (hb:PE X b tb) (hm:behindInMarks op b = false):PT X (.Compare a [op] [b] pos) (YL (tOp r ta tb)):=by
  intro pins s σ H Q I h
  refine wpAny_isTrue_Compare1 (thn (ha pins s σ H _ I h) fun v s1 ⟨x,H1,I1,r1,q1⟩=>thn (hb pins s1 σ H1 _ I1 q1) fun u s2 ⟨y,H2,I2,r2,q2⟩=>
    thn (ho pins s2 σ H2 x y v u _ I2 r1 r2 q2) fun c s3 ⟨z,H3,I3,r3,k,e,q3⟩=>?_) hm
  subst e
  cases r3
  exact wpAny_truthy_bool ⟨H3,I3,q3⟩
def zae (r r':R2) (ta tb tc:TE):TE:=fun σ H Q=>ta σ H fun x H1=>tb σ H1 fun y H2=>r x y H2 fun z H3=>∃ k,z = .bl k /\
  (if k = true then tc σ H3 fun w' H4=>r' y w' H4 Q else Q (.bl false) H3)
theorem VH {op op':CmpOp} {r r':R2} (ho:OpR X (compareOp op) r) (ho':OpR X (compareOp op') r') (ha:PE X a ta) (hb:PE X b tb) (hc:PE X c tc)
    (hm:lastMarks [op,op'] [b,c] = false:=by with_unfolding_all rfl):PT X (.Compare a [op,op'] [b,c] pos) (YL (zae r r' ta tb tc)):=by
  intro pins s σ H Q I h
  refine isTrue_chain (thn (ha pins s σ H _ I h) fun v s1 ⟨x,H1,I1,r1,q1⟩=>test_link (thn (hb pins s1 σ H1 _ I1 q1) fun u s2 ⟨y,H2,I2,r2,q2⟩=>
    thn (ho pins s2 σ H2 x y v u _ I2 r1 r2 q2) fun d s3 ⟨z,H3,I3,r3,k,e,q3⟩=>?_)) hm
  subst e
  cases r3
  refine wpAny_truthy_bool ?_
  cases k with
  | false=>
    obtain ⟨k',e',q'⟩:=q3
    cases e'
    exact ite_ff ⟨H3,I3,q'⟩
  | true=>
    refine ite_tt (test_last (thn (hc pins s3 σ H3 _ I3 q3) fun w' s4 ⟨z',H4,I4,r4,q4⟩=>thn (ho' pins s4 σ H4 y z' u w' _ I4 r2 r4 q4) fun d' s5 ⟨z2,H5,I5,r5,k2,e2,q5⟩=>?_))
    subst e2
    cases r5
    exact wpAny_truthy_bool ⟨H5,I5,q5⟩
theorem vX:(sizeLine:Nat) < 2 ^ 63:=by rw [sizeLine_eq];decide
inductive xK (x:V) (y:V) (H:Hp) (Q:VK):Prop
  | mk (i j:_) (_:x = .str i) (_:y = .str j) (_:i.length + j.length <= sizeLine) (_:Q (.str (i ++ j)) H):xK x y H Q
theorem QJ:OpR X (binaryOp .Add) (xK):=by
  intro pins s σ H x y v u Q I rx ry h
  obtain ⟨i,j,rfl,rfl,hz,q⟩:=h
  obtain ⟨t,rfl⟩:=rx
  obtain ⟨t',rfl⟩:=ry
  exact add_str (fun t' tk=>⟨.str (i ++ j),H,I.tok _,⟨_,rfl⟩,q⟩) hz
theorem jK {x:V} {us:List Value} (r:Vals [x] us):∃ u,us = [u] /\ RelV x u:=by
  cases r with
  | cons r1 r2=>cases r2;exact ⟨_,rfl,r1⟩
theorem wO {x y:V} {us:List Value} (r:Vals [x,y] us):∃ u w',us = [u,w'] /\ RelV x u /\ RelV y w':=by
  cases r with
  | cons r1 r2=>
    cases r2 with
    | cons r3 r4=>cases r4;exact ⟨_,_,rfl,r1,r3⟩
inductive wA (xs:List V) (H:Hp) (Q:VK):Prop
  | mk (i:_) (_:xs = [.int i]) (_:Q (.int (if i < 0 then -i else i)) H):wA xs H Q
theorem wq:qD X (.builtin "abs") (wA):=by
  intro pins s σ H xs us Q I r h
  obtain ⟨i,rfl,q⟩:=h
  obtain ⟨u,rfl,t,rfl⟩:=jK r
  exact call_abs_int fun u tk=>⟨.int (if i < 0 then -i else i),H,I.tok _,⟨_,rfl⟩,q⟩
inductive vz (xs:List V) (H:Hp) (Q:VK):Prop
  | mk (i j:_) (_:xs = [.int i,.int j]) (_:Q (.int (if j > i then j else i)) H):vz xs H Q
theorem X8 (hc:X.calm = true):qD X (.builtin "max") (vz):=by
  intro pins s σ H xs us Q I r h
  obtain ⟨i,j,rfl,q⟩:=h
  obtain ⟨u,w',rfl,⟨t,rfl⟩,⟨t',rfl⟩⟩:=wO r
  refine max_two_ints (I.ok.hd hc) fun h' tk k=>⟨_,H,I.kept k,?_,q⟩
  by_cases hj:j > i
  · rw [if_pos hj,if_pos hj];exact ⟨_,rfl⟩
  · rw [if_neg hj,if_neg hj];exact ⟨_,rfl⟩
inductive vw (xs:List V) (H:Hp) (Q:VK):Prop
  | mk (i j:_) (_:xs = [.int i,.int j]) (_:Q (.int (if j < i then j else i)) H):vw xs H Q
theorem ym (hc:X.calm = true):qD X (.builtin "min") (vw):=by
  intro pins s σ H xs us Q I r h
  obtain ⟨i,j,rfl,q⟩:=h
  obtain ⟨u,w',rfl,⟨t,rfl⟩,⟨t',rfl⟩⟩:=wO r
  refine min_two_ints (I.ok.hd hc) fun h' tk k=>⟨_,H,I.kept k,?_,q⟩
  by_cases hj:j < i
  · rw [if_pos hj,if_pos hj];exact ⟨_,rfl⟩
  · rw [if_neg hj,if_neg hj];exact ⟨_,rfl⟩
theorem X9:qD X (.type "int") (fun xs H Q=>(∃ i,xs = [.int i] /\ Q (.int i) H) \/ ∃ k,xs = [.bl k] /\ Q (.int (if k then 1 else 0)) H):=by
  intro pins s σ H xs us Q I r h
  rcases h with ⟨i,rfl,q⟩ | ⟨k,rfl,q⟩
  · obtain ⟨u,rfl,t,rfl⟩:=jK r
    exact call_int_int ⟨.int i,H,I,⟨_,rfl⟩,q⟩
  · obtain ⟨u,rfl,r1⟩:=jK r
    cases r1
    exact call_int_bool ⟨.int (if k then 1 else 0),H,I.tok _,⟨_,rfl⟩,q⟩
inductive xg (xs:List V) (H:Hp) (Q:VK):Prop
  | mk (i j:_) (_:xs = [.int i,.int j]) (_:zbw i j) (_:∀ p,H p = none -> Q (.ref p) (upd H p (.tup [.int (i / j),.int (i % j)]))):xg xs H Q
theorem Qf:qD X (.builtin "divmod") (xg):=by
  intro pins s σ H xs us Q I r h
  obtain ⟨i,j,rfl,⟨h1,h2⟩,q⟩:=h
  obtain ⟨u,w',rfl,⟨t,rfl⟩,⟨t',rfl⟩⟩:=wO r
  refine divmod_int (by omega) ?_ (.inl (PyProof.noPylong_small (by omega)))
  rw [Int.fdiv_eq_ediv_of_nonneg i (by omega),Int.fmod_eq_emod_of_nonneg i (by omega)]
  have hn:H s.heap.objs.size = none:=I.hok.fresh (Nat.le_refl _)
  refine ⟨.ref s.heap.objs.size,_,?_,rfl,q _ hn⟩
  refine I.laid (fun b o e=>Heap.get?_push_of_some _ e) (Nat.le_refl _) ⟨by simp only [List.length_cons,List.length_nil];rw [sizeLine_eq];decide,[.int (i / j) s.toks,.int (i % j) (s.toks + 1)],.cons ⟨_,rfl⟩ (.cons ⟨_,rfl⟩ .nil),?_⟩
  exact ⟨⟨_,Heap.get?_push_size s.heap rfl,rfl,0,rfl⟩,_,Heap.get?_push_size s.heap rfl,rfl⟩
end
structure ObjM (h:Heap) (x dx C:Addr) (mA:Str -> Option Value):Prop where
  obj:h.get? x = some (PySem.W.instObj C dx)
  ns:h.Ns1 dx mA
  ne:dx ≠ x
section
variable {prog:Program} {w:World} {A:Around} {E:Value -> Shared -> Prop} {s:Shared} {K:PySem.W.Frag} {x dx C f:Addr} {mA:Str -> Option Value} {name:Str} {v:Value}
end
theorem RelO.some_of {v:V} {o:Option Value} (r:RelO (some v) o):∃ u,o = some u /\ RelV v u:=by
  cases o with
  | none=>exact (show False from r).elim
  | some u=>exact ⟨u,rfl,r⟩
section
variable {P:Program} {w:World} {H H':Hp} {h h':Heap} {a C dx:Addr} {fs fs':List (Str × V)}
end
structure Cls (K:PySem.W.Frag) (C:Addr):Prop where
  pg:PySem.W.plainGet K C Str.empty = true
  hd:PySem.W.hasDictIn K C = true
  po:PySem.W.plainOver K C = true
  sa:PySem.W.findIn K (.ref C) "__setattr__" = some (some (.builtin "object.__setattr__"))
structure Con (K:PySem.W.Frag) (C:Addr) (f:Str) (v:V) (u:Value):Prop where
  at_:PySem.W.findIn K (.ref C) f = some (some u)
  rel:RelV v u
  get:PySem.W.specialIn K u "__get__" = some none
  cp:PySem.W.copiedNames.contains f = false
structure Meth (K:PySem.W.Frag) (C:Addr) (m:Str) (f:Addr):Prop where
  at_:PySem.W.findIn K (.ref C) m = some (some (.ref f))
  fn:PySem.W.isFn K (.ref f) = true
  kp:PySem.W.keepIn K (.ref f) = true
section
variable {X:Cx} {pins:List (Addr × Obj)} {σ:St} {H:Hp} {s:Shared} {a C dx:Addr} {fs:List (Str × V)} {f:Str} {v:V} {A:Around} {E:Value -> Shared -> Prop}
end
section
variable {X:Cx} {o e value:Expr} {f:Str} {pos pos' tpos:Pos} {ta tv:TE}
end
section
variable {X:Cx} {pins:List (Addr × Obj)} {σ:St} {H:Hp} {s:Shared} {A:Around} {E:Value -> Shared -> Prop} {Q:Value -> Shared -> Prop} {c:Value} {b:Bool}
inductive wz (K:PySem.W.Frag) (H:Hp):V -> Value -> Prop where
  | non:wz K H .non (.type "NoneType")
  | bl (x:Bool):wz K H (.bl x) (.type "bool")
  | int (i:Int):wz K H (.int i) (.type "int")
  | str (x:Str):wz K H (.str x) (.type "str")
  | flt (x:UInt64):wz K H (.flt x) (.type "float")
  | lst {a:Addr} {xs:List V} (e:H a = some (.lst xs)):wz K H (.ref a) (.type "list")
  | frz {a:Addr} {o:Obj} {xs:List V} (e:H a = some (.frz o (.lst xs))):wz K H (.ref a) (.type "list")
  | tup {a:Addr} {xs:List V} (e:H a = some (.tup xs)):wz K H (.ref a) (.type "tuple")
  | dK {a:Addr} {kvs:List (Key × V)} (e:H a = some (.dK kvs)):wz K H (.ref a) (.type "dict")
  | dT {a:Addr} {kvs:List (List Key × V)} (e:H a = some (.dT kvs)):wz K H (.ref a) (.type "dict")
  | ins {a C dx:Addr} {fs:List (Str × V)} (e:H a = some (.ins C dx fs)) (cl:Cls K C) (ha:PySem.W.findIn K (.ref C) "__class__" = some (some (.builtin "object.__class__")))
      (hn:PySem.W.specialIn K (.builtin "object.__class__") "__get__" = some (some (.builtin "getset_descriptor.__get__"))) (htk:PySem.W.takesIn K (.builtin "object.__class__") = some true)
      (hm:PySem.W.mroIn K C (.type "object") = some true):wz K H (.ref a) (.ref C)
end
structure Room (k:Nat) (A:Around):Prop where
  hd:A.handled = none
  dp:A.depth + 3 * k + 5 < recursionLimit
  un:A.units + 16 * k + 200 < cLine
  gd:A.guards = some []
theorem Room.mono {j k:Nat} {A:Around} (r:Room k A) (h:j <= k):Room j A:=⟨r.hd,by have:=r.dp;omega,by have:=r.un;omega,r.gd⟩
theorem Room.deeper {k:Nat} {A:Around} (r:Room (k + 1) A) (env:Env):Room k (A.deeper env):=
  ⟨r.hd,by have:=r.dp;show A.depth + 1 + 3 * k + 5 < _;omega,by have:=r.un;show A.units + 3 + 16 * k + 200 < _;omega,r.gd⟩
theorem Room.depth {k:Nat} {A:Around} (r:Room k A):A.depth < recursionLimit:=by have:=r.dp;omega
theorem Room.units {k:Nat} {A:Around} (r:Room k A):A.units + 64 < cLine:=by have:=r.un;omega
theorem Room.units0 {k:Nat} {A:Around} (r:Room k A):A.units < cLine:=by have:=r.un;omega
def zbG:TA:=fun _ H Q=>Q [] H
def za2 (ta:TE) (tr:TA):TA:=fun σ H Q=>ta σ H fun x H1=>tr σ H1 fun xs H2=>Q (x :: xs) H2
section
variable {X:Cx} {e:Expr} {es:List Expr} {te:TE} {t:TA} {pos:Pos}
theorem zg:PA X [] zbG:=fun _ _ _ _ H Q I h=>Calls.spliced_nil ⟨[],H,I,.nil,h⟩
theorem zc (ha:PE X e te) (hr:PA X es t) (hs:starEach (e :: es) X.env = (false,eval e X.env) :: starEach es X.env:=by rfl):PA X (e :: es) (za2 te t):=by
  intro pos pins s σ H Q I h
  rw [hs]
  show wpAny _ _ (spliced ((false,eval e X.env) :: backTo pos (starEach es X.env))) _ _ s
  refine Calls.spliced_cons (thn (ha pins s σ H _ I h) fun u s1 ⟨x,H1,I1,r1,q1⟩=>?_)
  exact thn (hr pos pins s1 σ H1 _ I1 q1) fun us s2 ⟨xs,H2,I2,r2,q2⟩=>⟨x :: xs,H2,I2,.cons r1 r2,q2⟩
def zbA (t:TA):TE:=fun σ H Q=>t σ H fun xs H1=>xs.length <= sizeLine /\ ∀ p,H1 p = none -> Q (.ref p) (upd H1 p (.tup xs))
def zbH (t:TA):TE:=fun σ H Q=>t σ H fun xs H1=>xs.length <= sizeLine /\ ∀ p,H1 p = none -> Q (.ref p) (upd H1 p (.lst xs))
theorem jC {x1} (h:PA X es t):PE X (.Tuple es x1 pos) (zbA t):=by
  intro pins s σ H Q I hq
  refine wpAny_Tuple_spliced (thn (h pos pins s σ H _ I hq) fun us s1 ⟨xs,H1,I1,r,z,q⟩=>⟨by rw [<- r.length];exact z,?_⟩)
  have hf:H1 s1.heap.objs.size = none:=I1.hok.fresh (Nat.le_refl _)
  refine ⟨.ref s1.heap.objs.size,upd H1 s1.heap.objs.size (.tup xs),I1.laid (t':=s1.toks) (fun b u e=>Heap.get?_push_of_some _ e) (Nat.le_refl _) ?_,rfl,q _ hf⟩
  exact ⟨z,us,r,⟨_,Heap.get?_push_size _ rfl,rfl,_,rfl⟩,_,Heap.get?_push_size _ rfl,rfl⟩
theorem z9 (h:PA X es t):PE X (.List es pos) (zbH t):=by
  intro pins s σ H Q I hq
  refine wpAny_List_spliced (thn (h pos pins s σ H _ I hq) fun us s1 ⟨xs,H1,I1,r,z,q⟩=>⟨by rw [<- r.length];exact z,?_⟩)
  have hf:H1 s1.heap.objs.size = none:=I1.hok.fresh (Nat.le_refl _)
  refine ⟨.ref s1.heap.objs.size,upd H1 s1.heap.objs.size (.lst xs),I1.laid (t':=s1.toks) (fun b u e=>Heap.get?_push_of_some _ e) (Nat.le_refl _) ?_,rfl,q _ hf⟩
  exact ⟨z,us,0,r,Heap.get?_push_size _ rfl⟩
end
abbrev Sp:=List V -> Hp -> VK -> XK -> Prop
abbrev CXT:=List Env -> Hp -> Shared -> XK -> Value -> Shared -> Prop
structure YJ (P:Program) (w:World) (K:PySem.W.Frag) (mg:Str -> Option Value) (base:Heap) (A:Around) (outer:List Env) (s:Shared) (H:Hp):Prop where
  frames:A.frames = some outer
  mod:Mod K mg base
  bs:∀ b o,base.get? b = some o -> s.heap.get? b = some o /\ H b = none
  bsz:base.objs.size <= s.heap.objs.size
  funs:s.heap.FunFrames base outer
  frf:∀ b ∈ frs outer,H b = none
  hok:HOk P w H s.heap
  bare:AllBare s.gens
def CE (outer:List Env) (P:Program) (w:World) (H:Hp) (s:Shared) (Q:VK) (u:Value) (s':Shared):Prop:=
  ∃ v H',s'.os = s.os /\ AllBare s'.gens /\ Un (frs outer) [] H H' s.heap s'.heap /\ HOk P w H' s'.heap /\ RelV v u /\ Q v H'
def CR (CX:CXT) (outer:List Env) (P:Program) (w:World) (H:Hp) (s:Shared) (Q:VK) (E:XK) (r:Result) (s':Shared):Prop:=
  match r with
  | .ok (.ret u)=>CE outer P w H s Q u s'
  | .ok _=>False
  | .error e=>CX outer H s E e s'
structure qC (P:Program) (w:World) (K:PySem.W.Frag) (mg:Str -> Option Value) (base:Heap) (CX:CXT) (k:Nat) (f:Addr) (fd:FuncData) (ps:List Str) (sp:Sp):Prop where
  len:∀ vs H Q E,sp vs H Q E -> vs.length = ps.length
  run:∀ (A:Around) (outer:List Env) (s:Shared) (H:Hp) (args:Args) (us:List Value) (vs:List V) (Q:VK) (E:XK),Room k A -> YJ P w K mg base A outer s H -> BindsTo s fd args (ps.zip us) -> Vals vs us -> sp vs H Q E ->
    codeAny (model P w) A (.call (.ref f) args) (CR CX outer P w H s Q E) s
section
variable {X:Cx} {pins:List (Addr × Obj)} {σ:St} {H:Hp} {s s':Shared}
theorem Inv.env0 (I:Inv X pins σ H s):YJ X.prog X.w X.K X.mg X.base X.A X.stack s H:=
  ⟨I.ok.frames,I.ok.mod,I.bs,Nat.le_trans I.ok.bsz I.sz,I.stack,I.stkFree,I.hok,I.bare⟩
theorem Inv.after {Q:VK} {u:Value} (I:Inv X pins σ H s) (h:CE X.stack X.prog X.w H s Q u s'):EP X pins σ Q u s':=by
  obtain ⟨v,H',os,bare,un,hok,r,q⟩:=h
  obtain ⟨hh,g,d,t,os'⟩:=s'
  obtain rfl:os' = s.os:=os
  exact ⟨v,H',I.call (h':=hh) (g':=g) (d':=d) (t':=t) (ch:=[]) un hok bare (fun b z=>absurd z (by simp)),r,q⟩
end
def YM (sp:Sp) (dvs:List V) (E:XK) (t:TA):TE:=fun σ H Q=>t σ H fun vs H1=>sp (vs ++ dvs) H1 Q E
def Binds (K:PySem.W.Frag) (fd:FuncData) (ps:List Str) (ds:List Value):Prop:=
  ∀ (s:Shared) (us:List Value),K.In s.heap -> (us ++ ds).length = ps.length -> BindsTo s fd ⟨us,[]⟩ (ps.zip (us ++ ds))
theorem Binds.all {K:PySem.W.Frag} {fd:FuncData} {ps:List Str} (h:∀ us:List Value,us.length = ps.length -> bindArgs fd ⟨us,[]⟩ = pure (ps.zip us)):Binds K fd ps []:=fun s us _ hl=>by
  rw [List.append_nil] at hl ⊢
  exact .of_eq (h us hl)
def QV (CX:CXT) (X:Cx) (E:XK):Prop:=∀ (pins:List (Addr × Obj)) (σ:St) (H:Hp) (s:Shared) (e:Value) (s':Shared),Inv X pins σ H s -> CX X.stack H s E e s' -> X.xe e s'
section
variable {X:Cx} {CX:CXT} {k:Nat} {f C:Addr} {fd:FuncData} {ps:List Str} {sp:Sp} {dvs:List V} {ds:List Value} {E:XK} {x m:Str} {p pos apos:Pos} {e o:Expr} {es:List Expr} {ta:TE} {t:TA}
theorem zah {pins:List (Addr × Obj)} {σ:St} {H:Hp} {s:Shared} {Q:VK} {us:List Value} {vs:List V} (F:qC X.prog X.w X.K X.mg X.base CX k f fd ps sp) (hr:Room k X.A) (hb:Binds X.K fd ps ds) (hd:Vals dvs ds) (hx:QV CX X E)
    (I:Inv X pins σ H s) (r:Vals vs us) (h:sp (vs ++ dvs) H Q E):wpAny (model X.prog X.w) X.A (call (.ref f) us) (EP X pins σ Q) X.xe s:=by
  have r2:Vals (vs ++ dvs) (us ++ ds):=r.append hd
  have hl:(us ++ ds).length = ps.length:=by rw [<- r2.length];exact F.len _ _ _ _ h
  refine wpAny_call (codeAny_mono (F.run X.A X.stack s H ⟨us,[]⟩ (us ++ ds) (vs ++ dvs) Q E hr I.env0 (hb s us I.kIn hl) r2 h) fun r s' hq=>?_)
  cases r with
  | error e=>exact hx pins σ H s e s' I hq
  | ok fl=>
    cases fl with
    | ret u=>exact I.after hq
    | next=>exact False.elim hq
    | brk=>exact False.elim hq
    | cont=>exact False.elim hq
theorem Ya (F:qC X.prog X.w X.K X.mg X.base CX k f fd ps sp) (hr:Room k X.A) (hg:Gl X x) (hm:X.mg x = some (.ref f)) (hk:PySem.W.keepIn X.K (.ref f) = true) (hb:Binds X.K fd ps ds) (hd:Vals dvs ds) (hx:QV CX X E)
    (ha:PA X (e :: es) t) (hdb:(x == ("__debug__" : Str)) = false:=by decide) (he:starEach (e :: es) X.env = (false,eval e X.env) :: starEach es X.env:=by rfl) (hpl:(backTo pos (starEach es X.env)).any (·.1) = false:=by rfl) :
    PE X (.Call (.Name x p) (e :: es) [] pos) (YM sp dvs E t):=by
  intro pins s σ H Q I h
  refine wpAny_Call_Name_kw (Ys I hg hm ?_ hdb)
  refine PySem.W.callWith_K (h₀:=X.base) I.ok.mod.kin hk (thn (ha pos pins s σ H _ I h) fun us s1 ⟨vs,H1,I1,r,q⟩=>⟨I1.kIn,?_⟩) he hpl
  exact zah F hr hb hd hx I1 r q
structure Mk (K:PySem.W.Frag) (C f:Addr):Prop where
  makes:PySem.W.makesIn K C = true
  init:PySem.W.findIn K (.ref C) "__init__" = some (some (.ref f))
  fn:PySem.W.isFn K (.ref f) = true
  kp:PySem.W.keepIn K (.ref C) = true
end
section
variable {X:Cx} {CX:CXT} {k:Nat} {f C:Addr} {fd:FuncData} {ps ks:List Str} {sp:Sp} {E:XK} {x m:Str} {p pos apos kpos:Pos} {e o:Expr} {es:List Expr} {kws:List Keyword} {te ta:TE} {t tk:TA} {nm:Option Str}
structure KBinds (K:PySem.W.Frag) (fd:FuncData) (ps ks:List Str) (g:List Value -> List Value -> List Value) (gV:List V -> List V -> List V):Prop where
  to:∀ (s:Shared) (us ws:List Value),K.In s.heap -> (g us ws).length = ps.length -> BindsTo s fd ⟨us,ks.zip ws⟩ (ps.zip (g us ws))
  rel:∀ {vs:List V} {us:List Value} {zs:List V} {ws:List Value},Vals vs us -> Vals zs ws -> Vals (gV vs zs) (g us ws)
variable {g:List Value -> List Value -> List Value} {gV:List V -> List V -> List V}
end
structure zJ (N P:List Str) (sc:Scope):Prop where
  kind:sc.kind = .function
  co:sc.isCoroutine = false
  gen:sc.isGenerator = false
  nd:N.Nodup
  pre:N.take P.length = P
  par:∀ x ∈ P,sc.names.lookup x = some .local \/ sc.names.lookup x = some .cell
  nofree:∀ y ∈ sc.names,y.2 ≠ .free
theorem yr {kindOf:Str -> Option NameKind} {x:Str}:∀ {binds:List (Str × Value)} {m:Str -> Option Value},(∀ v,(x,v) ∉ binds) -> bindL kindOf binds m x = m x
  | [],_,_=>rfl
  | (n,v) :: r,m,h=>by
    unfold bindL
    rw [yr fun w hw=>h w (List.mem_cons_of_mem _ hw)]
    split
    · have:x ≠ n:=by rintro rfl;exact h v List.mem_cons_self
      simp [this]
    · rfl
theorem yu {kindOf:Str -> Option NameKind} {x:Str}:∀ {binds:List (Str × Value)} {m:Str -> Option Value},(∀ v,(x,v) ∉ binds) -> bindC kindOf binds m x = m x
  | [],_,_=>rfl
  | (n,v) :: r,m,h=>by
    unfold bindC
    rw [yu fun w hw=>h w (List.mem_cons_of_mem _ hw)]
    split
    · rfl
    · have:x ≠ n:=by rintro rfl;exact h v List.mem_cons_self
      simp [this]
theorem yt {kindOf:Str -> Option NameKind} {x:Str} {v:Value}:∀ {P:List Str} {vs:List Value} {i:Nat} {m:Str -> Option Value},P.Nodup -> P[i]? = some x -> vs[i]? = some v -> kindOf x = some .local ->
    bindL kindOf (P.zip vs) m x = some v
  | [],_,_,_,_,h,_,_=>by simp at h
  | _ :: _,[],_,_,_,_,h,_=>by simp at h
  | p :: P,w :: vs,0,m,nd,h1,h2,hk=>by
    simp at h1 h2;subst h1;subst h2
    show bindL kindOf ((p,w) :: P.zip vs) m p = _
    unfold bindL
    rw [yr fun v hv=>(List.nodup_cons.mp nd).1 (List.of_mem_zip hv).1,if_pos hk]
    simp
  | p :: P,w :: vs,i + 1,m,nd,h1,h2,hk=>by
    show bindL kindOf ((p,w) :: P.zip vs) m x = _
    unfold bindL
    exact yt (i:=i) (List.nodup_cons.mp nd).2 (by simpa using h1) (by simpa using h2) hk
theorem yw {kindOf:Str -> Option NameKind} {x:Str} {v:Value}:∀ {P:List Str} {vs:List Value} {i:Nat} {m:Str -> Option Value},P.Nodup -> P[i]? = some x -> vs[i]? = some v -> kindOf x ≠ some .local ->
    bindC kindOf (P.zip vs) m x = some v
  | [],_,_,_,_,h,_,_=>by simp at h
  | _ :: _,[],_,_,_,_,h,_=>by simp at h
  | p :: P,w :: vs,0,m,nd,h1,h2,hk=>by
    simp at h1 h2;subst h1;subst h2
    show bindC kindOf ((p,w) :: P.zip vs) m p = _
    unfold bindC
    rw [yu fun v hv=>(List.nodup_cons.mp nd).1 (List.of_mem_zip hv).1,if_neg hk]
    simp
  | p :: P,w :: vs,i + 1,m,nd,h1,h2,hk=>by
    show bindC kindOf ((p,w) :: P.zip vs) m x = _
    unfold bindC
    exact yw (i:=i) (List.nodup_cons.mp nd).2 (by simpa using h1) (by simpa using h2) hk
def x5 (N:List Str) (vs:List V):St:=vs.map some ++ List.replicate (N.length - vs.length) none
def X5 (CX:CXT) (P:Program) (w:World) (K:PySem.W.Frag) (mg:Str -> Option Value) (base:Heap) (N:List Str) (qual:Str) (scope:Scope) (f:Addr) (cd:Value) (A:Around) (outer:List Env) (s:Shared) (H:Hp) (E:XK):Cx where
  prog:=P
  w:=w
  K:=K
  mg:=mg
  base:=base
  A:=A.deeper (envOfC qual scope s.heap.objs.size f cd)
  N:=N
  s₀:=s
  H₀:=H
  env:=envOfC qual scope s.heap.objs.size f cd
  outer:=outer
  stack:=envOfC qual scope s.heap.objs.size f cd :: outer
  ex:=[]
  calm:=true
  fn:=fun _=>true
  pn:=[]
  xe:=fun e s'=>wpAny (model P w) (A.deeper (envOfC qual scope s.heap.objs.size f cd)) (leaving (envOfC qual scope s.heap.objs.size f cd) e) (fun _ s''=>CX outer H s E e s'') (fun e' s''=>CX outer H s E e' s'') s'
theorem Qe {sc:Scope} {n:Nat} {x:Str} (h:sc.names.lookup x = some .cell):∃ c,(cellsFrom n sc.names []).lookup x = some c:=by
  have q:=PySem.W.cellsFrom_some sc.names n [] (.inl h)
  exact Option.isSome_iff_exists.mp q
theorem X1 {CX:CXT} {P:Program} {w:World} {K:PySem.W.Frag} {mg:Str -> Option Value} {base:Heap} {N ps:List Str} {qual:Str} {scope:Scope} {f:Addr} {cd:Value} {A:Around} {outer:List Env} {s s1:Shared} {H:Hp} {E:XK} {us:List Value} {vs:List V}
    (S:zJ N ps scope) (hd:A.handled = none) (e0:YJ P w K mg base A outer s H) (hl:vs.length = ps.length) (r:Vals vs us)
    (x:InCallC s s.heap.objs.size (bindL (envOfC qual scope s.heap.objs.size f cd).kindOf (ps.zip us) fun _=>none) (cellsFrom (s.heap.objs.size + 1) scope.names []) (bindC (envOfC qual scope s.heap.objs.size f cd).kindOf (ps.zip us) fun _=>none) s1) :
    Inv (X5 CX P w K mg base N qual scope f cd A outer s H E) [] (x5 N vs) H s1:=by
  have hpl:ps.length <= N.length:=by have:=congrArg List.length S.pre;rw [List.length_take] at this;omega
  obtain ⟨h1,tk,rfl,hk⟩:=x.done
  have noA:∀ b:Addr,b ∉ (X5 CX P w K mg base N qual scope f cd A outer s H E).ex:=fun b z=>absurd (show b ∈ ([]:List Addr) from z) (by simp)
  refine ⟨⟨e0.mod,S.kind,rfl,rfl,Nat.le_refl _,fun y z c h1 h2=>?_,fun y hy=>?_,fun y c _ h=>?_,fun _=>hd,Around.frames_deeper e0.frames,.inr ⟨rfl,rfl⟩,fun b z=>absurd z (noA b),e0.bs,e0.bsz,fun b _ _=>noA b,fun b z=>absurd z (noA b),e0.funs,e0.frf⟩,
    rfl,e0.bare,Un.kept hk,⟨_,x.toInCall.ns,fun i y v h1 h2 h3=>?_⟩,fun y c h=>⟨_,x.cell y c h⟩,e0.hok.fresh (Nat.le_refl _),fun y c h=>?_,fun p hp=>absurd (show p ∈ ([]:List (Addr × Obj)) from hp) (by simp),e0.hok.kept hk,?_⟩
  · exact name_of_addr x.apart (PySem.mem_of_lookup h1) (PySem.mem_of_lookup h2)
  · have hy:scope.names.lookup y = some .cell \/ scope.names.lookup y = some .free:=hy
    rcases hy with hy | hy
    · exact Qe hy
    · exact absurd rfl (S.nofree _ (PySem.mem_of_lookup hy))
  · exact Nat.le_of_lt (x.above y c (PySem.mem_of_lookup h))
  · have hi:i < vs.length:=by
      unfold x5 at h2
      by_cases hi:i < vs.length
      · exact hi
      · rw [List.getElem?_append_right (by simpa using hi)] at h2
        rw [List.getElem?_replicate] at h2
        split at h2 <;> cases h2
    have ha:vs[i]? = some v:=by
      unfold x5 at h2
      rw [List.getElem?_append_left (by simpa using hi),List.getElem?_map] at h2
      cases e:vs[i]? with
      | none=>rw [e] at h2;cases h2
      | some a=>rw [e] at h2;cases h2;rfl
    obtain ⟨u,hu,rv⟩:=r.get ha
    have hp:ps[i]? = some y:=by
      rw [<- S.pre,List.getElem?_take_of_lt (by omega)];exact h1
    have ndP:ps.Nodup:=by rw [<- S.pre];exact S.nd.sublist (List.take_sublist _ _)
    refine ⟨u,rv,?_⟩
    rcases S.par y (List.mem_of_getElem? hp) with k | k
    · exact .inl ⟨k,yt ndP hp hu k⟩
    · obtain ⟨c,e⟩:=Qe (n:=s.heap.objs.size + 1) k
      refine .inr ⟨.inl k,c,e,?_⟩
      have q:=x.cell y c e
      rw [yw ndP hp hu (by show scope.names.lookup y ≠ _;rw [k];decide)] at q
      exact q
  · exact e0.hok.fresh (Nat.le_of_lt (x.above y c (PySem.mem_of_lookup h)))
  · unfold x5
    show _ = N.length
    rw [List.length_append,List.length_map,List.length_replicate]
    omega
theorem zbo {CX:CXT} {P:Program} {w:World} {K:PySem.W.Frag} {mg:Str -> Option Value} {base:Heap} {k:Nat} {f:Addr} {name qual:Str} {params:Arguments} {body:List Stmt} {scope:Scope} {dV kV doc pm cdv ct oc:Value} {an od:Option Addr}
    {osl:Array (Option Value)} {N ps:List Str} {sp:Sp} (lk:K.lookup f = some ⟨oc,od,.func (PySem.W.fnOf name qual params body scope dV kV doc pm an cdv ct),osl⟩) (hcd:PySem.W.codeIn K cdv qual = true) (S:zJ N ps scope)
    (len:∀ vs H Q E,sp vs H Q E -> vs.length = ps.length)
    (hbody:∀ (A:Around) (outer:List Env) (s:Shared) (H:Hp) (vs:List V) (Q:VK) (E:XK),Room k (A.deeper (envOfC qual scope s.heap.objs.size f cdv)) -> sp vs H Q E ->
      ∃ t,PSs (X5 CX P w K mg base N qual scope f cdv A outer s H E) body t /\ t { nx:=fun _ H'=>Q .non H',rt:=Q } (x5 N vs) H) :
    qC P w K mg base CX (k + 1) f (PySem.W.fnOf name qual params body scope dV kV doc pm an cdv ct) ps sp:=by
  refine ⟨len,fun A outer s H args us vs Q E hr e0 hb r hsp=>?_⟩
  have hl:=len _ _ _ _ hsp
  have KX:K.In s.heap:=e0.mod.kin.keeps fun b o e=>(e0.bs b o e).1
  have lim:s.heap.NoLimit:=e0.mod.nolimit.keeps fun b o e=>(e0.bs b o e).1
  have hkind:∀ y ∈ ps.zip us,scope.names.lookup y.1 = some .local \/ (scope.names.lookup y.1 = some .cell /\ ((cellsFrom (s.heap.objs.size + 1) scope.names []).lookup y.1).isSome = true):=fun ⟨n,v⟩ hy=>by
    rcases S.par n (List.of_mem_zip hy).1 with q | q
    · exact .inl q
    · exact .inr ⟨q,PySem.W.cellsFrom_some _ _ _ (.inl q)⟩
  refine codeAny_call_function hr.depth (KX _ _ lk) rfl S.co S.gen rfl (PySem.W.codeRec_of KX hcd) (hb _ _ _ _ ?_)
  refine wpAny_newFunctionEnv_cells S.kind hkind fun env he s1 x=>?_
  subst he
  refine ⟨lim.keeps x.toInCall.keep,codeAny_func ?_⟩
  obtain ⟨t,ht,hq⟩:=hbody A outer s H vs Q E (hr.deeper _) hsp
  have I:Inv (X5 CX P w K mg base N qual scope f cdv A outer s H E) [] (x5 N vs) H s1:=X1 S hr.hd e0 hl r x
  refine wpAny_mono (ht [] s1 (x5 N vs) H _ I hq) (fun fl s' hs=>?_) fun e s' hs=>hs
  have fin:∀ {σ':St} {H':Hp} {v:V} {u:Value},Inv (X5 CX P w K mg base N qual scope f cdv A outer s H E) [] σ' H' s' -> RelV v u -> Q v H' -> CE outer P w H s Q u s':=
    fun {σ' H' v u} J rv q=>⟨v,H',J.os,J.bare,J.base,J.hok,rv,q⟩
  cases fl with
  | ret u=>
    obtain ⟨v,σ',H',J,rv,q⟩:=hs
    exact fin J rv q
  | next=>
    obtain ⟨σ',H',J,q⟩:=hs
    exact fin (v:=V.non) (u:=Value.none) J rfl q
  | brk=>
    obtain ⟨_,_,_,q⟩:=hs
    exact False.elim q
  | cont=>
    obtain ⟨_,_,_,q⟩:=hs
    exact False.elim q
section
variable {X:Cx} {x:Str} {p pos:Pos} {e:Expr} {es:List Expr} {t:TA} {id T:String} {r:List V -> Hp -> VK -> Prop}
def tCB (r:List V -> Hp -> VK -> Prop) (t:TA):TE:=fun σ H Q=>t σ H fun vs H1=>r vs H1 Q
theorem zq (hc:qD X (.builtin id) r) (hg:Gl X x) (hm:X.mg x = none) (hv:bootBuiltins x = some (.builtin id)) (ha:PA X (e :: es) t) (hn:x ≠ "__name__" :=by decide) (hdb:(x == ("__debug__" : Str)) = false:=by decide)
    (he:starEach (e :: es) X.env = (false,eval e X.env) :: starEach es X.env:=by rfl) (hpl:(backTo pos (starEach es X.env)).any (·.1) = false:=by rfl):PE X (.Call (.Name x p) (e :: es) [] pos) (tCB r t):=by
  intro pins s σ H Q I h
  refine wpAny_Call_Name_kw (qZ I hg hm hv ?_ hn hdb)
  exact PyProof.Rows.callWith_builtin1 (thn (ha pos pins s σ H _ I h) fun us s1 ⟨vs,H1,I1,r1,q1⟩=>hc pins s1 σ H1 vs us Q I1 r1 q1) he hpl
theorem zK (hc:qD X (.type T) r) (hg:Gl X x) (hm:X.mg x = none) (hv:bootBuiltins x = some (.type T)) (ha:PA X (e :: es) t) (hn:x ≠ "__name__" :=by decide) (hdb:(x == ("__debug__" : Str)) = false:=by decide)
    (he:starEach (e :: es) X.env = (false,eval e X.env) :: starEach es X.env:=by rfl) (hpl:(backTo pos (starEach es X.env)).any (·.1) = false:=by rfl):PE X (.Call (.Name x p) (e :: es) [] pos) (tCB r t):=by
  intro pins s σ H Q I h
  refine wpAny_Call_Name_kw (qZ I hg hm hv ?_ hn hdb)
  exact PyProof.Rows.callWith_type1 (thn (ha pos pins s σ H _ I h) fun us s1 ⟨vs,H1,I1,r1,q1⟩=>hc pins s1 σ H1 vs us Q I1 r1 q1) he hpl
end
end L2
namespace HT
open PySem PyProof.Rows
section
open PySem.SeqAt
open PySem.AutoSeq1 (wpAny_loadPart')
open PySem.MeetsSeq PySem.MeetsSeq2 PySem.MeetsSeq3
end
section
variable {prog:Program} {w:World} {A:Around} {E:Value -> Shared -> Prop} {s:Shared}
theorem cat_tup {t b:Addr} {vs ws:List Value} {Q:Value -> Shared -> Prop} (ht:IsTup s.heap t vs.toArray) (hb:IsTup s.heap b ws.toArray) (hv:vs ≠ [])
    (h1:ws = [] -> Q (.ref t) s) (h2:ws ≠ [] -> Q (.ref s.heap.objs.size) { s with heap:=s.heap.push { cls:=.type "tuple",data:=.seq (vs ++ ws).toArray } })
    (hsz:vs.length + ws.length <= sizeLine):wpAny (model prog w) A (binaryOp .Add (.ref t) (.ref b)) Q E s:=by
  obtain ⟨⟨cls,dd,data,sl⟩,ho,hc,n,hd⟩:=id ht
  obtain ⟨⟨cls2,dd2,data2,sl2⟩,ho2,hc2,n2,hd2⟩:=id hb
  simp only at hc hd hc2 hd2
  subst hc hd hc2 hd2
  have e:vs.toArray ++ ws.toArray = (vs ++ ws).toArray:=by simp
  by_cases hw:ws = []
  · exact concat_meets ⟨_,ho,rfl⟩ ⟨_,ho2,rfl⟩ noFill_tuple_add seq_tuple_add PySem.F.slot_tuple_add PySem.F.entry_tuple_add (PySem.F.args_tuple_add_2 _ _)
      (tuple_addW1 t b vs.toArray ws.toArray n n2 dd dd2 sl sl2 (by simpa using hv) (by simp [hw])) ⟨ho,ho2,h1 hw⟩
  · refine concat_meets ⟨_,ho,rfl⟩ ⟨_,ho2,rfl⟩ noFill_tuple_add seq_tuple_add PySem.F.slot_tuple_add PySem.F.entry_tuple_add (PySem.F.args_tuple_add_2 _ _)
      (tuple_addW2 t b vs.toArray ws.toArray n n2 dd dd2 sl sl2 (by simpa using hv) (by simpa using hw) (by rw [List.size_toArray,List.size_toArray];exact hsz)) ⟨ho,ho2,?_⟩
    rw [e]
    exact h2 hw
def sIx (n d:Nat):Option Int -> Nat
  | none=>d
  | some v=>if v < 0 then (v + (n:Int)).toNat else min v.toNat n
theorem sIx_none (n d:Nat):sIx n d none = d:=rfl
theorem sIx_nat (n d k:Nat):sIx n d (some (k:Int)) = min k n:=by
  show (if (k:Int) < 0 then ((k:Int) + (n:Int)).toNat else min (k:Int).toNat n) = min k n
  rw [if_neg (by omega),Int.toNat_natCast]
end
end HT
namespace L2
open PySem PySem.Spec PyProof.Rows
abbrev TO:=St -> Hp -> (Option Int -> Hp -> Prop) -> Prop
def PO (X:Cx) (e:Option Expr) (t:TO):Prop:=
  ∀ (pins:List (Addr × Obj)) (s:Shared) (σ:St) (H:Hp) (Q:Option Int -> Hp -> Prop),Inv X pins σ H s -> t σ H Q ->
    wpAny (model X.prog X.w) X.A (evalPart e X.env) (fun u s'=>∃ o H',Inv X pins σ H' s' /\ IsPart u o /\ Q o H') X.xe s
def WP:TO:=fun _ H Q=>Q none H
def zaX (t:TE):TO:=fun σ H Q=>t σ H fun x H1=>IsI x H1 fun i H1=>Q (some i) H1
section
variable {X:Cx} {e:Expr} {te:TE} {lo hi:Option Expr} {tl th:TO} {pos p2:Pos}
theorem qz:PO X none WP:=by
  intro pins s σ H Q I h
  rw [evalPart_none]
  exact wpAny_pure ⟨none,H,I,.none,h⟩
theorem zX (h:PE X e te):PO X (some e) (zaX te):=by
  intro pins s σ H Q I hw
  rw [evalPart_some]
  refine thn (h pins s σ H _ I hw) fun u s1 ⟨x,H1,I1,r1,q1⟩=>?_
  obtain ⟨i,rfl,q⟩:=q1
  obtain ⟨t,rfl⟩:=r1
  exact ⟨some i,H1,I1,.int i t,q⟩
def SlR (X:Cx) (r:V -> Option Int -> Option Int -> Hp -> VK -> Prop):Prop:=
  ∀ (pins:List (Addr × Obj)) (s:Shared) (σ:St) (H:Hp) (x:V) (v vl vu:Value) (lo hi:Option Int) (sl:Addr) (Q:VK),Inv X pins σ H s -> RelV x v -> s.heap.IsSliceOf sl vl vu .none -> IsPart vl lo -> IsPart vu hi -> r x lo hi H Q ->
    ∃ T id,typeLookup (.type T) "__getitem__" = pure (some (.builtin id)) /\ s.TypeIs v T /\ wpAny (model X.prog X.w) X.A (getItem v (.ref sl)) (EP X pins σ Q) X.xe s
def tSl (r:V -> Option Int -> Option Int -> Hp -> VK -> Prop) (te:TE) (tl th:TO):TE:=fun σ H Q=>te σ H fun x H1=>tl σ H1 fun l H2=>th σ H2 fun u H3=>r x l u H3 Q
theorem zW {r:V -> Option Int -> Option Int -> Hp -> VK -> Prop} (hr:SlR X r) (he:PE X e te) (hl:PO X lo tl) (hu:PO X hi th):PE X (.Subscript e (.Slice lo hi none p2) pos) (tSl r te tl th):=by
  intro pins s σ H Q I h
  refine Subscript_ (thn (he pins s σ H _ I h) fun v s1 ⟨x,H1,I1,r1,q1⟩=>?_)
  refine wpAny_Slice (thn (hl pins s1 σ H1 _ I1 q1) fun vl s2 ⟨l,H2,I2,pl,q2⟩=>thn (hu pins s2 σ H2 _ I2 q2) fun vu s3 ⟨u,H3,I3,pu,q3⟩=>?_)
  rw [evalPart_none]
  refine wpAny_pure ?_
  have I4:Inv X pins σ H3 { s3 with heap:=s3.heap.push { cls:=.type "slice",data:=.fields #[vl,vu,.none] } }:=I3.kept (t':=s3.toks) fun b ob q=>Heap.get?_push_of_some _ q
  obtain ⟨T,id,hT,ht,hg⟩:=hr pins { s3 with heap:=s3.heap.push { cls:=.type "slice",data:=.fields #[vl,vu,.none] } } σ H3 x v vl vu l u s3.heap.objs.size Q I4 r1 (Heap.IsSliceOf.new ..) pl pu q3
  show wpAny (model X.prog X.w) X.A (subscriptTail e (.Slice lo hi none p2) v (.ref s3.heap.objs.size)) (EP X pins σ Q) X.xe { s3 with heap:=s3.heap.push { cls:=.type "slice",data:=.fields #[vl,vu,.none] } }
  exact tail_any (ops:=[.ref s3.heap.objs.size,v]) ht hT hg (by with_unfolding_all rfl)
def qv (xs:List V) (lo hi:Option Int):List V:=(xs.drop (HT.sIx xs.length 0 lo)).take (HT.sIx xs.length xs.length hi - HT.sIx xs.length 0 lo)
theorem Qd (xs:List V) (lo hi:Option Int):(qv xs lo hi).length <= xs.length:=by
  unfold qv
  rw [List.length_take,List.length_drop]
  omega
inductive YX (K:PySem.W.Frag) (x:V) (y:V) (H:Hp) (Q:VK):Prop
  | mk (a b xs ys:_) (_:x = .ref a) (_:y = .ref b) (_:SqT K H a xs) (_:SqT K H b ys) (_:xs ≠ []) (_:xs.length + ys.length <= sizeLine) (_:(ys = [] -> Q (.ref a) H)) (_:(ys ≠ [] -> ∀ p,H p = none -> Q (.ref p) (upd H p (.tup (xs ++ ys))))):YX K x y H Q
theorem Vals.nil_iff {xs:List V} {us:List Value} (r:Vals xs us):us = [] ↔ xs = []:=by
  cases r with
  | nil=>simp
  | cons _ _=>simp
theorem Yd:OpR X (binaryOp .Add) (YX X.K):=by
  intro pins s σ H x y v u Q I rx ry h
  obtain ⟨a,b,xs,ys,rfl,rfl,ha,hb,hx,hz,q1,q2⟩:=h
  cases rx
  cases ry
  obtain ⟨its,r1,p1,_⟩:=I.tuple ha
  obtain ⟨its2,r2,p2,_⟩:=I.tuple hb
  refine HT.cat_tup p1 p2 (fun z=>hx (r1.nil_iff.mp z)) (fun z=>⟨.ref a,H,I,rfl,q1 (r2.nil_iff.mp z)⟩) (fun z=>?_) (by rw [<- r1.length,<- r2.length];exact hz)
  refine ⟨.ref s.heap.objs.size,_,I.laid (t':=s.toks) (o:=.tup (xs ++ ys)) (fun b ob q=>Heap.get?_push_of_some _ q) (Nat.le_refl _) ?_,rfl,q2 (fun w=>z (r2.nil_iff.mpr w)) _ (I.hok.fresh (Nat.le_refl _))⟩
  exact ⟨by rw [List.length_append];exact hz,_,r1.append r2,⟨IsTup.new _ _,_,Heap.get?_push_size _ rfl,rfl⟩⟩
end
def ixN (n:Nat) (i:Int):Option Nat:=if 0 <= i then (if i < n then some i.toNat else none) else if -(n:Int) <= i then some (i + n).toNat else none
def atI {α:Type} (xs:List α) (i:Int):Option α:=(ixN xs.length i).bind fun j=>xs[j]?
theorem JF {n:Nat} {i:Int} {j:Nat} (h:ixN n i = some j):seqIndex? i n = some j /\ j < n /\ -(n:Int) <= i /\ i < n:=by
  unfold ixN at h
  by_cases h0:0 <= i
  · rw [if_pos h0] at h
    by_cases h1:i < n
    · rw [if_pos h1] at h
      have e:i.toNat = j:=Option.some.inj h
      exact ⟨by rw [seqIndex_of h0 h1,e],by omega,by omega,h1⟩
    · rw [if_neg h1] at h;cases h
  · rw [if_neg h0] at h
    by_cases h1:-(n:Int) <= i
    · rw [if_pos h1] at h
      have e:(i + n).toNat = j:=Option.some.inj h
      exact ⟨by rw [seqIndex_neg (by omega) h1,e],by omega,h1,by omega⟩
    · rw [if_neg h1] at h;cases h
theorem Zk {α:Type} {xs:List α} {i:Int} {v:α} (h:atI xs i = some v):∃ j,seqIndex? i xs.length = some j /\ xs[j]? = some v /\ j < xs.length /\ -(xs.length:Int) <= i /\ i < xs.length:=by
  unfold atI at h
  cases e:ixN xs.length i with
  | none=>rw [e] at h;cases h
  | some j=>
    rw [e] at h
    obtain ⟨h1,h2,h3,h4⟩:=JF e
    exact ⟨j,h1,h,h2,h3,h4⟩
theorem jp {α:Type} {xs:List α} {j:Nat} {v:α} (h:xs[j]? = some v):atI xs (j:Int) = some v:=by
  have hj:j < xs.length:=(List.getElem?_eq_some_iff.mp h).1
  have e:ixN xs.length (j:Int) = some j:=by
    unfold ixN
    rw [if_pos (by omega),if_pos (by omega)];simp
  unfold atI;rw [e];exact h
def YI (b:Expr):Prop:=∀ o i,subscripted b false o i = operate [o,i] (getItem o i)
def IxR (X:Cx) (r:R2):Prop:=
  ∀ (value slice:Expr) (pins:List (Addr × Obj)) (s:Shared) (σ:St) (H:Hp) (x y:V) (v u:Value) (Q:VK),Inv X pins σ H s -> RelV x v -> RelV y u -> r x y H Q ->
    subscripted slice false v u = operate [v,u] (getItem v u) -> wpAny (model X.prog X.w) X.A (subscriptTail value slice v u) (EP X pins σ Q) X.xe s
def MtR (X:Cx) (id:String) (r:V -> List V -> Hp -> VK -> Prop):Prop:=
  ∀ (pins:List (Addr × Obj)) (s:Shared) (σ:St) (H:Hp) (x:V) (xs:List V) (v:Value) (us:List Value) (Q:VK),Inv X pins σ H s -> RelV x v -> Vals xs us -> r x xs H Q ->
    wpAny (model X.prog X.w) X.A (call (.builtin id) (v :: us)) (EP X pins σ Q) X.xe s
section
variable {X:Cx} {a b:Expr} {ta tb:TE} {pos:Pos}
theorem qf {r:R2} (hr:IxR X r) (ha:PE X a ta) (hb:PE X b tb) (hs:YI b):PE X (.Subscript a b pos) (tOp r ta tb):=by
  intro pins s σ H Q I h
  exact Subscript_ (zaT ha hb I h fun v u s2 x y H2 I2 rx ry q=>hr a b pins s2 σ H2 x y v u Q I2 rx ry q (hs _ _))
inductive zak (K:PySem.W.Frag) (x:V) (y:V) (H:Hp) (Q:VK):Prop
  | mk (p xs i v:_) (_:x = .ref p) (_:y = .int i) (_:SqL K H p xs) (_:atI xs i = some v) (_:Q v H):zak K x y H Q
inductive zaj (K:PySem.W.Frag) (x:V) (y:V) (H:Hp) (Q:VK):Prop
  | mk (p xs i v:_) (_:x = .ref p) (_:y = .int i) (_:SqT K H p xs) (_:atI xs i = some v) (_:Q v H):zaj K x y H Q
inductive zba (x:V) (y:V) (H:Hp) (Q:VK):Prop
  | mk (z i c:_) (_:x = .str z) (_:y = .int i) (_:z.length <= sizeLine) (_:atI z.cps.toList i = some c) (_:Q (.str ⟨#[c]⟩) H):zba  x y H Q
theorem zP:IxR X (zak X.K):=by
  intro value slice pins s σ H x y v u Q I rx ry h hs
  obtain ⟨p,xs,i,z,rfl,rfl,hq,he,q⟩:=h
  cases rx
  obtain ⟨t,rfl⟩:=ry
  obtain ⟨its,r,pl,hz⟩:=I.list hq
  obtain ⟨j,h1,h2,h3,h4,h5⟩:=Zk he
  obtain ⟨w,ew,rw'⟩:=r.get h2
  have hl:=r.length
  have hn:=vX
  have fin:EP X pins σ Q w s:=⟨z,H,I,rw',q⟩
  by_cases h0:0 <= i
  · have hj:i.toNat = j:=by
      rw [seqIndex_of h0 h5] at h1
      exact Option.some.inj h1
    exact item_listR pl.isList h0 (by omega) (by rw [hj];simpa using ew) fin hs
  · have hj:(i + (its.toArray.size:Int)).toNat = j:=by
      rw [seqIndex_neg (by omega) h4] at h1
      rw [List.size_toArray,<- hl]
      exact Option.some.inj h1
    exact subscriptTail_builtinR (x:=w) pl.isList.typeIs slot_list_getitem.lookup
      (wpAny_getItem_list_neg (Q:=fun r s'=>r = w /\ EP X pins σ Q r s') pl.isList (by omega) (by rw [List.size_toArray] <;> omega) (by omega) (by rw [hj];simpa using ew) ⟨rfl,fin⟩) hs
theorem zaL:IxR X (zaj X.K):=by
  intro value slice pins s σ H x y v u Q I rx ry h hs
  obtain ⟨p,xs,i,z,rfl,rfl,hq,he,q⟩:=h
  cases rx
  obtain ⟨t,rfl⟩:=ry
  obtain ⟨its,r,pl,hz⟩:=I.tuple hq
  obtain ⟨j,h1,h2,h3,h4,h5⟩:=Zk he
  obtain ⟨w,ew,rw'⟩:=r.get h2
  have hl:=r.length
  have hn:=vX
  have fin:EP X pins σ Q w s:=⟨z,H,I,rw',q⟩
  exact subscriptTail_builtinR (x:=w) pl.typeIs slot_tuple_getitem.lookup
    (getItem_tuple (j:=j) (Q:=fun r s'=>r = w /\ EP X pins σ Q r s') pl (by omega) (by omega) (by rw [List.size_toArray,<- hl];exact h1) (by simpa using ew) ⟨rfl,fin⟩) hs
theorem zaM:IxR X zba:=by
  intro value slice pins s σ H x y v u Q I rx ry h hs
  obtain ⟨z,i,c,rfl,rfl,hz,he,q⟩:=h
  obtain ⟨t,rfl⟩:=rx
  obtain ⟨t',rfl⟩:=ry
  obtain ⟨j,h1,h2,h3,h4,h5⟩:=Zk he
  have hl:z.cps.toList.length = z.length:=by simp [Str.length]
  rw [hl] at h1 h4 h5
  have hn:=vX
  exact tail_any (typeIs_str s z t) slot_str_getitem.lookup (getItem_str (c:=c) (by
    have e1:decide (i < -(2 ^ 63:Int)) = false:=decide_eq_false (by omega)
    have e2:decide (i ≥ 2 ^ 63) = false:=decide_eq_false (by omega)
    rw [e1,e2,Bool.or_false]) (by rw [h1];simpa using h2) ⟨.str ⟨#[c]⟩,H,I.tok _,⟨_,rfl⟩,q⟩) hs
theorem QO (its:List Value) (n j:Nat) (u:Value):Obj.mapSeq (·.setIfInBounds j u) { cls:=.type "list",data:=.seq its.toArray n } = { cls:=.type "list",data:=.seq (its.set j u).toArray n }:=by
  simp [Obj.mapSeq]
theorem Inv.lst {pins:List (Addr × Obj)} {σ:St} {H:Hp} {s:Shared} {p:Addr} {xs:List V} (I:Inv X pins σ H s) (h:H p = some (.lst xs)) :
    ∃ (its:List Value) (n:Nat),Vals xs its /\ s.heap.get? p = some { cls:=.type "list",data:=.seq its.toArray n } /\ xs.length <= sizeLine:=by
  obtain ⟨z,its,n,r,e⟩:=I.hok p _ h
  exact ⟨its,n,r,e,z⟩
theorem Inv.lstUpd {pins:List (Addr × Obj)} {σ:St} {H:Hp} {s:Shared} {p:Addr} {xs ys:List V} {its its':List Value} {n n':Nat} {f:Obj -> Obj} (I:Inv X pins σ H s) (h:H p = some (.lst xs))
    (ho:s.heap.get? p = some { cls:=.type "list",data:=.seq its.toArray n }) (hf:f { cls:=.type "list",data:=.seq its.toArray n } = { cls:=.type "list",data:=.seq its'.toArray n' }) (r:Vals ys its') (hz:ys.length <= sizeLine) (t:Nat) :
    Inv X pins σ (upd H p (.lst ys)) { s with heap:=s.heap.update p f,toks:=t }:=by
  have e:(s.heap.update p f).get? p = some { cls:=.type "list",data:=.seq its'.toArray n' }:=by
    rw [Heap.get?_update_self f ho (by rw [hf] <;> rfl),hf]
  refine I.write (x:=p) (e:=p) (by rw [h];trivial) (.inl rfl) (fun b u hb q=>(Heap.get?_update_other _ _ (Ne.symm hb)).trans q) ⟨_,e⟩ ?_
  exact ⟨hz,its',n',r,e⟩
inductive YV (o:V) (i:V) (v:V) (H:Hp) (Q:Hp -> Prop):Prop
  | mk (p xs k j:_) (_:o = .ref p) (_:i = .int k) (_:H p = some (.lst xs)) (_:ixN xs.length k = some j) (_:Q (upd H p (.lst (xs.set j v)))):YV  o i v H Q
theorem jN:zbr X YV:=by
  intro pins s σ H o i v ov iv u Q I ro ri rv h
  obtain ⟨p,xs,k,j,rfl,rfl,hp,hj,q⟩:=h
  cases ro
  obtain ⟨t,rfl⟩:=ri
  obtain ⟨its,n,r,ho,hz⟩:=I.lst hp
  obtain ⟨h1,h2,h3,h4⟩:=JF hj
  have hl:=r.length
  have hn:=vX
  have I':Inv X pins σ (upd H p (.lst (xs.set j v))) { s with heap:=s.heap.update p (Obj.mapSeq (·.setIfInBounds j u)) }:=
    I.lstUpd hp ho (QO its n j u) (r.set rv j) (by rw [List.length_set];exact hz) s.toks
  by_cases h0:0 <= k
  · have hk:k.toNat = j:=by
      rw [seqIndex_of h0 h4] at h1
      exact Option.some.inj h1
    exact PySem.W.ki_setAt ho h0 (by omega) (by rw [List.size_toArray,<- hl];exact h4) (by rw [hk];exact ⟨_,I',q⟩)
  · have hk:(k + (its.toArray.size:Int)).toNat = j:=by
      rw [seqIndex_neg (by omega) h3] at h1
      rw [List.size_toArray,<- hl]
      exact Option.some.inj h1
    exact PySem.W.ki_setBack ho (by omega) (by rw [List.size_toArray,<- hl];exact h3) (by omega) (by rw [hk];exact ⟨_,I',q⟩)
theorem yJ (lo hi:Option Int) (n:Nat):(sliceBounds lo hi none n).1 = ((HT.sIx n 0 lo:Nat):Int) /\ (sliceBounds lo hi none n).2.1 = ((HT.sIx n n hi:Nat):Int) /\ (sliceBounds lo hi none n).2.2 = 1:=by
  refine ⟨?_,?_,rfl⟩
  · cases lo with
    | none=>simp [sliceBounds,HT.sIx]
    | some i=>
      simp only [sliceBounds,HT.sIx,Option.getD_none,show (1:Int) > 0 by decide,if_true]
      by_cases h:i < 0
      · simp only [h,if_true] <;> omega
      · simp only [h,if_false] <;> omega
  · cases hi with
    | none=>simp [sliceBounds,HT.sIx]
    | some i=>
      simp only [sliceBounds,HT.sIx,Option.getD_none,show (1:Int) > 0 by decide,if_true]
      by_cases h:i < 0
      · simp only [h,if_true] <;> omega
      · simp only [h,if_false] <;> omega
theorem wC (its:List Value) (lo hi:Option Int):slicePick its.toArray lo hi none = ((its.drop (HT.sIx its.length 0 lo)).take (HT.sIx its.length its.length hi - HT.sIx its.length 0 lo)).toArray:=by
  obtain ⟨h1,h2,h3⟩:=yJ lo hi its.toArray.size
  unfold slicePick
  rw [h1,h2,h3]
  simp only [sliceRange_one,pick_run,List.size_toArray] <;> rfl
inductive zai (K:PySem.W.Frag) (x:V) (lo:Option Int) (hi:Option Int) (H:Hp) (Q:VK):Prop
  | mk (a xs:_) (_:x = .ref a) (_:SqL K H a xs) (_:∀ p,H p = none -> Q (.ref p) (upd H p (.lst (qv xs lo hi)))):zai K x lo hi H Q
theorem qh:SlR X (zai X.K):=by
  intro pins s σ H x v vl vu lo hi sl Q I rx hs pl pu h
  obtain ⟨a,xs,rfl,hx,q⟩:=h
  cases rx
  obtain ⟨its,r,ht,hz⟩:=I.list hx
  have hlen:=r.length
  refine ⟨"list",_,slot_list_getitem.lookup,ht.isList.typeIs,?_⟩
  refine wpAny_getItem_list_slice ht.isList hs pl pu .none (by simp) ?_ (by rw [List.size_toArray] <;> omega)
  rw [wC,<- hlen]
  refine ⟨.ref s.heap.objs.size,_,I.laid (t':=s.toks) (o:=.lst (qv xs lo hi)) (fun b ob q=>Heap.get?_push_of_some _ q) (Nat.le_refl _) ?_,rfl,q _ (I.hok.fresh (Nat.le_refl _))⟩
  exact ⟨Nat.le_trans (Qd xs lo hi) hz,_,0,(r.drop (HT.sIx xs.length 0 lo)).take (HT.sIx xs.length xs.length hi - HT.sIx xs.length 0 lo),Heap.get?_push_size _ rfl⟩
def jH:V -> Bool
  | .non=>true
  | .bl _=>true
  | .int _=>true
  | .str _=>true
  | _=>false
def eqV:V -> V -> Bool
  | .non,.non=>true
  | .bl a,.bl b=>a == b
  | .bl a,.int b=>(if a then 1 else 0) == b
  | .int a,.bl b=>a == (if b then 1 else 0)
  | .int a,.int b=>a == b
  | .str a,.str b=>a == b
  | _,_=>false
theorem Wp {A:Around} {s:Shared} {y x:V} {u v:Value} (ry:RelV y u) (rx:RelV x v) (fy:jH y = true) (fx:jH x = true):SeqAt.EqAt A s u v (eqV y x):=by
  cases y with
  | non=>
    cases ry
    cases x with
    | non=>cases rx;exact SeqAt.EqAt.same _
    | bl b=>cases rx;exact SeqAt.EqAt.none_bool b
    | int b=>obtain ⟨t,rfl⟩:=rx;exact SeqAt.EqAt.none_int b t
    | str b=>obtain ⟨t,rfl⟩:=rx;exact SeqAt.EqAt.none_str b t
    | _=>exact absurd (show false = true from fx) Bool.false_ne_true
  | bl a=>
    cases ry
    cases x with
    | non=>cases rx;exact SeqAt.EqAt.bool_none a
    | bl b=>cases rx;exact SeqAt.EqAt.bool_bool a b
    | int b=>obtain ⟨t,rfl⟩:=rx;exact SeqAt.EqAt.bool_int a b t
    | str b=>obtain ⟨t,rfl⟩:=rx;exact SeqAt.EqAt.bool_str a b t
    | _=>exact absurd (show false = true from fx) Bool.false_ne_true
  | int a=>
    obtain ⟨t',rfl⟩:=ry
    cases x with
    | non=>cases rx;exact SeqAt.EqAt.int_none a t'
    | bl b=>cases rx;exact SeqAt.EqAt.int_bool a t' b
    | int b=>obtain ⟨t,rfl⟩:=rx;exact SeqAt.EqAt.int_int a t' b t
    | str b=>obtain ⟨t,rfl⟩:=rx;exact SeqAt.EqAt.int_str a t' b t
    | _=>exact absurd (show false = true from fx) Bool.false_ne_true
  | str a=>
    obtain ⟨t',rfl⟩:=ry
    cases x with
    | non=>cases rx;exact SeqAt.EqAt.str_none a t'
    | bl b=>cases rx;exact SeqAt.EqAt.str_bool a t' b
    | int b=>obtain ⟨t,rfl⟩:=rx;exact SeqAt.EqAt.str_int a t' b t
    | str b=>obtain ⟨t,rfl⟩:=rx;exact SeqAt.EqAt.str_str a t' b t
    | _=>exact absurd (show false = true from fx) Bool.false_ne_true
  | _=>exact absurd (show false = true from fy) Bool.false_ne_true
def eqU (x:V) (u:Value):Bool:=match u with
  | .none=>eqV .non x
  | .bool b=>eqV (.bl b) x
  | .int i _=>eqV (.int i) x
  | .str z _=>eqV (.str z) x
  | _=>false
theorem Wo {x y:V} {u:Value} (r:RelV y u) (f:jH y = true):eqU x u = eqV y x:=by
  cases y with
  | non=>cases r;rfl
  | bl b=>cases r;rfl
  | int i=>obtain ⟨t,rfl⟩:=r;rfl
  | str z=>obtain ⟨t,rfl⟩:=r;rfl
  | _=>exact absurd (show false = true from f) Bool.false_ne_true
theorem Zm {x:V}:∀ {xs:List V} {us:List Value},Vals xs us -> xs.all jH = true -> us.any (eqU x) = xs.any fun y=>eqV y x
  | _,_,.nil,_=>rfl
  | y :: xs,u :: us,.cons r t,f=>by
    rw [List.all_cons,Bool.and_eq_true] at f
    rw [List.any_cons,List.any_cons,Wo r f.1,Zm t f.2]
theorem vW {A:Around} {s:Shared} {x:V} {v:Value} (rx:RelV x v) (fx:jH x = true):∀ {xs:List V} {us:List Value},Vals xs us -> xs.all jH = true -> ∀ u ∈ us,SeqAt.EqAt A s u v (eqU x u)
  | _,_,.nil,_=>fun u hu=>by cases hu
  | y :: xs,u :: us,.cons r t,f=>fun u' hu=>by
    rw [List.all_cons,Bool.and_eq_true] at f
    rcases List.mem_cons.mp hu with rfl | hu
    · rw [Wo r f.1];exact Wp r rx f.1 fx
    · exact vW rx fx t f.2 u' hu
def inV (x:V) (xs:List V):Bool:=xs.any fun y=>eqV y x
inductive rIn (K:PySem.W.Frag) (neg:Bool) (x:V) (y:V) (H:Hp) (Q:VK):Prop
  | mk (p xs:_) (_:y = .ref p) (_:(SqL K H p xs \/ SqT K H p xs)) (_:jH x = true) (_:xs.all jH = true) (_:Q (.bl (if neg then !inV x xs else inV x xs)) H):rIn K neg x y H Q
theorem XO:OpR X (compareOp .In) (rIn X.K false):=by
  intro pins s σ H x y v u Q I rx ry h
  obtain ⟨p,xs,rfl,hq,fx,fs,q⟩:=h
  cases ry
  rcases hq with hq | hq
  · obtain ⟨its,r,pl,hz⟩:=I.list hq
    refine SeqAt.in_listAt (eqU x) pl.isList (fun w hw=>vW rx fx r fs w (by simpa using hw)) ⟨.bl _,H,I,rfl,?_⟩
    rw [show its.toArray.any (eqU x) = its.any (eqU x) by simp,Zm r fs]
    exact q
  · obtain ⟨its,r,pl,hz⟩:=I.tuple hq
    refine SeqAt.in_tupleAt (eqU x) pl (fun w hw=>vW rx fx r fs w (by simpa using hw)) ⟨.bl _,H,I,rfl,?_⟩
    rw [show its.toArray.any (eqU x) = its.any (eqU x) by simp,Zm r fs]
    exact q
inductive jc (K:PySem.W.Frag) (xs:List V) (H:Hp) (Q:VK):Prop
  | mk (p ys:_) (_:xs = [.ref p]) (_:(SqL K H p ys \/ SqT K H p ys)) (_:Q (.int ys.length) H):jc K xs H Q
theorem zy:qD X (.builtin "len") (jc X.K):=by
  intro pins s σ H xs us Q I r h
  obtain ⟨p,ys,rfl,hq,q⟩:=h
  obtain ⟨u,rfl,rx⟩:=jK r
  cases rx
  have hn:=vX
  rcases hq with hq | hq
  · obtain ⟨its,r',pl,hz⟩:=I.list hq
    have hlen:=r'.length
    exact Calls.call_len_list pl.isList (by simp only [List.size_toArray] <;> omega) ⟨.int ys.length,H,I.tok _,⟨s.toks + 1,by rw [List.size_toArray,hlen]⟩,q⟩
  · obtain ⟨its,r',pl,hz⟩:=I.tuple hq
    have hlen:=r'.length
    exact len_tuple pl (by simp only [List.size_toArray] <;> omega) ⟨.int ys.length,H,I.tok _,⟨s.toks + 1,by rw [List.size_toArray,hlen]⟩,q⟩
inductive jX (K:PySem.W.Frag) (xs:List V) (H:Hp) (Q:VK):Prop
  | mk (p ys:_) (_:xs = [.ref p]) (_:(SqL K H p ys \/ SqT K H p ys)) (_:∀ l,H l = none -> Q (.ref l) (upd H l (.lst ys))):jX K xs H Q
theorem jF:qD X (.type "list") (jX X.K):=by
  intro pins s σ H xs us Q I r h
  obtain ⟨p,ys,rfl,hq,q⟩:=h
  obtain ⟨u,rfl,rx⟩:=jK r
  cases rx
  have fin:∀ (its:List Value),Vals ys its -> ys.length <= sizeLine -> ∀ (h':Heap) (c':Nat),(∀ b o',s.heap.get? b = some o' -> h'.get? b = some o') ->
      h'.get? s.heap.objs.size = some { cls:=.type "list",dict:=none,data:=.seq its.toArray c',slots:=#[] } -> EP X pins σ Q (.ref s.heap.objs.size) { s with heap:=h' }:=fun its r' hz h' c' kp e=>
    ⟨.ref s.heap.objs.size,_,I.laid (t':=s.toks) kp (Nat.le_refl _) (show ObjOk X.prog X.w _ h' _ (.lst ys) from ⟨hz,its,c',r',e⟩),rfl,q _ (I.hok.fresh (Nat.le_refl _))⟩
  rcases hq with hq | hq
  · obtain ⟨its,r',pl,hz⟩:=I.list hq
    have hlen:=r'.length
    obtain ⟨o,ho,hc,n,hd⟩:=pl.isList
    exact call_list_seq p (.inl rfl) ho hc hd (fun h' c' kp e=>fin its r' hz h' c' kp e) (by simp only [List.size_toArray] <;> omega)
  · obtain ⟨its,r',pl,hz⟩:=I.tuple hq
    have hlen:=r'.length
    obtain ⟨o,ho,hc,n,hd⟩:=pl
    exact call_list_seq p (.inr rfl) ho hc hd (fun h' c' kp e=>fin its r' hz h' c' kp e) (by simp only [List.size_toArray] <;> omega)
inductive jI (K:PySem.W.Frag) (xs:List V) (H:Hp) (Q:VK):Prop
  | mk (p ys:_) (_:xs = [.ref p]) (_:((SqL K H p ys /\ ∀ l,H l = none -> Q (.ref l) (upd H l (.tup ys))) \/ (SqT K H p ys /\ Q (.ref p) H))):jI K xs H Q
theorem wG:qD X (.type "tuple") (jI X.K):=by
  intro pins s σ H xs us Q I r h
  obtain ⟨p,ys,rfl,h⟩:=h
  obtain ⟨u,rfl,rx⟩:=jK r
  cases rx
  rcases h with ⟨hq,q⟩ | ⟨hq,q⟩
  · obtain ⟨its,r',pl,hz⟩:=I.list hq
    have hlen:=r'.length
    refine call_tuple_list pl.isList (fun h' kp=>?_) (by simp only [List.size_toArray] <;> omega)
    have I1:Inv X pins σ H { s with heap:=h' }:=I.kept (t':=s.toks) kp
    have I2:Inv X pins σ (upd H h'.objs.size (.tup ys)) { s with heap:=h'.push { cls:=.type "tuple",data:=.seq its.toArray } }:=
      I1.laid (t':=s.toks) (fun b o e=>Heap.get?_push_of_some _ e) (Nat.le_refl _) (show ObjOk X.prog X.w _ _ _ (.tup ys) from ⟨hz,its,r',⟨IsTup.new _ _,_,Heap.get?_push_size _ rfl,rfl⟩⟩)
    exact ⟨.ref h'.objs.size,_,I2,rfl,q _ (I1.hok.fresh (Nat.le_refl _))⟩
  · obtain ⟨its,r',pl,hz⟩:=I.tuple hq
    exact call_tuple_same pl ⟨.ref p,H,I,rfl,q⟩
def tyV (K:PySem.W.Frag) (T:String) (x:V) (H:Hp):Prop:=match x with
  | .str _=>T = "str"
  | .int _=>T = "int"
  | .ref p=>(T = "list" /\ ∃ xs,SqL K H p xs) \/ (T = "tuple" /\ ∃ o,K.lookup p = some o /\ o.cls = .type "tuple" /\ o.dict = none) \/
      (T = "dict" /\ ((∃ kvs,H p = some (.dK kvs)) \/ ∃ kvs,H p = some (.dT kvs))) \/ (T = "set" /\ ∃ S n,H p = some (.set S n))
  | _=>False
theorem zab {pins:List (Addr × Obj)} {σ:St} {H:Hp} {s:Shared} {T:String} {x:V} {v:Value} (I:Inv X pins σ H s) (r:RelV x v) (ty:tyV X.K T x H) :
    s.TypeIs v T /\ ∀ a,v = .ref a -> ∃ ob,s.heap.get? a = some ob /\ ob.dict = none:=by
  cases x with
  | str z=>
    obtain ⟨t,rfl⟩:=r
    cases (show T = "str" from ty)
    exact ⟨typeIs_str s z t,fun _ e=>nomatch e⟩
  | int i=>
    obtain ⟨t,rfl⟩:=r
    cases (show T = "int" from ty)
    exact ⟨typeIs_int s i t,fun _ e=>nomatch e⟩
  | ref p=>
    cases r
    rcases ty with ⟨rfl,xs,hq⟩ | ⟨rfl,o,hk,hc,hd⟩ | ⟨rfl,hk⟩ | ⟨rfl,S,n,hk⟩
    · obtain ⟨its,_,pl,_⟩:=I.list hq
      refine ⟨pl.isList.typeIs,fun a e=>?_⟩
      cases e
      obtain ⟨o,n,e,c,hd,_⟩:=pl
      exact ⟨o,e,hd⟩
    · refine ⟨⟨o,I.kIn p o hk,hc⟩,fun a e=>?_⟩
      cases e
      exact ⟨o,I.kIn _ o hk,hd⟩
    · have z:∃ o,s.heap.get? p = some o /\ o.ExactDict:=by
        rcases hk with ⟨kvs,hk⟩ | ⟨kvs,hk⟩
        · obtain ⟨_,_,_,_,o,_,_,e,ex,_⟩:=I.hok p _ hk
          exact ⟨o,e,ex⟩
        · obtain ⟨_,_,_,_,o,_,_,e,ex,_⟩:=I.hok p _ hk
          exact ⟨o,e,ex⟩
      obtain ⟨o,e,ex⟩:=z
      refine ⟨⟨o,e,ex.1⟩,fun a e2=>?_⟩
      cases e2
      exact ⟨o,e,ex.2.1⟩
    · obtain ⟨o,_,_,_,e,ex,_⟩:=I.hok p _ hk
      refine ⟨⟨o,e,ex.1⟩,fun a e2=>?_⟩
      cases e2
      exact ⟨o,e,ex.2.1⟩
  | _=>exact False.elim ty
def tBM (K:PySem.W.Frag) (T:String) (r:V -> List V -> Hp -> VK -> Prop) (to:TE) (t:TA):TE:=fun σ H Q=>to σ H fun x H1=>tyV K T x H1 /\ t σ H1 fun xs H2=>r x xs H2 Q
variable {o e:Expr} {es:List Expr} {to:TE} {t:TA} {name:Str} {apos cpos:Pos} {T id:String} {r:V -> List V -> Hp -> VK -> Prop}
theorem jv (pa:PlainAttrs T) (slot:Slot T name id) (hty:typeOf (.builtin id) = pure (.type "method_descriptor")) (hm:MtR X id r) (ho:PE X o to) (ha:PA X (e :: es) t)
    (hbase:attributeBase o name X.env (eval o X.env) = eval o X.env:=by rfl)
    (hfew:((backTo cpos (starEach (e :: es) X.env)).all (fun x=>!x.1) && (backToKw cpos (keywordEach [] X.env)).all (fun x=>x.1.isSome)
      && decide ((e :: es).length + ([]:List Keyword).length + (if ([]:List Keyword).isEmpty then 0 else 1) < 30)) = true:=by rfl)
    (hline:(apos.endLine == cpos.line) = true:=by rfl) (hs:starEach (e :: es) X.env = (false,eval e X.env) :: starEach es X.env:=by rfl) (hplain:(backTo cpos (starEach es X.env)).any (·.1) = false:=by rfl) :
    PE X (.Call (.Attribute o name apos) (e :: es) [] cpos) (tBM X.K T r to t):=by
  intro pins s σ H Q I h
  refine wpAny_Call_method_late hbase hfew hline rfl (thn (ho pins s σ H _ I h) fun v s1 ⟨x,H1,I1,r1,ty,q1⟩=>?_)
  obtain ⟨h1,h2⟩:=zab I1 r1 ty
  refine ⟨T,id,pa,slot,hty,h1,h2,?_⟩
  have hA:=ha cpos pins s1 σ H1 _ I1 q1
  rw [hs] at hA ⊢
  refine Calls.callWith_builtin (by show (false || (backTo cpos (starEach es X.env)).any (·.1)) = false;rw [hplain] <;> rfl) (Calls.evalArgs_plain ?_)
  exact thn hA fun us s2 ⟨vs,H2,I2,r2,q2⟩=>hm pins s2 σ H2 x vs v us Q I2 r1 r2 q2
end
def MtM (X:Cx) (id:String) (r:V -> List V -> Hp -> VK -> Prop):Prop:=
  ∀ (pins:List (Addr × Obj)) (s:Shared) (σ:St) (H:Hp) (x:V) (xs:List V) (v:Value) (us:List Value) (Q:VK),Inv X pins σ H s -> RelV x v -> Vals xs us -> r x xs H Q ->
    wpAny (model X.prog X.w) X.A (call (.builtin id) (v :: us)) (EP X pins σ Q) X.xe s
theorem Vals.one:∀ {x:V} {us:List Value},Vals [x] us -> ∃ u,us = [u] /\ RelV x u
  | _,_,.cons r .nil=>⟨_,rfl,r⟩
theorem Vals.two:∀ {x y:V} {us:List Value},Vals [x,y] us -> ∃ u v,us = [u,v] /\ RelV x u /\ RelV y v
  | _,_,_,.cons r (.cons q .nil)=>⟨_,_,rfl,r,q⟩
theorem Vals.reverse {xs:List V} {us:List Value} (h:Vals xs us):Vals xs.reverse us.reverse:=by
  induction h with
  | nil=>exact .nil
  | cons r t ih=>rw [List.reverse_cons,List.reverse_cons];exact Vals.append ih (.cons r .nil)
section
variable {X:Cx} {pins:List (Addr × Obj)} {σ:St} {H:Hp} {s:Shared} {l b:Addr} {xs ys zs:List V}
theorem Inv.lset {its its':List Value} {n:Nat} {f:Array Value -> Array Value} {t':Nat} (I:Inv X pins σ H s) (hH:H l = some (.lst xs))
    (e:s.heap.get? l = some { cls:=.type "list",data:=.seq its.toArray n }) (hf:f its.toArray = its'.toArray) (hv:Vals ys its') (hz:ys.length <= sizeLine) :
    Inv X pins σ (upd H l (.lst ys)) { s with heap:=s.heap.update l (Obj.mapSeq f),toks:=t' }:=by
  have q:=PySem.IsL.update e f
  rw [hf] at q
  refine I.write (x:=l) (e:=l) (by rw [hH];exact trivial) (.inl rfl) (fun b' u hb hu=>(Heap.get?_update_other s.heap (Obj.mapSeq f) (Ne.symm hb)).trans hu) ⟨_,q⟩ ?_
  exact ⟨hz,its',_,hv,q⟩
theorem Inv.lnew {its:List Value} {t':Nat} (I:Inv X pins σ H s) (hv:Vals ys its) (hz:ys.length <= sizeLine) :
    Inv X pins σ (upd H s.heap.objs.size (.lst ys)) { s with heap:=s.heap.push { cls:=.type "list",data:=.seq its.toArray },toks:=t' }:=
  I.laid (fun _ _ q=>Heap.get?_push_of_some _ q) (Nat.le_refl _) ⟨hz,its,0,hv,Heap.get?_push_size _ rfl⟩
theorem Inv.fresh (I:Inv X pins σ H s):H s.heap.objs.size = none:=I.hok.fresh (Nat.le_refl _)
theorem Inv.lstM (I:Inv X pins σ H s) (hH:H l = some (.lst xs)):xs.length <= sizeLine /\ ∃ (its:List Value) (n:Nat),Vals xs its /\ xs.length = its.length /\ s.heap.get? l = some { cls:=.type "list",data:=.seq its.toArray n }:=by
  obtain ⟨z,its,n,r,e⟩:=I.hok l _ hH
  exact ⟨z,its,n,r,r.length,e⟩
end
section
variable {X:Cx}
inductive Jr (x:V) (vs:List V) (H:Hp) (Q:VK):Prop
  | mk (l xs y:_) (_:x = .ref l) (_:vs = [y]) (_:H l = some (.lst xs)) (_:xs.length < sizeLine) (_:Q .non (upd H l (.lst (xs ++ [y])))):Jr  x vs H Q
theorem qI:MtM X "list.append" Jr:=by
  intro pins s σ H x vs v us Q I rx rv h
  obtain ⟨l,xs,y,rfl,rfl,hH,hz,q⟩:=h
  cases rx
  obtain ⟨u,rfl,ru⟩:=rv.one
  obtain ⟨z,its,n,r,hl,e⟩:=I.lstM hH
  refine call_meets F.slot_list_append ⟨_,e,rfl⟩ F.entry_list_append (F.args_list_append_2 _ _) (PySem.list_append l its.toArray n u (by rw [List.size_toArray];omega)) ⟨e,?_⟩
  refine ⟨.non,_,I.lset (its':=its ++ [u]) hH e (by simp) (r.append (.cons ru .nil)) ?_,rfl,q⟩
  rw [List.length_append,List.length_singleton]
  omega
inductive zbb (x:V) (y:V) (H:Hp) (Q:VK):Prop
  | mk (l b xs zs:_) (_:x = .ref l) (_:y = .ref b) (_:H l = some (.lst xs)) (_:H b = some (.lst zs)) (_:xs.length + zs.length <= sizeLine) (_:∀ p,H p = none -> Q (.ref p) (upd H p (.lst (xs ++ zs)))):zbb  x y H Q
theorem qY:OpR X (binaryOp .Add) zbb:=by
  intro pins s σ H x y v u Q I rx ry h
  obtain ⟨l,b,xs,zs,rfl,rfl,hH,hB,hz,q⟩:=h
  cases rx
  cases ry
  obtain ⟨z,its,n,r,hl,e⟩:=I.lstM hH
  obtain ⟨z2,its2,n2,r2,hl2,e2⟩:=I.lstM hB
  refine PySem.P.add_list e e2 ?_ (by rw [List.size_toArray,List.size_toArray];omega)
  have ea:its.toArray ++ its2.toArray = (its ++ its2).toArray:=by simp
  rw [ea]
  exact ⟨.ref _,_,I.lnew (t':=s.toks) (r.append r2) (by rw [List.length_append];omega),rfl,q _ I.fresh⟩
end
section
variable {prog:Program} {w:World} {A:Around} {E:Value -> Shared -> Prop} {s:Shared}
end
section
variable {X:Cx}
end
end L2
namespace Att
open PySem PySem.W PySem.Calls PyProof.Rows
theorem vD {P:Params} {h:Heap}:∀ (ns:List Int) (vs:List Value),WellAll P h vs (ns.map WData.int) -> IntsAre vs ns:=by
  intro ns
  induction ns with
  | nil=>
    intro vs w
    rw [List.map_nil] at w
    cases w
    exact .nil
  | cons n ns ih=>
    intro vs w
    rw [List.map_cons] at w
    cases w with
    | cons a b=>
      cases a
      exact .cons _ _ (ih _ b)
theorem XE {l:OpenLaw} {n:Nat} (hn:l.most = some n) {P:Params} {h:Heap} {args:List WData} {vals:List Value}
    (hpre:l.row.toRowW.claim.pre args = true) (hwl:WellAll P h vals args) :
    ∃ a vs ns,vals = [Value.ref a] /\ args = [WData.list (ns.map WData.int)] /\ h.get? a = some { cls:=.type "list",data:=.seq vs.toArray } /\ IntsAre vs ns /\ ns.length <= n:=by
  have hsh:WShape.hasAll [] args [.list .int] = true:=(pre_splitW hpre).1
  have hc:l.pre.holds [] { args:=args } = true:=(pre_splitW hpre).2
  obtain ⟨d,r,rfl,h1,h2⟩:=hasAllW_cons hsh
  obtain rfl:=hasAllW_nil h2
  obtain ⟨xs,rfl,h3⟩:=hasW_list h1
  obtain ⟨ns,rfl⟩:=items_int h3
  have hlen:ns.length <= n:=by
    unfold OpenLaw.pre at hc
    have h4:(WTm.not (.lt (.lit (.int (n:Int))) (.len (.arg 0)))).holds [] { args:=[.list (ns.map .int)] } = true:=by
      have h4:=(holds_andW hc).1
      rw [hn] at h4
      exact h4
    have h5:=condW_of h4 (w_not (w_lt w_lit (w_len_list (w_arg rfl))))
    rw [List.length_map] at h5
    refine Nat.le_of_not_lt fun q=>?_
    have q':(n:Int) < ((ns.length:Nat):Int):=by omega
    first
      | (rw [decide_eq_true q'] at h5;exact absurd h5 (by decide))
      | (simp at h5;omega)
  cases hwl with
  | cons w1 w2=>
    cases w2
    cases w1 with
    | list ho hall=>exact ⟨_,_,ns,rfl,rfl,ho,vD ns _ hall,hlen⟩
theorem XH (l:OpenLaw) (args:List WData):l.row.toRowW.claim.post args (.bool true) args = true:=
  postW_of (r:=l.row.toRowW) (X:=(true == true))
    (show WShape.has [] (.bool true) .bool = true by first | rfl | decide | simp [WShape.has,WShape.arms,WShape.armsAll])
    (show (WTm.eq .res (.lit (.bool true))).value [] { args:=args,res:=some (.bool true),after:=args } = some (.bool (true == true)) from w_eq_bool (w_res rfl) w_lit) rfl
theorem attach_call {l:OpenLaw} {n:Nat} {q:Program} {loose:List Str} {XP:(Str -> Option Value) -> Heap -> Prop} {YP:World -> Heap -> Prop} {d:DefRec}
    (hn:l.most = some n) (hdf:d.params.defaults = [])
    (call:∀ (w:World) (s₀ s₁:Shared) (mg mb:Str -> Option Value) (fa:Addr) (o:Obj) (pm cd doc:Value) (a:Addr) (vs:List Value) (ns:List Int),
      Ground q loose [] XP w s₀ mg mb s₁.heap -> YP w s₁.heap ->
      s₁.heap.get? fa = some o -> o.data = .func (docDef d.name d.params d.body d.scope pm cd doc) -> s₁.heap.CodeRec cd d.name -> mg d.name = some (.ref fa) ->
      s₁.heap.get? a = some { cls:=.type "list",data:=.seq vs.toArray } -> IntsAre vs ns -> ns.length <= n -> s₁.gens = #[] ->
      codeAny (model l.prog w) callerA (.call (.ref fa) ⟨[.ref a],[]⟩) (fun r s'=>r = .ok (.ret (.bool true)) /\ OldK s₁.heap s'.heap /\ s'.os = s₁.os /\ AllBare s'.gens) s₁) :
    WalkO q loose XP YP l.row.toRowW d [] (fun f vs=>PySem.call f vs):=by
  intro w s₀ s₁ mg mb G Y fa o pm cd doc dV kV ho hd hcd hD hmg hg args vals as hpre hlay hrd hwl hlo
  obtain rfl:dV = .none:=Dflts.none hD hdf
  obtain rfl:kV = .none:=Dflts.noKw hD
  obtain ⟨a,vs,ns,rfl,rfl,hobj,hints,hlen⟩:=XE hn hpre hwl
  refine enter_call (codeAny_mono (call w s₀ s₁ mg mb fa o pm cd doc a vs ns G Y ho (fd_plain hd) hcd hmg hobj hints hlen hg) fun r s' hq=>?_)
  obtain ⟨rfl,h2,h3,h4⟩:=hq
  exact ⟨.inl ⟨.bool true,.bool true,[],rfl,fun _=>rfl,.bool true,XH l _,fun _=>⟨List.Pairwise.nil,fun _ hm=>(nomatch hm)⟩⟩,h2,h3,h4⟩
section
variable {prog:Program} {w:World} {A:Around} {E:Value -> Shared -> Prop} {s:Shared} {K:Frag}
def ledger (h:Heap) (L d:Addr):List (Addr × Obj):=(List.range h.objs.size).filterMap fun a=>if a = L \/ a = d then none else (h.get? a).map fun o=>(a,o)
end
end Att
namespace L2
open PySem PySem.Spec PyProof.Rows
theorem wN:∀ {vs:List Value} {ns:List Int},IntsAre vs ns -> Vals (ns.map V.int) vs
  | _,_,.nil=>.nil
  | _,_,.cons n t h=>.cons ⟨t,rfl⟩ (wN h)
def zaV (H:Hp):Prop:=∀ b,H b = none \/ ∃ o xs,H b = some (.frz o (.lst xs))
theorem Wc {P:Program} {w:World} {K:PySem.W.Frag} {mg mb:Str -> Option Value} {CX:CXT} {k:Nat} {fa a:Addr} {fd:FuncData} {x:Str} {sp:Sp} {s₁:Shared} {vs:List Value} {ns:List Int}
    (KX:K.In s₁.heap) (hns:s₁.heap.Ns mainGlobals mg) (hb:s₁.heap.Ns builtinsNs mb) (hbb:∀ x:Str,x ≠ "__name__" -> mb x = bootBuiltins x) (hlim:s₁.heap.NoLimit) (hg:s₁.gens = #[])
    (ha:s₁.heap.get? a = some { cls:=.type "list",data:=.seq vs.toArray }) (hi:IntsAre vs ns) (hl:ns.length <= sizeLine) (hr:Room k callerA)
    (F:∀ base:Heap,K.In base -> base.Ns mainGlobals mg -> qC P w K mg base CX k fa fd [x] sp) (hbind:∀ (s:Shared) (u:Value),BindsTo s fd ⟨[u],[]⟩ [(x,u)])
    (hsp:∀ H:Hp,zaV H -> SqL K H a (ns.map V.int) -> sp [.ref a] H (fun v _=>v = .bl true) fun _ _ _=>False)
    (hCX:∀ H e s',CX [] H s₁ (fun _ _ _=>False) e s' -> False) :
    codeAny (model P w) callerA (.call (.ref fa) ⟨[.ref a],[]⟩) (fun r s'=>r = .ok (.ret (.bool true)) /\ OldK s₁.heap s'.heap /\ s'.os = s₁.os /\ AllBare s'.gens) s₁:=by
  have rv:=wN hi
  have lenV:=hi.length
  have core:∀ H:Hp,zaV H -> SqL K H a (ns.map V.int) -> HOk P w H s₁.heap -> (∀ b,H b ≠ none -> b = a) -> (H a ≠ none -> K.lookup a = none) ->
      codeAny (model P w) callerA (.call (.ref fa) ⟨[.ref a],[]⟩) (fun r s'=>r = .ok (.ret (.bool true)) /\ OldK s₁.heap s'.heap /\ s'.os = s₁.os /\ AllBare s'.gens) s₁:=by
    intro H hO hS hok hA hK
    have base_of:∀ {b:Addr} {o:Obj},s₁.heap.get? b = some o -> H b = none -> (Za s₁.heap H).get? b = some o:=fun e n=>Wh e n
    have noA:∀ {b:Addr} {o:Obj} {es:Array DictEntry} {ep:Nat},s₁.heap.get? b = some o -> o.data = .dict es ep -> H b = none:=fun {b o es ep} e d=>by
      cases q:H b with
      | none=>rfl
      | some u=>
        have e':b = a:=hA b (by rw [q];simp)
        subst e'
        rw [ha] at e;cases e
        have d':Data.seq vs.toArray _ = Data.dict es ep:=d
        cases d'
    have nsK:∀ {b:Addr} {m:Str -> Option Value},s₁.heap.Ns b m -> (Za s₁.heap H).Ns b m:=fun {b m} ⟨o,es,ep,e,d,r⟩=>⟨o,es,ep,base_of e (noA e d),d,r⟩
    have hKb:K.In (Za s₁.heap H):=fun b o e=>base_of (KX b o e) (by
      cases q:H b with
      | none=>rfl
      | some u=>
        have e':b = a:=hA b (by rw [q];simp)
        subst e'
        rw [hK (by rw [q];simp)] at e;cases e)
    have hM:Mod K mg (Za s₁.heap H):=⟨hKb,nsK hns,⟨mb,nsK hb,hbb⟩,let ⟨mc,h1,h2⟩:=hlim;⟨mc,nsK h1,h2⟩⟩
    have e0:YJ P w K mg (Za s₁.heap H) callerA [] s₁ H:=⟨rfl,hM,fun b o e=>Yn e,Nat.le_of_eq (X2 _ _),trivial,fun b hb=>absurd (show b ∈ ([]:List Addr) from hb) (by simp),hok,.of_eq hg⟩
    refine codeAny_mono ((F _ hKb (nsK hns)).run callerA [] s₁ H ⟨[.ref a],[]⟩ [.ref a] [.ref a] _ _ hr e0 (hbind s₁ (.ref a)) (.cons rfl .nil) (hsp H hO hS)) fun r s' h=>?_
    cases r with
    | error e=>exact (hCX H e s' h).elim
    | ok fl=>
      cases fl with
      | next=>exact False.elim h
      | brk=>exact False.elim h
      | cont=>exact False.elim h
      | ret u=>
        obtain ⟨v,H',os,bare,un,hok',r',q⟩:=h
        have q':v = .bl true:=q
        subst q'
        obtain rfl:u = Value.bool true:=r'
        refine ⟨rfl,OldK.of_keep fun b o e=>?_,os,bare⟩
        cases q:H b with
        | none=>exact un.keep b o e q (by intro z;exact absurd (show b ∈ ([]:List Addr) from z) (by simp)) (by simp)
        | some u=>
          rcases hO b with z | ⟨ob,xs,z⟩
          · rw [q] at z;cases z
          · have z2:=un.frzs b ob _ z
            obtain ⟨e1,_⟩:=hok b _ z
            obtain ⟨e2,_⟩:=hok' b _ z2
            rw [e] at e1;cases e1
            exact e2
  cases hk:K.lookup a with
  | some o=>
    have e:=KX a o hk
    rw [ha] at e
    cases e
    refine core (fun _=>none) (fun _=>.inl rfl) (.inr ⟨_,vs.toArray,_,hk,rfl,rfl,rfl,by rw [List.size_toArray,lenV];exact hl,by simpa using rv⟩) (fun b u z=>by have z':(none:Option HO) = some u:=z;cases z') (fun b z=>absurd rfl z) fun z=>absurd rfl z
  | none=>
    refine core (fun b=>if b = a then some (.frz { cls:=.type "list",data:=.seq vs.toArray } (.lst (ns.map V.int))) else none) (fun b=>?_) (.inl (.inr ⟨{ cls:=.type "list",data:=.seq vs.toArray },if_pos rfl⟩)) (fun b u z=>?_) (fun b z=>?_) fun _=>hk
    · by_cases hb:b = a
      · exact .inr ⟨_,_,if_pos hb⟩
      · exact .inl (if_neg hb)
    · by_cases hb:b = a
      · have z':=(if_pos hb).symm.trans z
        cases z'
        subst hb
        exact ⟨ha,by rw [List.length_map];exact hl,vs,_,rv,ha⟩
      · have z':=(if_neg hb).symm.trans z
        cases z'
    · by_cases hb:b = a
      · exact hb
      · exact absurd (if_neg hb) z
theorem walk_of {l:PySem.W.OpenLaw} {n k:Nat} {q:Program} {loose:List Str} {XP:(Str -> Option Value) -> Heap -> Prop} {YP:World -> Heap -> Prop} {d:DefRec} {K:Params -> PySem.W.Frag} {CX:World -> CXT} {sp:World -> Sp} {x:Str}
    (hn:l.most = some n) (hn2:n <= sizeLine) (hdf:d.params.defaults = []) (hr:Room k callerA)
    (hY:∀ (w:World) (h:Heap),YP w h -> (K w.params).In h)
    (F:∀ (w:World) (mg:Str -> Option Value) (fa:Addr) (h:Heap),(K w.params).In h -> h.Ns mainGlobals mg -> mg d.name = some (.ref fa) ->
      ∃ fd:FuncData,(∀ (s:Shared) (u:Value),BindsTo s fd ⟨[u],[]⟩ [(x,u)]) /\
        ∀ base:Heap,(K w.params).In base -> base.Ns mainGlobals mg -> qC l.prog w (K w.params) mg base (CX w) k fa fd [x] (sp w))
    (hsp:∀ (w:World) (H:Hp) (a:Addr) (ns:List Int),ns.length <= n -> zaV H -> SqL (K w.params) H a (ns.map V.int) -> sp w [.ref a] H (fun v _=>v = .bl true) fun _ _ _=>False)
    (hCX:∀ (w:World) (H:Hp) (s:Shared) (e:Value) (s':Shared),CX w [] H s (fun _ _ _=>False) e s' -> False) :
    PySem.W.WalkO q loose XP YP l.row.toRowW d [] (fun f vs=>PySem.call f vs):=by
  refine Att.attach_call hn hdf fun w s₀ s₁ mg mb fa o pm cd doc a vs ns G Y ho hd hcd hmg hobj hints hlen hg=>?_
  have KX:=hY w _ Y
  obtain ⟨fd,hb,hF⟩:=F w mg fa _ KX G.T.g hmg
  exact Wc KX G.T.g G.T.b G.T.builtins G.T.nolimit hg hobj hints (Nat.le_trans hlen hn2) hr hF hb (fun H hO hS=>hsp w H a ns hlen hO hS) fun H e s'=>hCX w H s₁ e s'
def zF (s:Stmt):Arguments:=match s with
  | .FunctionDef _ a _ _ _ _ _ _ _ _=>a
  | _=>{ posonlyargs:=[],args:=[],vararg:=none,kwonlyargs:=[],kw_defaults:=[],kwarg:=none,defaults:=[] }
def zC (s:Stmt):List Stmt:=match s with
  | .FunctionDef _ _ b _ _ _ _ _ _ _=>b
  | _=>[]
def zo (s:Stmt):Scope:=match s with
  | .FunctionDef _ _ _ _ _ _ sc _ _ _=>sc
  | _=>{ kind:=.function,names:=[],isGenerator:=false,isCoroutine:=false }
abbrev CX0:CXT:=fun _ _ _ _ _ _=>False
abbrev E0:XK:=fun _ _ _=>False
theorem zbf {X:Cx}:QV CX0 X E0:=fun _ _ _ _ _ _ _ h=>h.elim
structure Fun (K:PySem.W.Frag) (x qual:Str) (st:Stmt) (f:Addr) (fd:FuncData):Prop where
  ex:∃ (oc:Value) (od:Option Addr) (kV doc pm:Value) (an:Option Addr) (cdv ct:Value) (osl:Array (Option Value)),
    fd = PySem.W.fnOf x qual (zF st) (zC st) (zo st) .none kV doc pm an cdv ct /\ K.lookup f = some ⟨oc,od,.func fd,osl⟩ /\ PySem.W.codeIn K cdv qual = true
  kp:PySem.W.keepIn K (.ref f) = true
section
variable {P:Program} {w:World} {K:PySem.W.Frag} {mg:Str -> Option Value} {base:Heap}
theorem Fun.ok {x qual:Str} {st:Stmt} {f:Addr} {fd:FuncData} {N ps:List Str} {k:Nat} {sp:Sp} (F:Fun K x qual st f fd) (S:zJ N ps (zo st)) (len:∀ vs H Q E,sp vs H Q E -> vs.length = ps.length)
    (hbody:∀ (cdv:Value) (A:Around) (outer:List Env) (s:Shared) (H:Hp) (vs:List V) (Q:VK) (E:XK),Room k (A.deeper (envOfC qual (zo st) s.heap.objs.size f cdv)) -> sp vs H Q E ->
      ∃ t,PSs (X5 CX0 P w K mg base N qual (zo st) f cdv A outer s H E).nox (zC st) t /\ t { nx:=fun _ H'=>Q .non H',rt:=Q } (x5 N vs) H):qC P w K mg base CX0 (k + 1) f fd ps sp:=by
  obtain ⟨oc,od,kV,doc,pm,an,cdv,ct,osl,rfl,lk,hcd⟩:=F.ex
  refine zbo lk hcd S len fun A outer s H vs Q E hr hsp=>?_
  obtain ⟨t,h,q⟩:=hbody cdv A outer s H vs Q E hr hsp
  exact ⟨t,h.nox,q⟩
theorem Fun.binds {x qual:Str} {st:Stmt} {f:Addr} {fd:FuncData} {ps:List Str} (F:Fun K x qual st f fd)
    (h:∀ (kV doc pm:Value) (an:Option Addr) (cdv ct:Value) (us:List Value),us.length = ps.length -> bindArgs (PySem.W.fnOf x qual (zF st) (zC st) (zo st) .none kV doc pm an cdv ct) ⟨us,[]⟩ = pure (ps.zip us)):Binds K fd ps []:=by
  obtain ⟨oc,od,kV,doc,pm,an,cdv,ct,osl,rfl,lk,hcd⟩:=F.ex
  exact .all (h kV doc pm an cdv ct)
theorem qc {x qual:Str} {st:Stmt} {f:Addr} {oc:Value} {od an:Option Addr} {osl:Array (Option Value)} {kV doc pm cdv ct:Value} (l:K.lookup f = some ⟨oc,od,.func (PySem.W.fnOf x qual (zF st) (zC st) (zo st) .none kV doc pm an cdv ct),osl⟩)
    (c:PySem.W.codeIn K cdv qual = true) (k:PySem.W.keepIn K (.ref f) = true):Fun K x qual st f (PySem.W.fnOf x qual (zF st) (zC st) (zo st) .none kV doc pm an cdv ct):=⟨⟨oc,od,kV,doc,pm,an,cdv,ct,osl,rfl,l,c⟩,k⟩
end
theorem Z1 {A:Around} {k:Nat} (hr:Room k A):A.units + 1 < cLine:=Nat.lt_of_le_of_lt (Nat.add_le_add_left (by decide:1 <= 64) _) hr.units
section
variable {X:Cx}
theorem pv (i:Nat) {x:Str} {pos:Pos} (hN:X.N[i]? = some x:=by rfl) (hv:Vis X.env.scope x:=by first | exact Or.inl rfl | exact Or.inr (Or.inl rfl) | exact Or.inr (Or.inr rfl)) (hd:(x == ("__debug__" : Str)) = false:=by decide)
    (hcd:(x == ("__classdict__" : Str)) = false:=by decide):PE X (.Name x pos) (zac i):=zar hN hv hd hcd
end
theorem jU {c A B:Prop} [Decidable c] (h1:c -> A) (h2:¬ c -> B):if c then A else B:=by
  by_cases h:c
  · rw [if_pos h]
    exact h1 h
  · rw [if_neg h]
    exact h2 h
def Same (H H':Hp):Prop:=∀ b o,H b = some o -> H' b = some o
theorem Same.refl (H:Hp):Same H H:=fun _ _ h=>h
theorem Same.trans {H H1 H2:Hp} (a:Same H H1) (b:Same H1 H2):Same H H2:=fun c o h=>b c o (a c o h)
theorem Same.free {H H':Hp} (e:Same H H') {l:Addr} (h:H' l = Option.none):H l = Option.none:=by
  cases q:H l with
  | none=>rfl
  | some o=>
    rw [e l o q] at h
    cases h
theorem Same.seq {K:PySem.W.Frag} {H H':Hp} {a:Addr} {xs:List V} (e:Same H H') (h:SqL K H a xs):SqL K H' a xs:=by
  rcases h with (h | ⟨o,h⟩) | h
  · exact .inl (.inl (e _ _ h))
  · exact .inl (.inr ⟨o,e _ _ h⟩)
  · exact .inr h
end L2
namespace L2
inductive Ex1 {α1:Sort _} (P:α1 -> Prop):Prop
  | mk (a1:α1) (h:P a1):Ex1 P
inductive Ex2 {α1:Sort _} {α2:Sort _} (P:α1 -> α2 -> Prop):Prop
  | mk (a1:α1) (a2:α2) (h:P a1 a2):Ex2 P
inductive Ex3 {α1:Sort _} {α2:Sort _} {α3:Sort _} (P:α1 -> α2 -> α3 -> Prop):Prop
  | mk (a1:α1) (a2:α2) (a3:α3) (h:P a1 a2 a3):Ex3 P
inductive Ex4 {α1:Sort _} {α2:Sort _} {α3:Sort _} {α4:Sort _} (P:α1 -> α2 -> α3 -> α4 -> Prop):Prop
  | mk (a1:α1) (a2:α2) (a3:α3) (a4:α4) (h:P a1 a2 a3 a4):Ex4 P
inductive Ex5 {α1:Sort _} {α2:Sort _} {α3:Sort _} {α4:Sort _} {α5:Sort _} (P:α1 -> α2 -> α3 -> α4 -> α5 -> Prop):Prop
  | mk (a1:α1) (a2:α2) (a3:α3) (a4:α4) (a5:α5) (h:P a1 a2 a3 a4 a5):Ex5 P
inductive Ex8 {α1:Sort _} {α2:Sort _} {α3:Sort _} {α4:Sort _} {α5:Sort _} {α6:Sort _} {α7:Sort _} {α8:Sort _} (P:α1 -> α2 -> α3 -> α4 -> α5 -> α6 -> α7 -> α8 -> Prop):Prop
  | mk (a1:α1) (a2:α2) (a3:α3) (a4:α4) (a5:α5) (a6:α6) (a7:α7) (a8:α8) (h:P a1 a2 a3 a4 a5 a6 a7 a8):Ex8 P
inductive An2 (A1 A2:Prop):Prop
  | mk (h1:A1) (h2:A2):An2 A1 A2
inductive An3 (A1 A2 A3:Prop):Prop
  | mk (h1:A1) (h2:A2) (h3:A3):An3 A1 A2 A3
inductive An4 (A1 A2 A3 A4:Prop):Prop
  | mk (h1:A1) (h2:A2) (h3:A3) (h4:A4):An4 A1 A2 A3 A4
inductive An5 (A1 A2 A3 A4 A5:Prop):Prop
  | mk (h1:A1) (h2:A2) (h3:A3) (h4:A4) (h5:A5):An5 A1 A2 A3 A4 A5
inductive An6 (A1 A2 A3 A4 A5 A6:Prop):Prop
  | mk (h1:A1) (h2:A2) (h3:A3) (h4:A4) (h5:A5) (h6:A6):An6 A1 A2 A3 A4 A5 A6
inductive An7 (A1 A2 A3 A4 A5 A6 A7:Prop):Prop
  | mk (h1:A1) (h2:A2) (h3:A3) (h4:A4) (h5:A5) (h6:A6) (h7:A7):An7 A1 A2 A3 A4 A5 A6 A7
inductive An8 (A1 A2 A3 A4 A5 A6 A7 A8:Prop):Prop
  | mk (h1:A1) (h2:A2) (h3:A3) (h4:A4) (h5:A5) (h6:A6) (h7:A7) (h8:A8):An8 A1 A2 A3 A4 A5 A6 A7 A8
inductive An9 (A1 A2 A3 A4 A5 A6 A7 A8 A9:Prop):Prop
  | mk (h1:A1) (h2:A2) (h3:A3) (h4:A4) (h5:A5) (h6:A6) (h7:A7) (h8:A8) (h9:A9):An9 A1 A2 A3 A4 A5 A6 A7 A8 A9
inductive zby (A1 A2 A3 A4 A5 A6 A7 A8 A9 A10:Prop):Prop
  | mk (h1:A1) (h2:A2) (h3:A3) (h4:A4) (h5:A5) (h6:A6) (h7:A7) (h8:A8) (h9:A9) (h10:A10):zby A1 A2 A3 A4 A5 A6 A7 A8 A9 A10
theorem zbi {α:Type _} {us:List α} (h:us.length = 1):∃ a0,us = [a0]:=
  match us,h with
  | [a0],_=>⟨a0,rfl⟩
theorem jj {α:Type _} {us:List α} (h:us.length = 2):∃ a0 a1,us = [a0,a1]:=
  match us,h with
  | [a0,a1],_=>⟨a0,a1,rfl⟩
theorem JC {α:Type _} {us:List α} (h:us.length = 3):∃ a0 a1 a2,us = [a0,a1,a2]:=
  match us,h with
  | [a0,a1,a2],_=>⟨a0,a1,a2,rfl⟩
theorem Wa {α:Type _} {us:List α} (h:us.length = 4):∃ a0 a1 a2 a3,us = [a0,a1,a2,a3]:=
  match us,h with
  | [a0,a1,a2,a3],_=>⟨a0,a1,a2,a3,rfl⟩
end L2
set_option maxHeartbeats 4000000
namespace L2
open PySem PySem.Spec PyProof.Rows
def qd (cs:List (Str × Addr)):List (Str × NameKind) -> List (Str × Addr) -> List (Str × Addr)
  | [],acc=>acc
  | (n,k) :: r,acc=>qd cs r (if (k == NameKind.free) = true then (n,(cs.lookup n).getD 0) :: acc else acc)
theorem WA {env:Env} (names:List (Str × NameKind)):∀ (acc:List (Str × Addr)),(∀ y ∈ names,y.2 = NameKind.free -> ∃ c,env.cells.lookup y.1 = some c) ->
    (forIn names acc fun (x:Str × NameKind) (cs:List (Str × Addr))=>
      (if (x.2 == NameKind.free) = true then (cellOf env x.1 >>= fun a=>(pure (ForInStep.yield ((x.1,a) :: cs)):Sem (ForInStep (List (Str × Addr))))) else pure (ForInStep.yield cs))) = (pure (qd env.cells names acc):Sem (List (Str × Addr))):=by
  induction names with
  | nil=>intro acc _;rfl
  | cons y r ih=>
    intro acc h
    obtain ⟨n,k⟩:=y
    rw [List.forIn_cons]
    by_cases hk:(k == NameKind.free) = true
    · obtain ⟨c,hc⟩:=h (n,k) List.mem_cons_self (by simpa using hk)
      have e1:cellOf env n = pure c:=by
        unfold cellOf
        rw [show env.cells.lookup n = some c from hc]
      simp only [hk,if_true,e1,pure_bind]
      rw [ih _ fun z hz=>h z (List.mem_cons_of_mem _ hz)]
      show _ = pure (qd env.cells r (if (k == NameKind.free) = true then (n,(env.cells.lookup n).getD 0) :: acc else acc))
      rw [if_pos hk,show env.cells.lookup n = some c from hc]
      all_goals rfl
    · simp only [hk,pure_bind]
      simp only [Bool.false_eq_true,if_false,pure_bind]
      rw [ih _ fun z hz=>h z (List.mem_cons_of_mem _ hz)]
      show _ = pure (qd env.cells r (if (k == NameKind.free) = true then (n,(env.cells.lookup n).getD 0) :: acc else acc))
      rw [if_neg hk]
theorem Zf {env:Env} {scope:Scope} (h:∀ y ∈ scope.names,y.2 = NameKind.free -> ∃ c,env.cells.lookup y.1 = some c):closureFor scope env = pure (qd env.cells scope.names []):=by
  have e:=WA (env:=env) scope.names [] h
  unfold closureFor
  refine Eq.trans ?_ (Eq.trans (congrArg (fun m=>m >>= fun cs=>(pure cs:Sem (List (Str × Addr)))) e) ?_)
  · rfl
  · simp
theorem jE {cs:List (Str × Addr)} {x:Str}:∀ (names:List (Str × NameKind)) (acc:List (Str × Addr)),(qd cs names acc).lookup x = (if (names.any fun y=>y.2 == NameKind.free && x == y.1) = true then some ((cs.lookup x).getD 0) else acc.lookup x)
  | [],acc=>by simp [qd]
  | (n,k) :: r,acc=>by
    unfold qd
    rw [jE r]
    by_cases hr:(r.any fun y=>y.2 == NameKind.free && x == y.1) = true
    · rw [if_pos hr,if_pos (by rw [List.any_cons,hr,Bool.or_true])]
    · rw [if_neg hr]
      by_cases hk:(k == NameKind.free) = true
      · rw [if_pos hk]
        by_cases hx:(x == n) = true
        · rw [if_pos (by rw [List.any_cons];simp only [hk,hx,Bool.and_self,Bool.true_or])]
          have e:x = n:=by simpa using hx
          subst e
          simp [List.lookup_cons]
        · rw [if_neg (by rw [List.any_cons];simp only [hk,hx,Bool.and_false,Bool.false_or];exact hr)]
          have hx':(x == n) = false:=by simpa using hx
          simp [List.lookup_cons,hx']
      · rw [if_neg hk,if_neg (by rw [List.any_cons];simp only [hk,Bool.false_and,Bool.false_or];exact hr)]
abbrev zS (X:Cx) (N':List Str) (scope:Scope) (C:Addr) (s:Shared) (H:Hp) (ex:List Addr):Cx where
  prog:=X.prog
  w:=X.w
  K:=X.K
  mg:=X.mg
  base:=X.base
  A:=X.A
  N:=N'
  s₀:=s
  H₀:=H
  env:=compEnvC scope (qd X.env.cells scope.names []) C X.env
  outer:=X.stack
  stack:=X.stack
  ex:=ex
  fn:=fun _=>false
  calm:=X.calm
  pn:=[]
  xe:=fun _ _=>False
abbrev yC (ifs:List Expr) (env:Env):Sem Bool:=
  forIn ifs true fun (c:Expr) (r:Bool)=>if r = true then (isTrue c env (eval c env) >>= fun ok=>(pure (ForInStep.yield ok):Sem (ForInStep Bool))) else pure (ForInStep.yield r)
theorem wu {prog:Program} {w:World} {A:Around} {R:Result -> Shared -> Prop} {s:Shared} {elt tg iter:Expr} {ifs:List Expr} {scope:Scope} {pos:Pos} {it acc:Value} {env:Env} (J:Nat -> Shared -> Prop)
    (turn:∀ n s,J n s -> wpAny (model prog w) A (pyNext it) (fun r s1=>match r with
      | none=>R (.ok .next) s1
      | some v=>wpAny (model prog w) A (letOwnedTupleGo tg it v) (fun _ s2=>wpAny (model prog w) A (assign tg env v) (fun _ s3=>
          wpAny (model prog w) A (yC ifs env) (fun ok s4=>
            if ok = true then wpAny (model prog w) A (eval elt env) (fun x s5=>
              wpAny (model prog w) A (call (.builtin "list.append") [acc,x]) (fun _ s6=>∃ m,m < n /\ J m s6) (fun _ _=>False) s5) (fun _ _=>False) s4
            else ∃ m,m < n /\ J m s4) (fun _ _=>False) s3) (fun _ _=>False) s2) (fun _ _=>False) s1) (fun _ _=>False) s)
    (n:Nat) (h:J n s):codeAny (model prog w) A (.compLoop (.ListComp elt [⟨tg,iter,ifs,0⟩] scope pos) 0 it acc env) R s:=by
  have no:∀ {α:Type} {t:Sem α} {Q:α -> Shared -> Prop} {E:Value -> Shared -> Prop} {s:Shared},wpAny (model prog w) A t Q (fun _ _=>False) s -> wpAny (model prog w) A t Q E s:=fun x=>wpAny_mono x (fun _ _ q=>q) fun _ _ q=>q.elim
  refine codeAny_loop rfl J (fun k u hJ=>?_) n h
  show wpAny _ A ((compTurn (.ListComp elt [⟨tg,iter,ifs,0⟩] scope pos) 0 it acc env).onRaise (fun x=>do noteFrame x env;theTreesLotGoes x)) _ _ u
  refine wpAny_noted ?_
  rw [compTurn_list]
  refine wpAny_bind (wpAny_standAt (wpAny_bind (no (wpAny_mono (turn k u hJ) (fun r s1 h1=>?_) fun _ _ q=>q))))
  cases r with
  | none=>exact wpAny_pure h1
  | some v=>
    refine wpAny_bind (no (wpAny_mono h1 (fun _ s2 h2=>wpAny_bind (no (wpAny_mono h2 (fun _ s3 h3=>wpAny_bind (no (wpAny_mono h3 (fun ok s4 h4=>?_) fun _ _ q=>q))) fun _ _ q=>q))) fun _ _ q=>q))
    cases ok with
    | false=>exact wpAny_pure ⟨rfl,h4⟩
    | true=>
      have h4':wpAny (model prog w) A (eval elt env) (fun x s5=>wpAny (model prog w) A (call (.builtin "list.append") [acc,x]) (fun _ s6=>∃ m,m < k /\ J m s6) (fun _ _=>False) s5) (fun _ _=>False) s4:=h4
      refine wpAny_bind (wpAny_bind (no (wpAny_mono h4' (fun x s5 h5=>wpAny_bind (no (wpAny_mono h5 (fun _ s6 h6=>wpAny_pure (wpAny_pure ⟨rfl,h6⟩)) fun _ _ q=>q))) fun _ _ q=>q)))
def PF (X:Cx) (ifs:List Expr) (t:TT):Prop:=
  ∀ (pins:List (Addr × Obj)) (s:Shared) (σ:St) (H:Hp) (Q:Bool -> Hp -> Prop),Inv X pins σ H s -> t σ H Q -> wpAny (model X.prog X.w) X.A (yC ifs X.env) (TP X pins σ Q) X.xe s
def zbp:TT:=fun _ H Q=>Q true H
theorem qE {X:Cx}:PF X [] zbp:=fun pins s σ H Q I h=>wpAny_pure ⟨H,I,h⟩
theorem vP {X:Cx} {c:Expr} {t:TT} (hc:PT X c t):PF X [c] t:=by
  intro pins s σ H Q I h
  unfold yC
  simp only [List.forIn_cons,List.forIn_nil,if_true]
  refine wpAny_bind (wpAny_bind (thn (hc pins s σ H Q I h) fun ok s1 q=>wpAny_pure (wpAny_pure q)))
theorem y9 {P:Program} {w:World} {H:Hp} {h h':Heap} {C:Addr} (x:HOk P w H h) (hn:H C = none) (k:∀ b o,b ≠ C -> h.get? b = some o -> h'.get? b = some o):HOk P w H h':=fun b u e=>by
  refine (x b u e).stay (fun c v hc q=>k c v ?_ q) (fun _ q=>q) fun _ _ q=>q
  rcases hc with z | z
  · rw [z];exact zj e hn
  · exact zj z hn
theorem j4 {P:Program} {w:World} {H:Hp} {h:Heap} {a:Addr} {o:HO} (x:HOk P w H h) (hn:H a = none) (new:ObjOk P w (upd H a o) h a o):HOk P w (upd H a o) h:=fun b u e=>by
  by_cases hb:b = a
  · subst hb;rw [zf] at e;cases e;exact new
  · rw [zu hb] at e
    exact (x b u e).stay (fun c v _ q=>q) (fun c q=>by rw [zu (zj q hn)];exact q) fun c xs q=>by rw [zu (zj q hn)];exact q
theorem xr {fs ex:List Addr} {H H':Hp} {h h':Heap} {a:Addr} {o:HO} (u:Un fs ex H H' h h') (ha:a ∈ ex) (hn:H a = none):Un fs ex H (upd H' a o) h h' where
  keep:=u.keep
  slot:=u.slot
  free:=fun b ob q n hx=>by
    have hb:b ≠ a:=fun z=>hx (by rw [z];exact ha)
    rw [zu hb];exact u.free b ob q n hx
  there:=u.there
  tups:=fun b xs q=>by rw [zu (zj q hn)];exact u.tups b xs q
  frzs:=fun b ob v q=>by rw [zu (zj q hn)];exact u.frzs b ob v q
  tbls:=fun b ps q=>by rw [zu (zj q hn)];exact u.tbls b ps q
theorem Qo {fs ex:List Addr} {H H':Hp} {h h1 h2:Heap} {C:Addr} (u:Un fs ex H H' h h1) (hC:h.objs.size <= C) (k:∀ b o,b ≠ C -> h1.get? b = some o -> h2.get? b = some o):Un fs ex H H' h h2 where
  keep:=fun b o q n hb hx=>k b o (Nat.ne_of_lt (Nat.lt_of_lt_of_le (Heap.lt_size q) hC)) (u.keep b o q n hb hx)
  slot:=fun b o q n hb hx=>let ⟨sl,e⟩:=u.slot b o q n hb hx;⟨sl,k b _ (Nat.ne_of_lt (Nat.lt_of_lt_of_le (Heap.lt_size q) hC)) e⟩
  free:=u.free
  there:=fun b o q hx=>let ⟨o',e⟩:=u.there b o q hx;⟨o',k b _ (Nat.ne_of_lt (Nat.lt_of_lt_of_le (Heap.lt_size q) hC)) e⟩
  tups:=u.tups
  frzs:=u.frzs
  tbls:=u.tbls
def yq (sn on:List (Str × NameKind)) (N fr:List Str) (js:List Nat):Bool:=
  sn.all (fun y=>y.2 != .cell && (y.2 != .local || sn.lookup y.1 == some .local) && (y.2 != .free || (on.lookup y.1 == some .cell || on.lookup y.1 == some .free))) && fr.length == js.length
    && (fr.zip js).all fun p=>sn.lookup p.1 == some .free && N[p.2]? == some p.1
structure zaa (sn on:List (Str × NameKind)) (N fr:List Str) (js:List Nat):Prop where
  cell:∀ y ∈ sn,y.2 ≠ NameKind.cell
  loc:∀ y ∈ sn,y.2 = NameKind.local -> sn.lookup y.1 = some .local
  free:∀ y ∈ sn,y.2 = NameKind.free -> on.lookup y.1 = some .cell \/ on.lookup y.1 = some .free
  len:fr.length = js.length
  fr:∀ (k:Nat) (x:Str),fr[k]? = some x -> sn.lookup x = some .free /\ ∃ j:Nat,js[k]? = some j /\ N[j]? = some x
theorem Qi {sn on:List (Str × NameKind)} {N fr:List Str} {js:List Nat} (h:yq sn on N fr js = true):zaa sn on N fr js:=by
  unfold yq at h
  rw [Bool.and_eq_true,Bool.and_eq_true,List.all_eq_true,List.all_eq_true] at h
  obtain ⟨⟨h1,h2⟩,h3⟩:=h
  have h2':fr.length = js.length:=by simpa using h2
  refine ⟨fun y hy=>?_,fun y hy e=>?_,fun y hy e=>?_,h2',fun k x e=>?_⟩
  · have:=h1 y hy
    simp only [Bool.and_eq_true,bne_iff_ne] at this
    exact this.1.1
  · have:=h1 y hy
    simp only [Bool.and_eq_true,Bool.or_eq_true,bne_iff_ne,beq_iff_eq] at this
    exact this.1.2.resolve_left fun z=>z e
  · have:=h1 y hy
    simp only [Bool.and_eq_true,Bool.or_eq_true,bne_iff_ne,beq_iff_eq] at this
    exact this.2.resolve_left fun z=>z e
  · have hk:k < fr.length:=(List.getElem?_eq_some_iff.mp e).1
    have hj:k < js.length:=by omega
    have hm:(x,js[k]) ∈ fr.zip js:=by
      refine List.mem_of_getElem? (i:=k) ?_
      rw [List.getElem?_zip_eq_some]
      exact ⟨e,by simp [hj]⟩
    have:=h3 _ hm
    simp only [Bool.and_eq_true,beq_iff_eq] at this
    exact ⟨this.1,js[k],by simp [hj],this.2⟩
def upS (n:Nat) (js:List Nat) (σ:St):St:=List.replicate n none ++ js.map fun j=>(σ[j]?).join
def tLC (wi:TI) (n:Nat) (js:List Nat) (g:TG) (tf:TT) (te:TE):TE:=fun σ H Q=>wi σ H fun J H1=>
  ∃ W:Nat -> Nat -> List V -> Hp -> Prop,(∃ m,W 0 m [] H1) /\ ∀ i m ys H2,W i m ys H2 ->
    (J.stop i H2 /\ ys.length <= sizeLine /\ ∀ D,H2 D = none -> Q (.ref D) (upd H2 D (.lst ys))) \/
    (J.go i H2 /\ ∃ N:List V -> Hp -> Prop,(∀ zs H',N zs H' -> ∃ m',m' < m /\ W (i + 1) m' zs H') /\ ∀ x H3,J.yld i H2 x H3 -> g x (upS n js σ) H3 fun σ4 H4=>σ4.drop n = (upS n js σ).drop n /\ tf σ4 H4 fun b H5=>
      if b = true then te σ4 H5 fun y H6=>ys.length < sizeLine /\ N (ys ++ [y]) H6 else N ys H5)
theorem jO {env:Env} {x:Str} {k':NameKind}:∀ {names:List (Str × NameKind)},(names.map fun (n,k)=>if (k == NameKind.free && env.scope.kind == .function && env.kindOf n == some .cell) then (n,NameKind.cell) else (n,k)).lookup x = some k' ->
    ∃ k,names.lookup x = some k /\ (k' = k \/ (k = .free /\ k' = .cell))
  | [],h=>by simp at h
  | (n,k) :: r,h=>by
    by_cases hx:(x == n) = true
    · refine ⟨k,by simp [List.lookup_cons,hx],?_⟩
      have h:List.lookup x ((if (k == NameKind.free && env.scope.kind == .function && env.kindOf n == some .cell) = true then (n,NameKind.cell) else (n,k)) :: _) = some k':=h
      by_cases hc:(k == NameKind.free && env.scope.kind == .function && env.kindOf n == some .cell) = true
      · rw [if_pos hc,List.lookup_cons,hx] at h
        simp only [Bool.and_eq_true,beq_iff_eq] at hc
        exact .inr ⟨hc.1.1,(Option.some.inj h).symm⟩
      · rw [if_neg hc,List.lookup_cons,hx] at h
        exact .inl (Option.some.inj h).symm
    · have hx':(x == n) = false:=by simpa using hx
      have h:List.lookup x ((if (k == NameKind.free && env.scope.kind == .function && env.kindOf n == some .cell) = true then (n,NameKind.cell) else (n,k)) :: _) = some k':=h
      have h2:(r.map fun (n,k)=>if (k == NameKind.free && env.scope.kind == .function && env.kindOf n == some .cell) then (n,NameKind.cell) else (n,k)).lookup x = some k':=by
        by_cases hc:(k == NameKind.free && env.scope.kind == .function && env.kindOf n == some .cell) = true
        · rw [if_pos hc,List.lookup_cons,hx'] at h;exact h
        · rw [if_neg hc,List.lookup_cons,hx'] at h;exact h
      obtain ⟨k0,e,z⟩:=jO h2
      exact ⟨k0,by rw [List.lookup_cons,hx'];exact e,z⟩
theorem xj {env:Env} {x:Str}:∀ {names:List (Str × NameKind)},names.lookup x = some .free -> ∃ k',(names.map fun (n,k)=>if (k == NameKind.free && env.scope.kind == .function && env.kindOf n == some .cell) then (n,NameKind.cell) else (n,k)).lookup x = some k' /\ (k' = .cell \/ k' = .free)
  | [],h=>by simp at h
  | (n,k) :: r,h=>by
    by_cases hx:(x == n) = true
    · rw [List.lookup_cons,hx] at h
      cases (Option.some.inj h)
      show ∃ k',List.lookup x ((if (NameKind.free == NameKind.free && env.scope.kind == .function && env.kindOf n == some .cell) = true then (n,NameKind.cell) else (n,NameKind.free)) :: _) = some k' /\ _
      by_cases hc:(NameKind.free == NameKind.free && env.scope.kind == .function && env.kindOf n == some .cell) = true
      · rw [if_pos hc];exact ⟨.cell,by simp [List.lookup_cons,hx],.inl rfl⟩
      · rw [if_neg hc];exact ⟨.free,by simp [List.lookup_cons,hx],.inr rfl⟩
    · have hx':(x == n) = false:=by simpa using hx
      rw [List.lookup_cons,hx'] at h
      obtain ⟨k',e,z⟩:=xj (env:=env) (names:=r) h
      refine ⟨k',?_,z⟩
      show List.lookup x ((if (k == NameKind.free && env.scope.kind == .function && env.kindOf n == some .cell) = true then (n,NameKind.cell) else (n,k)) :: _) = some k'
      by_cases hc:(k == NameKind.free && env.scope.kind == .function && env.kindOf n == some .cell) = true
      · rw [if_pos hc,List.lookup_cons,hx'];exact e
      · rw [if_neg hc,List.lookup_cons,hx'];exact e
theorem zH {cs:List (Str × Addr)} {names:List (Str × NameKind)} {x:Str} {c:Addr} (h:(qd cs names []).lookup x = some c) (hf:∀ y ∈ names,y.2 = NameKind.free -> ∃ c,cs.lookup y.1 = some c):cs.lookup x = some c:=by
  rw [jE] at h
  by_cases hr:(names.any fun y=>y.2 == NameKind.free && x == y.1) = true
  · rw [if_pos hr] at h
    obtain ⟨y,hy,e⟩:=List.any_eq_true.mp hr
    simp only [Bool.and_eq_true,beq_iff_eq] at e
    obtain ⟨c',e'⟩:=hf y hy e.1
    rw [<- e.2] at e'
    rw [e'] at h ⊢
    exact h
  · rw [if_neg hr] at h
    cases h
theorem j5 {cs:List (Str × Addr)} {names:List (Str × NameKind)} {x:Str} (h:names.lookup x = some .free):(qd cs names []).lookup x = some ((cs.lookup x).getD 0):=by
  rw [jE,if_pos]
  exact List.any_eq_true.mpr ⟨(x,.free),PySem.mem_of_lookup h,by simp⟩
theorem jL {n:Nat} {js:List Nat} {σ:St} {i:Nat} {v:V} (h:(upS n js σ)[i]? = some (some v)):n <= i /\ ((upS n js σ).drop n)[i - n]? = some (some v) /\ ∃ j:Nat,js[i - n]? = some j /\ σ[j]? = some (some v):=by
  unfold upS at h ⊢
  by_cases hi:i < n
  · rw [List.getElem?_append_left (by simpa using hi),List.getElem?_replicate] at h
    split at h <;> cases h
  · have e:(List.replicate n (none:Option V) ++ js.map fun j=>(σ[j]?).join).drop n = js.map fun j=>(σ[j]?).join:=by
      rw [List.drop_append_of_le_length (by simp)];simp
    rw [List.getElem?_append_right (by simpa using hi),List.length_replicate] at h
    refine ⟨by omega,by rw [e];exact h,?_⟩
    rw [List.getElem?_map] at h
    cases ej:js[i - n]? with
    | none=>rw [ej] at h;cases h
    | some j=>
      rw [ej] at h
      have h:(σ[j]?).join = some v:=Option.some.inj h
      refine ⟨j,rfl,?_⟩
      cases eo:σ[j]? with
      | none=>rw [eo] at h;cases h
      | some o=>rw [eo] at h;exact congrArg some h
theorem QY {n:Nat} {js:List Nat} {σ:St}:(upS n js σ).length = n + js.length:=by unfold upS;simp
section
variable {X:Cx} {elt tg iter:Expr} {ifs:List Expr} {scope:Scope} {pos:Pos} {wi:TI} {g:TG} {tf:TT} {te:TE}
theorem yo {pins:List (Addr × Obj)} {σ:St} {H:Hp} {s:Shared} {fp:List Addr} (own fr:List Str) (js:List Nat) (I:Inv X pins σ H s) (B:zaa scope.names X.env.scope.names X.N fr js) (hk:scope.kind = .function)
    (f2:∀ b ∈ fp,qT X pins H b) (fl:∀ b ∈ fp,b < s.heap.objs.size) {D C:Addr} (hD:D = s.heap.objs.size) {h3 h1:Heap} (e3:h3 = s.heap.push { cls:=.type "list",dict:=none,data:=.seq ([]:List Value).toArray }) (hC:C = h3.objs.size)
    {m:Str -> Option Value} (hns:h1.Ns C m) (k4:∀ b o,h3.get? b = some o -> h1.get? b = some o) {t4:Nat} :
    Inv (zS X (own ++ fr) scope C { s with heap:=h3 } H (D :: fp)) [] (upS own.length js σ) H { s with heap:=h1,toks:=t4 }:=by
  have k3:∀ b o,s.heap.get? b = some o -> h3.get? b = some o:=fun b o e=>by rw [e3];exact Heap.get?_push_of_some _ e
  have I3:Inv X pins σ H { s with heap:=h3 }:=I.kept (t':=s.toks) k3
  have hz:h3.objs.size = s.heap.objs.size + 1:=by rw [e3,Heap.size_push]
  have hasF:∀ y ∈ scope.names,y.2 = NameKind.free -> ∃ c,X.env.cells.lookup y.1 = some c:=fun y hy e=>I.ok.has y.1 (B.free y hy e)
  have cellLt:∀ x c,X.env.cells.lookup x = some c -> c < s.heap.objs.size:=fun x c e=>by
    obtain ⟨v,q⟩:=I.cell x c e
    exact q.lt
  refine ⟨⟨I.ok.mod,hk,I.ok.glob,I.ok.blt,Nat.le_of_eq hC.symm,fun x y c e1 e2=>?_,fun x hx=>?_,fun x c hf=>(nomatch hf),fun hc=>I.ok.hd hc,I.ok.frames,.inl rfl,fun b hb=>?_,I3.bs,Nat.le_trans I.ok.bsz I3.sz,fun b o e hb=>?_,fun b hb hf=>?_,I3.stack,I3.stkFree⟩,
    rfl,I.bare,Un.kept k4,⟨m,hns,fun i x v e1 e2 e3'=>?_⟩,fun x c e=>?_,?_,fun x c e=>?_,fun p hp=>absurd (show p ∈ ([]:List (Addr × Obj)) from hp) (by simp),I3.hok.kept k4,?_⟩
  · exact I.ok.inj x y c (zH e1 hasF) (zH e2 hasF)
  · obtain ⟨k,e,z⟩:∃ k,scope.names.lookup x = some k /\ (k = .free):=by
      rcases hx with hx | hx
      · obtain ⟨k,e,z⟩:=jO hx
        rcases z with z | z
        · subst z;exact absurd rfl (B.cell _ (PySem.mem_of_lookup e))
        · exact ⟨k,e,z.1⟩
      · obtain ⟨k,e,z⟩:=jO hx
        rcases z with z | z
        · subst z;exact ⟨_,e,rfl⟩
        · exact ⟨k,e,z.1⟩
    subst z
    exact ⟨_,j5 e⟩
  · rcases List.mem_cons.mp hb with z | hb
    · subst z
      refine ⟨by rw [hD,hC,hz];exact Nat.ne_of_lt (Nat.lt_succ_self _),fun x c e=>?_⟩
      have:=cellLt x c (zH e hasF)
      rw [hD];exact Nat.ne_of_lt this
    · refine ⟨by rw [hC,hz];exact Nat.ne_of_lt (Nat.lt_succ_of_lt (fl b hb)),fun x c e=>?_⟩
      exact (f2 b hb).2.2.2.2.1 x c (zH e hasF)
  · rcases List.mem_cons.mp hb with z | hb
    · have:=Heap.lt_size (I.bk b o e)
      rw [z,hD] at this
      exact Nat.lt_irrefl _ this
    · rcases (f2 b hb).2.2.2.1 with z | z
      · exact I.ok.noex b o e z
      · exact absurd (Nat.lt_of_lt_of_le (Heap.lt_size (I.ok.bs b o e).1) z) (Nat.lt_irrefl _)
  · have hf':=List.mem_cons.mp (I.stkSub b hf)
    rcases List.mem_cons.mp hb with z | hb
    · rcases hf' with y | y
      · have:=I.lt
        rw [<- y,z,hD] at this
        exact Nat.lt_irrefl _ this
      · exact I.nofs (a:=b) (by rw [z,hD];exact Nat.le_refl _) y
    · rcases hf' with y | y
      · exact (f2 b hb).2.1 y
      · exact (f2 b hb).2.2.1 y
  · obtain ⟨hn,_,j,ej,es⟩:=jL e2
    have ex:fr[i - own.length]? = some x:=by rw [List.getElem?_append_right hn] at e1;exact e1
    obtain ⟨hfx,j',ej',eN⟩:=B.fr _ x ex
    have:j' = j:=by rw [ej] at ej';exact (Option.some.inj ej').symm
    subst this
    have hkx:=B.free _ (PySem.mem_of_lookup hfx) rfl
    obtain ⟨m0,_,hl⟩:=I.loc
    obtain ⟨u,r,l⟩:=hl j' x v eN es (by rcases hkx with z | z;exact .inr (.inl z);exact .inr (.inr z))
    refine ⟨u,r,.inr ?_⟩
    rcases l with ⟨kl,_⟩ | ⟨_,c,ec,o,eo,ed⟩
    · have kl':X.env.scope.names.lookup x = some .local:=kl
      rcases hkx with z | z
      · exact absurd (z.symm.trans kl') (by decide)
      · exact absurd (z.symm.trans kl') (by decide)
    · obtain ⟨k',e',z⟩:=xj (env:=X.env) hfx
      have eq:(qd X.env.cells scope.names []).lookup x = some c:=by rw [j5 hfx,ec];rfl
      refine ⟨?_,c,eq,o,k4 c o (k3 c o eo),ed⟩
      rcases z with z | z
      · subst z;exact .inl e'
      · subst z;exact .inr e'
  · obtain ⟨v,o,eo,ed⟩:=I.cell x c (zH e hasF)
    exact ⟨v,o,k4 c o (k3 c o eo),ed⟩
  · exact I3.hok.fresh (Nat.le_of_eq hC.symm)
  · exact I.freeC x c (zH e hasF)
  · rw [QY,<- B.len]
    show _ = (own ++ fr).length
    rw [List.length_append]
theorem YY (own fr:List Str) (js:List Nat) (hc:X.calm = true) (hk:scope.kind = .function) (hb:yq scope.names X.env.scope.names X.N fr js = true) (hi:PI X tg iter wi)
    (hg:∀ C s H ex,PG (zS X (own ++ fr) scope C s H ex) tg g) (hf:∀ C s H ex,PF (zS X (own ++ fr) scope C s H ex) ifs tf) (he:∀ C s H ex,PE (zS X (own ++ fr) scope C s H ex) elt te)
    (hs:∀ x,foldedSetIterable iter X.env x = pure x:=by intro _;rfl):PE X (.ListComp elt [⟨tg,iter,ifs,0⟩] scope pos) (tLC wi own.length js g tf te):=by
  intro pins s σ H Q I h
  have B:=Qi hb
  have hasF:∀ y ∈ scope.names,y.2 = NameKind.free -> ∃ c,X.env.cells.lookup y.1 = some c:=fun y hy e=>I.ok.has y.1 (B.free y hy e)
  rw [eval_ListComp]
  refine wpAny_comprehension_free (use:=none) rfl hs (Zf hasF) hk (fun y hy e=>B.loc y hy e) (thn (hi pins s σ H _ I h) fun v s1 h1=>thn h1 fun itv s2 h2=>?_)
  obtain ⟨it,fp,tn,J,H2,e,I2,T,st2,f2,W,⟨m0,w0⟩,turn⟩:=h2
  subst e
  have fl:∀ b ∈ fp,b < s2.heap.objs.size:=fun b hb=>let ⟨o,e,_⟩:=T.obj _ _ st2 b hb;Heap.lt_size e
  refine wpAny_newObj_type (wpAny_newFunctionEnv B.cell (by intro y hy;simp at hy) (fun h1 hns hsb=>?_) hk)
  dsimp only at hns hsb ⊢
  generalize e3:s2.heap.push { cls:=.type "list",dict:=none,data:=.seq ([]:List Value).toArray } = h3 at hns hsb ⊢
  have k3:∀ b o,s2.heap.get? b = some o -> h3.get? b = some o:=fun b o e=>by rw [<- e3];exact Heap.get?_push_of_some _ e
  have k4:∀ b o,h3.get? b = some o -> h1.get? b = some o:=fun b o e=>hsb.extBut b o (Nat.ne_of_lt (Heap.lt_size e)) (Heap.get?_push_of_some _ e)
  have I4:Inv (zS X (own ++ fr) scope h3.objs.size { s2 with heap:=h3 } H2 (s2.heap.objs.size :: fp)) [] (upS own.length js σ) H2 { s2 with heap:=h1,toks:=s2.toks + ([]:List (Str × Value)).length }:=
    yo own fr js I2 B hk f2 fl rfl e3.symm rfl hns k4
  have I3:Inv X pins σ H2 { s2 with heap:=h3 }:=I2.kept (t':=s2.toks) k3
  have hz:h3.objs.size = s2.heap.objs.size + 1:=by rw [<- e3,Heap.size_push]
  have hDl:s2.heap.objs.size ≠ h3.objs.size:=by rw [hz];exact Nat.ne_of_lt (Nat.lt_succ_self _)
  have hacc:h1.get? s2.heap.objs.size = some { cls:=.type "list",data:=.seq ([]:List Value).toArray }:=k4 _ _ (by rw [<- e3];exact Heap.get?_push_size _ rfl)
  generalize eD:s2.heap.objs.size = D at *
  generalize eC:h3.objs.size = C at *
  have fD:∀ b ∈ fp,D ≠ b:=fun b hb=>Nat.ne_of_gt (fl b hb)
  have hx:∀ x c,(qd X.env.cells scope.names []).lookup x = some c -> c ≠ D:=fun x c e=>by
    obtain ⟨v,q⟩:=I2.cell x c (zH e hasF)
    rw [<- eD];exact Nat.ne_of_lt q.lt
  have hx2:∀ b ∈ fp,∀ x c,(qd X.env.cells scope.names []).lookup x = some c -> c ≠ b:=fun b hb x c e=>(f2 b hb).2.2.2.2.1 x c (zH e hasF)
  have nfs:∀ b ∈ D :: fp,b ∉ frs X.stack:=I4.ok.exfs
  have fpB:∀ {pins':List (Addr × Obj)} {H':Hp} {b:Addr},b ∈ fp -> H' b = none -> (∀ p ∈ pins',p.1 ≠ b) -> qT (zS X (own ++ fr) scope C { s2 with heap:=h3 } H2 (D :: fp)) pins' H' b:=fun {pins' H' b} hb hn hp=>
    ⟨hn,(I4.ok.exf b (List.mem_cons_of_mem _ hb)).1,nfs b (List.mem_cons_of_mem _ hb),.inl (List.mem_cons_of_mem _ hb),fun x c e=>hx2 b hb x c e,fun p h=>hp p (by simpa using h)⟩
  have fpD:∀ {pins':List (Addr × Obj)} {H':Hp},H' D = none -> (∀ p ∈ pins',p.1 ≠ D) -> qT (zS X (own ++ fr) scope C { s2 with heap:=h3 } H2 (D :: fp)) pins' H' D:=fun {pins' H'} hn hp=>
    ⟨hn,hDl,nfs D List.mem_cons_self,.inl List.mem_cons_self,fun x c e=>hx x c e,fun p h=>hp p (by simpa using h)⟩
  have loop:∀ s4:Shared,s4 = { s2 with heap:=h1,toks:=s2.toks + ([]:List (Str × Value)).length } ->
      codeAny (model X.prog X.w) X.A (.compLoop (.ListComp elt [⟨tg,iter,ifs,0⟩] scope pos) 0 (.ref it) (.ref D) (compEnvC scope (qd X.env.cells scope.names []) C X.env))
        (compPost (model X.prog X.w) X.A X.xe none (EP X pins σ Q) (.ref D) C) s4:=by
    intro s4 e4
    refine wu (fun n s'=>∃ i ys its H',∃ z:Nat,Inv (zS X (own ++ fr) scope C { s2 with heap:=h3 } H2 (D :: fp)) [] (upS own.length js σ) H' s' /\ tn i s'.heap /\ (∀ b ∈ fp,H' b = none) /\ H' D = none /\
      s'.heap.get? D = some { cls:=.type "list",data:=.seq (its:List Value).toArray z } /\ Vals ys its /\ W i n ys H') ?_ m0 ?_
    · rintro n s5 ⟨i,ys,its,H5,z5,I5,st5,fr5,hD5,ho5,rv5,w5⟩
      have I5':=I5.pinned (fp:=[D]) (fun b hb=>by rw [List.mem_singleton.mp hb];exact fpD hD5 (fun p hp=>absurd hp (by simp))) (fun b hb=>by
        rw [List.mem_singleton.mp hb];exact ⟨_,ho5,fun v q=>nomatch q⟩)
      have pD:∀ p ∈ [] ++ zG [D] s5.heap,p.1 = D:=fun p hp=>by
        rw [List.nil_append] at hp
        exact List.mem_singleton.mp (j3 hp).1
      have mD:(D,({ cls:=.type "list",data:=.seq its.toArray z5 }:Obj)) ∈ [] ++ zG [D] s5.heap:=by
        rw [List.nil_append];exact qo (List.mem_singleton.mpr rfl) ho5
      have fp5:∀ {H':Hp},(∀ b ∈ fp,H' b = none) -> ∀ b ∈ fp,qT (zS X (own ++ fr) scope C { s2 with heap:=h3 } H2 (D :: fp)) ([] ++ zG [D] s5.heap) H' b:=fun hn b hb=>fpB hb (hn b hb) fun p hp=>by
        rw [pD p hp];exact fD b hb
      rcases turn i n ys H5 w5 with ⟨stop,hlen,q⟩ | ⟨go,N,hN,step⟩
      · refine thn (T.done (zS X (own ++ fr) scope C { s2 with heap:=h3 } H2 (D :: fp)) rfl rfl rfl hc i _ s5 _ H5 _ I5' (fp5 fr5) st5 stop) fun r s6 ⟨hr,I6⟩=>?_
        subst hr
        obtain ⟨m6,hn6,_⟩:=I6.loc
        refine ⟨m6,hn6,fun h7 hs7=>?_⟩
        obtain ⟨o6,nD6,_⟩:=I6.pin (D,_) (List.mem_append_right _ mD)
        have k7:∀ b o,b ≠ C -> s6.heap.get? b = some o -> h7.get? b = some o:=fun b o hb e=>hs7.extBut b o hb e
        refine ⟨.ref D,upd H5 D (.lst ys),?_,rfl,q D nD6⟩
        refine I3.call' (s':={ s6 with heap:=h7 }) (ch:=D :: fp) I6.os (xr (Qo I6.base (Nat.le_of_eq eC) k7) List.mem_cons_self (I2.hok.fresh ?_)) (j4 (y9 I6.hok I6.free k7) nD6 ⟨hlen,its,z5,rv5,k7 D _ hDl o6⟩) I6.bare fun b hb=>?_
        · rw [<- eD];exact Nat.le_refl _
        · rcases List.mem_cons.mp hb with y | hb
          · subst y
            refine ⟨.inr (by rw [<- eD];exact I2.sz),by rw [<- eD];exact Nat.ne_of_gt I2.lt,fun x c e=>?_,fun p hp=>?_⟩
            · obtain ⟨v,q⟩:=I2.cell x c e
              rw [<- eD];exact Nat.ne_of_lt q.lt
            · rw [<- eD];exact Nat.ne_of_lt (Heap.lt_size (I2.pin p hp).1)
          · obtain ⟨_,g1,_,g3,g4,g5⟩:=f2 b hb
            exact ⟨g3,g1,g4,g5⟩
      · refine thn (T.item (zS X (own ++ fr) scope C { s2 with heap:=h3 } H2 (D :: fp)) rfl rfl rfl hc i _ s5 _ H5 _ I5' (fp5 fr5) st5 go) fun r s6 ⟨u,hr,h6⟩=>?_
        subst hr
        refine thn h6 fun _ s7 ⟨x,H7,I7,r7,y7,st7,fr7⟩=>?_
        have I7':=I7.pinned (fp5 fr7) (T.obj _ _ st7)
        refine thn (hg _ _ _ _ _ s7 _ H7 x u _ I7' r7 (step x H7 y7)) fun _ s8 ⟨σ8,H8,I8,hd8,q8⟩=>?_
        refine thn (hf _ _ _ _ _ s8 σ8 H8 _ I8 q8) fun ok s9 ⟨H9,I9,q9⟩=>?_
        have weak:∀ {H':Hp} {s':Shared},Inv (zS X (own ++ fr) scope C { s2 with heap:=h3 } H2 (D :: fp)) (([] ++ zG [D] s5.heap) ++ zG fp s7.heap) σ8 H' s' ->
            Inv (zS X (own ++ fr) scope C { s2 with heap:=h3 } H2 (D :: fp)) [] (upS own.length js σ) H' s':=fun {H' s'} J=>by
          refine (J.unpinned).unpinned.weak (I5.len.trans J.len.symm) fun k v e=>?_
          obtain ⟨hn,e1,_⟩:=jL e
          rw [<- hd8,List.getElem?_drop] at e1
          rw [<- e1]
          congr 1
          omega
        have mF:∀ b ∈ fp,∀ o,s7.heap.get? b = some o -> (b,o) ∈ ([] ++ zG [D] s5.heap) ++ zG fp s7.heap:=fun b hb o e=>List.mem_append_right _ (qo hb e)
        have mD':=List.mem_append_left (zG fp s7.heap) mD
        have frB:∀ {H':Hp} {s':Shared},Inv (zS X (own ++ fr) scope C { s2 with heap:=h3 } H2 (D :: fp)) (([] ++ zG [D] s5.heap) ++ zG fp s7.heap) σ8 H' s' -> ∀ b ∈ fp,H' b = none:=fun {H' s'} J b hb=>by
          obtain ⟨o,e,_⟩:=T.obj _ _ st7 b hb
          exact (J.pin (b,o) (List.mem_append_right _ (mF b hb o e))).2.1
        cases ok with
        | false=>
          have q9':N ys H9:=by simpa using q9
          obtain ⟨m',hm,w'⟩:=hN _ _ q9'
          obtain ⟨o9,nD9,_⟩:=I9.pin (D,_) (List.mem_append_right _ mD')
          exact ⟨m',hm,i + 1,ys,its,H9,z5,weak I9,T.keep _ _ _ st7 fun b hb o e=>(I9.pin (b,o) (List.mem_append_right _ (mF b hb o e))).1,frB I9,nD9,o9,rv5,w'⟩
        | true=>
          have q9':te σ8 H9 fun y H6=>ys.length < sizeLine /\ N (ys ++ [y]) H6:=by simpa using q9
          refine thn (he _ _ _ _ _ s9 σ8 H9 _ I9 q9') fun yv s10 ⟨y,H10,I10,r10,hlt,w10⟩=>?_
          obtain ⟨m',hm,w'⟩:=hN _ _ w10
          obtain ⟨o10,nD10,_⟩:=I10.pin (D,_) (List.mem_append_right _ mD')
          refine wpAny_list_append_plain (l:=D) (items:=its.toArray) (hsz:=by rw [List.size_toArray,<- rv5.length];exact Nat.le_of_lt hlt) ⟨_,o10⟩ fun h11 hl11 hs11=>?_
          obtain ⟨z11,e11⟩:=hl11
          refine ⟨m',hm,i + 1,ys ++ [y],its ++ [yv],H10,z11,?_,T.keep _ _ _ st7 fun b hb o e=>hs11.extBut b o (Ne.symm (fD b hb)) (I10.pin (b,o) (List.mem_append_right _ (mF b hb o e))).1,frB I10,nD10,?_,rv5.append (.cons r10 .nil),w'⟩
          · exact (weak I10).turned (t':=s10.toks) (it:=D) (fun b o hb e=>hs11.extBut b o hb e) nD10 hDl (.inl List.mem_cons_self) (fun x c e=>hx x c e) fun p hp=>absurd (show p ∈ ([]:List (Addr × Obj)) from hp) (by simp)
          · rw [e11];simp
    · subst e4
      exact ⟨0,[],[],H2,0,I4,T.keep _ _ _ st2 fun b hb o e=>k4 b o (k3 b o e),fun b hb=>(f2 b hb).1,I2.hok.fresh (by rw [<- eD];exact Nat.le_refl _),hacc,.nil,w0⟩
  exact codeAny_compStart_list (loop _ rfl) (T.self X.A 0 _ _ _ (T.keep _ _ _ st2 fun b hb o e=>k4 b o (k3 b o e)) (loop _ rfl))
end
section
variable {X:Cx} {pins:List (Addr × Obj)} {σ:St} {H:Hp} {s:Shared}
theorem y6 {ch:List Addr} {h':Heap} {t':Nat} {T:Addr} {ys:List V} {its:List Value} (I:Inv X pins σ H s) (hf:∀ b ∈ ch,qT X pins H b) (hT:s.heap.objs.size <= T)
    (k:∀ b o,b ∉ ch -> s.heap.get? b = some o -> h'.get? b = some o) (hl:ys.length <= sizeLine) (rv:Vals ys its) (ht:TupX h' T its.toArray) :
    Inv X pins σ (upd H T (.tup ys)) { s with heap:=h',toks:=t' }:=by
  have hn:H T = none:=I.hok.fresh hT
  have ne:∀ b o,s.heap.get? b = some o -> b ≠ T:=fun b o e=>Nat.ne_of_lt (Nat.lt_of_lt_of_le (Heap.lt_size e) hT)
  have tr:∀ b u,H b = some u -> b ∉ ch:=fun b u e hb=>by rw [(hf b hb).1] at e;cases e
  refine I.step (g':=s.gens) (d':=s.drawn) (ch:=ch) (fun b hb=>?_) (fun b o _ _ hc e _=>k b o hc e) (fun b o _ _ hc e _=>⟨o.slots,k b o hc e⟩) (fun b o _ e n=>by rw [zu (ne b o e)];exact n) (fun b o hc e=>⟨o,k b o hc e⟩)
    (fun b xs e=>by rw [zu (zj e hn)];exact e) (fun b o u e=>by rw [zu (zj e hn)];exact e) (fun b ps e=>⟨#[],by rw [zu (zj e hn),e];simp⟩) (fun m hm=>?_) (fun b u e=>?_) I.bare
  · obtain ⟨_,g1,_,g3,g4,g5⟩:=hf b hb
    exact ⟨g3,g1,g4,g5⟩
  · obtain ⟨o,es,ep,ho,r⟩:=hm
    exact ⟨o,es,ep,k _ o (fun z=>(hf _ z).2.1 rfl) ho,r⟩
  · by_cases hb:b = T
    · subst hb
      rw [zf] at e
      cases e
      exact ⟨hl,its,rv,ht⟩
    · rw [zu hb] at e
      refine (I.hok b u e).stay (fun c v hc q=>k c v ?_ q) (fun c q=>by rw [zu (zj q hn)];exact q) fun c xs q=>by rw [zu (zj q hn)];exact q
      rcases hc with z | z
      · rw [z];exact tr b u e
      · exact tr c _ z
end
def Ite (K:PySem.W.Frag) (a:Addr):It:=
  ⟨fun i H=>∃ xs x,SqL K H a xs /\ xs[i]? = some x,fun i H x H'=>∃ T y,x = .ref T /\ H T = none /\ H' = upd H T (.tup [.int i,y]) /\ ∀ xs,SqL K H a xs -> xs[i]? = some y,fun i H=>∃ xs,SqL K H a xs /\ xs.length <= i⟩
theorem Xy {P:Program} {w:World} {K:PySem.W.Frag} {elts:List Expr} {kk:Nat} {pos:Pos} (a e it:Addr) (hne:e ≠ it) :
    WH P w K (.Tuple elts kk pos) (Ite K a) [e,it] e (fun i h=>(∃ old,IsEnum h e it i old) /\ h.IsListIter it a i) where
  mem:=by simp
  obj:=fun i h st b hb=>by
    obtain ⟨⟨old,he⟩,⟨o,ho,c,d⟩⟩:=st
    rcases List.mem_cons.mp hb with z | z
    · subst z;exact ⟨_,he,fun v q=>nomatch q⟩
    · rw [List.mem_singleton.mp z];exact ⟨o,ho,fun v q=>by rw [d] at q;cases q⟩
  keep:=fun i h h' st k=>by
    obtain ⟨⟨old,he⟩,hi⟩:=st
    exact ⟨⟨old,k e (by simp) _ he⟩,hi.at fun o q=>k it (by simp) o q⟩
  item:=by
    intro X hP hw hK hc i pins s σ H E I hf st hg
    subst hP hw hK
    obtain ⟨⟨old,he⟩,hit⟩:=st
    obtain ⟨xs,x,hq,hx⟩:=hg
    obtain ⟨its,rv,p,hz⟩:=I.list hq
    obtain ⟨u,hu,ru⟩:=rv.get hx
    have hl:=p.isList
    have hai:a ≠ it:=fun z=>by
      obtain ⟨o,e1,c1,_⟩:=hl
      obtain ⟨o',e2,c2,_⟩:=hit
      rw [z,e2] at e1;cases e1;rw [c2] at c1;exact absurd (Value.type.inj c1) (by decide)
    have hae:e ≠ a:=fun z=>by
      obtain ⟨o,e1,c1,_⟩:=hl
      rw [<- z,he] at e1;cases e1;exact absurd (Value.type.inj c1) (by decide)
    have D:=Draws.list (prog:=X.prog) (w:=X.w) (A:=X.A.in1) (I.ok.hd hc) it a hai its.toArray
    have hi:i < its.toArray.size:=by
      have h1:=(List.getElem?_eq_some_iff.mp hu).1
      simpa using h1
    refine wpAny_pyNext_enum_itemD D he ⟨hit,hl⟩ hi hne (by simp [hne,hae]) fun x' h' tk hP' hout hst' hT hsz hk=>?_
    have ex:x' = u:=by
      have h2:its[i]? = some x':=by simpa using hP'
      rw [hu] at h2;exact (Option.some.inj h2).symm
    subst ex
    refine ⟨_,rfl,wpAny_letOwnedTupleGo_enum hout fun h2 he2 hs2=>?_⟩
    have eT:s.heap.objs.size ≠ e:=Nat.ne_of_gt (Heap.lt_size he)
    have k2:∀ b o,b ∉ [e,it] -> s.heap.get? b = some o -> h2.get? b = some o:=fun b o hb q=>by
      have n1:b ≠ e:=fun z=>hb (by simp [z])
      have n2:b ≠ it:=fun z=>hb (by simp [z])
      exact (hs2.2 b n1).trans (hk b o n1 n2 q)
    have it2:h2.IsListIter it a (i + 1):=hst'.1.extBut hs2.extBut (Ne.symm hne)
    refine ⟨.ref s.heap.objs.size,upd H s.heap.objs.size (.tup [.int i,x]),?_,rfl,⟨_,x,rfl,I.hok.fresh (Nat.le_refl _),rfl,fun ys hy=>by rw [I.list_inj hy hq];exact hx⟩,⟨⟨_,by simpa using he2⟩,it2⟩,fun b hb=>?_⟩
    · refine y6 (s:=s) (h':=h2) (t':=tk + 1) (its:=[.int i tk,x']) I hf (Nat.le_refl _) k2 (by rw [sizeLine_eq];exact (by decide:2 <= 16777216)) (.cons ⟨tk,rfl⟩ (.cons ru .nil)) (TupX.by ((hs2.2 _ eT).trans hT))
    · have hb':b < s.heap.objs.size:=by
        rcases List.mem_cons.mp hb with z | z
        · rw [z];exact Heap.lt_size he
        · rw [List.mem_singleton.mp z]
          obtain ⟨o',e',_⟩:=hit
          exact Heap.lt_size e'
      rw [zu (Nat.ne_of_lt hb')]
      exact (hf b hb).1
  done:=by
    intro X hP hw hK hc i pins s σ H E I hf st hg
    subst hP hw hK
    obtain ⟨⟨old,he⟩,hit⟩:=st
    obtain ⟨xs,hq,hx⟩:=hg
    obtain ⟨its,rv,p,hz⟩:=I.list hq
    have hl:=p.isList
    have hai:a ≠ it:=fun z=>by
      obtain ⟨o,e1,c1,_⟩:=hl
      obtain ⟨o',e2,c2,_⟩:=hit
      rw [z,e2] at e1;cases e1;rw [c2] at c1;exact absurd (Value.type.inj c1) (by decide)
    obtain ⟨f0,f1,f2,f3,f4,f5⟩:=hf it (by simp)
    have hle:its.toArray.size <= i:=by
      have:=rv.length
      simp only [List.size_toArray];omega
    have hT:s.TypeIs (.ref e) "enumerate" :=⟨_,he,rfl⟩
    unfold pyNext
    refine wpAny_bind (wpAny_attempt (wpAny_callSpecial?_slot (name:=Str.ofString "__next__") hT F.slot_enumerate_next (wpAny_call_entry F.slot_enumerate_next hT F.entry_enumerate_next ?_ (F.args_enumerate_next_1 _))))
    show wpAny _ _ (field (.ref e) 2 >>= _) _ _ _
    refine wpAny_bind (wpAny_field he rfl (x:=.ref it) rfl (wpAny_bind (wpAny_nextOf_list_end (I.ok.hd hc) hit hl (by simpa using hle) fun h' x he' hx'=>?_)))
    obtain ⟨o,ho,hc'⟩:=hx'
    refine wpAny_bind (wpAny_isInstance (T:= "StopIteration") (b:=true) ⟨o,ho,hc'⟩ isSubtype_stop ?_)
    exact wpAny_pure ⟨rfl,I.turned (t':=s.toks) (fun b o hb q=>he' b o hb q) f0 f1 f3 f4 f5⟩
  self:=fun _ _ _ _ _ st h=>let ⟨⟨_,he⟩,_⟩:=st;wpAny_pyIter_enum he h
section
variable {X:Cx}
def zbm (K:PySem.W.Frag) (ta:TA):TI:=fun σ H R=>ta σ H fun vs H1=>∃ a,vs = [.ref a] /\ (∃ xs,SqL K H1 a xs) /\ R (Ite K a) H1
theorem yP {l:Expr} {ta:TA} {p pos tp:Pos} {elts:List Expr} {kk:Nat} (hg:Gl X "enumerate") (hm:X.mg "enumerate" = none) (ha:PA X [l] ta) (hs:starEach [l] X.env = [(false,eval l X.env)]:=by rfl) :
    PI X (.Tuple elts kk tp) (.Call (.Name "enumerate" p) [l] [] pos) (zbm X.K ta):=by
  intro pins s σ H R I h
  refine Call_ (qZ I hg hm boot_enumerate (PyProof.Rows.callWith_type1 (thn (ha pos pins s σ H _ I h) fun us s1 ⟨vs,H1,I1,r1,q1⟩=>?_) hs rfl))
  obtain ⟨a,e,⟨xs,hq⟩,q⟩:=q1
  subst e
  obtain ⟨u,rfl,ru⟩:=jK r1
  cases ru
  obtain ⟨its,rv,pl,hz⟩:=I1.list hq
  refine call_enumerate_list pl.isList fun h' he hi hsz hk=>wpAny_pyIter_enum he ?_
  have I2:Inv X pins σ H1 { s1 with heap:=h' }:=I1.kept (t':=s1.toks) hk
  refine ⟨s1.heap.objs.size + 1,[s1.heap.objs.size + 1,s1.heap.objs.size],_,_,H1,rfl,I2,Xy a _ _ (Nat.succ_ne_self _),⟨⟨_,he⟩,hi⟩,fun b hb=>?_,q⟩
  have hb':s1.heap.objs.size <= b:=by
    rcases List.mem_cons.mp hb with z | z
    · rw [z];exact Nat.le_succ _
    · rw [List.mem_singleton.mp z];exact Nat.le_refl _
  exact I1.fpOk hb' (I1.hok.fresh hb')
theorem Z3 {K:PySem.W.Frag} {a:Addr} {xs:List V} {g:TG} {tb:TS} {D:Zn} {σ:St} {H:Hp} (Pv:Nat -> St -> Hp -> Prop) (h0:Pv 0 σ H) (hl:∀ i σ H,i <= xs.length -> Pv i σ H -> SqL K H a xs)
    (hs:∀ i x σ H T,xs[i]? = some x -> Pv i σ H -> H T = none -> g (.ref T) σ (upd H T (.tup [.int i,x])) fun σ2 H2=>tb { D with nx:=Pv (i + 1),ct:=Pv (i + 1),bk:=D.nx } σ2 H2) (hd:∀ σ H,Pv xs.length σ H -> D.nx σ H) :
    ∃ W:Nat -> Nat -> St -> Hp -> Prop,(∃ m,W 0 m σ H) /\ ∀ i m σ H,W i m σ H ->
      ((Ite K a).stop i H /\ D.nx σ H) \/ ((Ite K a).go i H /\ ∃ N:St -> Hp -> Prop,(∀ σ' H',N σ' H' -> ∃ m',m' < m /\ W (i + 1) m' σ' H') /\ ∀ x H',(Ite K a).yld i H x H' -> g x σ H' fun σ2 H2=>tb { D with nx:=N,ct:=N,bk:=D.nx } σ2 H2):=by
  refine ⟨fun i m σ H=>m = xs.length - i /\ i <= xs.length /\ Pv i σ H,⟨xs.length,by simp,Nat.zero_le _,h0⟩,?_⟩
  rintro i m σ H ⟨rfl,hi,p⟩
  have q:=hl i σ H hi p
  by_cases hlt:i < xs.length
  · refine .inr ⟨⟨xs,xs[i],q,by simp [hlt]⟩,Pv (i + 1),fun σ' H' p'=>⟨xs.length - (i + 1),by omega,rfl,hlt,p'⟩,fun x H' y=>?_⟩
    obtain ⟨T,z,e1,hT,e2,y⟩:=y
    subst e1 e2
    exact hs i z σ H T (y xs q) p hT
  · have e:i = xs.length:=by omega
    subst e
    exact .inl ⟨⟨xs,q,Nat.le_refl _⟩,hd σ H p⟩
end
section
variable {X:Cx}
inductive jY (K:PySem.W.Frag) (xs:List V) (H:Hp) (Q:VK):Prop
  | mk (p:Addr) (bs:List Bool) (_:xs = [.ref p]) (_:SqL K H p (bs.map V.bl)) (_:Q (.bl (bs.all id)) H):jY K xs H Q
theorem j6 (hc:X.calm = true):qD X (.builtin "all") (jY X.K):=by
  intro pins s σ H xs us Q I r h
  obtain ⟨p,bs,rfl,hq,q⟩:=h
  obtain ⟨u,rfl,ru⟩:=jK r
  cases ru
  obtain ⟨its,rv,pl,hz⟩:=I.list hq
  have hl:=pl.isList
  have hpl:p ≠ s.heap.objs.size:=by
    obtain ⟨o,e,_⟩:=hl
    exact Nat.ne_of_lt (Heap.lt_size e)
  refine call_all_walk (wpAny_pyIter_list hl ?_)
  refine ⟨s.heap.objs.size,_,_,_,_,_,fun i=>bs.getD i true,rfl,Walks.list (prog:=X.prog) (w:=X.w) (A:=X.A.in1) (I.ok.hd hc) _ p hpl its.toArray,⟨⟨_,Heap.get?_push_size _ rfl,rfl,rfl⟩,hl.push _⟩,?_,fun h' tk hk=>?_⟩
  · intro i v s' Q' E' hP hQ
    have hP:its.toArray[i]? = some v:=hP
    have e1:its[i]? = some v:=by simpa using hP
    have hi:i < bs.length:=by
      have h1:=(List.getElem?_eq_some_iff.mp e1).1
      have h2:=rv.length
      rw [List.length_map] at h2
      omega
    have e2:(bs.map V.bl)[i]? = some (.bl bs[i]):=by simp [hi]
    obtain ⟨u',eu,ru⟩:=rv.get e2
    rw [e1] at eu
    cases eu
    cases ru
    have e3:bs.getD i true = bs[i]:=by simp [hi]
    have hQ2:Q' (bs.getD i true) s':=hQ
    rw [e3] at hQ2
    exact wpAny_truthy_bool hQ2
  · have k:∀ b o,s.heap.get? b = some o -> h'.get? b = some o:=fun b o e=>hk b o (by simp;exact Nat.ne_of_lt (Heap.lt_size e)) (Heap.get?_push_of_some _ e)
    have ea:(List.range its.toArray.size).all (fun i=>bs.getD i true) = bs.all id:=by
      have hlen:its.toArray.size = bs.length:=by
        have:=rv.length
        rw [List.length_map] at this
        simp only [List.size_toArray];omega
      rw [hlen,Bool.eq_iff_iff,List.all_eq_true,List.all_eq_true]
      constructor
      · intro h b hb
        obtain ⟨i,hi,rfl⟩:=List.mem_iff_getElem.mp hb
        have:=h i (List.mem_range.mpr hi)
        simpa [hi] using this
      · intro h i hi
        have hi:=List.mem_range.mp hi
        have:=h bs[i] (List.getElem_mem hi)
        simpa [hi] using this
    exact ⟨.bl (bs.all id),H,I.kept k,by rw [ea];rfl,q⟩
end
def SqK (K:PySem.W.Frag) (kd:Bool) (H:Hp) (a:Addr) (xs:List V):Prop:=match kd with
  | true=>SqL K H a xs
  | false=>SqT K H a xs
def SeqK (kd:Bool) (h:Heap) (a:Addr) (its:Array Value):Prop:=match kd with
  | true=>h.IsList a its
  | false=>h.IsTuple a its
def ItrK (kd:Bool) (h:Heap) (it a:Addr) (i:Nat):Prop:=match kd with
  | true=>h.IsListIter it a i
  | false=>h.IsTupleIter it a i
theorem SeqK.at {kd:Bool} {h h':Heap} {a:Addr} {its:Array Value} (x:SeqK kd h a its) (k:∀ o,h.get? a = some o -> h'.get? a = some o):SeqK kd h' a its:=by
  cases kd with
  | true=>exact Heap.IsList.at x k
  | false=>obtain ⟨o,e,r⟩:=(show h.IsTuple a its from x);exact ⟨o,k o e,r⟩
theorem ItrK.at {kd:Bool} {h h':Heap} {it a:Addr} {i:Nat} (x:ItrK kd h it a i) (k:∀ o,h.get? it = some o -> h'.get? it = some o):ItrK kd h' it a i:=by
  cases kd with
  | true=>exact Heap.IsListIter.at x k
  | false=>obtain ⟨o,e,r⟩:=(show h.IsTupleIter it a i from x);exact ⟨o,k o e,r⟩
theorem ItrK.obj {kd:Bool} {h:Heap} {it a:Addr} {i:Nat} (x:ItrK kd h it a i):∃ o,h.get? it = some o /\ (o.cls = .type "list_iterator" \/ o.cls = .type "tuple_iterator") /\ ∀ v,o.data ≠ .cell v:=by
  cases kd with
  | true=>obtain ⟨o,e,c,d⟩:=(show h.IsListIter it a i from x);exact ⟨o,e,.inl c,fun v q=>by rw [d] at q;cases q⟩
  | false=>obtain ⟨o,e,c,d⟩:=(show h.IsTupleIter it a i from x);exact ⟨o,e,.inr c,fun v q=>by rw [d] at q;cases q⟩
theorem SeqK.cls {kd:Bool} {h:Heap} {a:Addr} {its:Array Value} (x:SeqK kd h a its):∃ o,h.get? a = some o /\ (o.cls = .type "list" \/ o.cls = .type "tuple") /\ ∃ n,o.data = .seq its n:=by
  cases kd with
  | true=>obtain ⟨o,e,c,n,d⟩:=(show h.IsList a its from x);exact ⟨o,e,.inl c,n,d⟩
  | false=>obtain ⟨o,e,c,n,d⟩:=(show h.IsTuple a its from x);exact ⟨o,e,.inr c,n,d⟩
section
variable {prog:Program} {w:World} {A:Around} {E:Value -> Shared -> Prop} {s:Shared}
theorem qG {kd:Bool} {it a:Addr} {i:Nat} {its:Array Value} {x:Value} {Q:Value -> Shared -> Prop} (hi:ItrK kd s.heap it a i) (hl:SeqK kd s.heap a its) (hx:its[i]? = some x)
    (hQ:∀ h',ItrK kd h' it a (i + 1) -> Heap.SameBut it s.heap h' -> Q x { s with heap:=h' }):wpAny (model prog w) A (Builtin.SmallTypes.nextOf (.ref it)) Q E s:=by
  cases kd with
  | true=>exact wpAny_nextOf_list_item hi hl hx hQ
  | false=>
    have hi':s.heap.IsTupleIter it a i:=hi
    obtain ⟨o,ho,hc,hd⟩:=id hi'
    obtain ⟨ol,hol,_,nl,hdl⟩:=(show s.heap.IsTuple a its from hl)
    unfold Builtin.SmallTypes.nextOf;refine wpAny_bind (wpAny_callSpecial?_slot (name:=Str.ofString "__next__") hi'.typeIs F.slot_tuple_iterator_next (wpAny_call_entry F.slot_tuple_iterator_next hi'.typeIs F.entry_tuple_iterator_next ?_ (F.args_tuple_iterator_next_1 _)))
    show wpAny _ _ (field (.ref it) 0 >>= _) _ _ _;refine wpAny_bind (wpAny_field ho hd (x:=.ref a) rfl ?_)
    show wpAny _ _ (if (Value.ref a == Value.none) = true then _ else _) _ _ _;rw [if_neg (show ¬ ((Value.ref a == Value.none) = true) from Bool.false_ne_true)]
    show wpAny _ _ (field (.ref it) 1 >>= _) _ _ _;refine wpAny_bind (wpAny_field ho hd (x:=.int i 0) rfl ?_)
    show wpAny _ _ (seqItems? (.ref a) >>= _) _ _ _;refine wpAny_bind (wpAny_seqItems hol hdl ?_);simp only [Int.toNat_natCast,hx]
    refine wpAny_bind (wpAny_setField ho hd (by simp) (wpAny_pure ⟨x,rfl,wpAny_pure (hQ _ (show Heap.IsTupleIter _ _ _ _ from ?_) (Heap.SameBut.update ..))⟩))
    refine ⟨_,Heap.get?_update_self _ ho (Obj.isFreed_of_fields (Obj.data_mapFields hd _)),(Obj.cls_mapFields ..).trans hc,?_⟩;rw [Obj.data_mapFields hd];simp [rawInt]
theorem jx {kd:Bool} {it a:Addr} {i:Nat} {its:Array Value} {Q:Value -> Shared -> Prop} (hh:A.handled = none) (hi:ItrK kd s.heap it a i) (hl:SeqK kd s.heap a its) (hx:its[i]? = none)
    (hE:∀ h' e,Heap.ExtBut it s.heap h' -> (∃ o,h'.get? e = some o /\ o.cls = .type "StopIteration") -> E (.ref e) { s with heap:=h' }):wpAny (model prog w) A (Builtin.SmallTypes.nextOf (.ref it)) Q E s:=by
  cases kd with
  | true=>exact wpAny_nextOf_list_end hh hi hl hx hE
  | false=>
    have hi':s.heap.IsTupleIter it a i:=hi
    obtain ⟨o,ho,hc,hd⟩:=id hi'
    obtain ⟨ol,hol,_,nl,hdl⟩:=(show s.heap.IsTuple a its from hl)
    unfold Builtin.SmallTypes.nextOf;refine wpAny_bind (wpAny_callSpecial?_slot (name:=Str.ofString "__next__") hi'.typeIs F.slot_tuple_iterator_next (wpAny_call_entry F.slot_tuple_iterator_next hi'.typeIs F.entry_tuple_iterator_next ?_ (F.args_tuple_iterator_next_1 _)))
    show wpAny _ _ (field (.ref it) 0 >>= _) _ _ _;refine wpAny_bind (wpAny_field ho hd (x:=.ref a) rfl ?_)
    show wpAny _ _ (if (Value.ref a == Value.none) = true then _ else _) _ _ _;rw [if_neg (show ¬ ((Value.ref a == Value.none) = true) from Bool.false_ne_true)]
    show wpAny _ _ (field (.ref it) 1 >>= _) _ _ _;refine wpAny_bind (wpAny_field ho hd (x:=.int i 0) rfl ?_)
    show wpAny _ _ (seqItems? (.ref a) >>= _) _ _ _;refine wpAny_bind (wpAny_seqItems hol hdl ?_);simp only [Int.toNat_natCast,hx]
    refine wpAny_bind (wpAny_rule (wpAny_bind (wpAny_setField ho hd (by simp) ?_)));show wpAny _ _ (newExc (.type "StopIteration") [] >>= _) _ _ _
    refine wpAny_bind ?_;simp only [newExc,newTuple];refine wpAny_bind (wpAny_newObj_type ?_ (by size_fits))
    refine wpAny_bind (m:=firstArgMember _ _) (wpAny_of_eq (a:=Value.none) (by first | rfl | (simp only [firstArgMember];rfl)) (wpAny_newObj_type ?_ (by size_fits)))
    simp only [raiseNew];refine wpAny_bind (wpAny_handled ?_);first | rw [show A.in1.handled = none from hh] | rw [hh]
    exact wpAny_bind (wpAny_pure (wpAny_throw (hE _ _ (((Heap.SameBut.update ..).extBut.push _).push _) ⟨_,Heap.get?_push_size _ rfl,rfl⟩)))
structure xJ (k1 k2:Bool) (h:Heap) (z TI TO i1 i2 a1 a2:Addr) (i:Nat):Prop where
  zz:IsZip h z TI TO .none
  ti:IsPair h TI (.ref i1) (.ref i2)
  to:∃ a b,IsPair h TO a b
  r1:ItrK k1 h i1 a1 i
  r2:ItrK k2 h i2 a2 i
structure xI (z TI TO i1 i2:Addr):Prop where
  a:TI ≠ z
  b:TO ≠ z
  c:i1 ≠ z
  d:i2 ≠ z
  e:TI ≠ TO
  f:TI ≠ i1
  g:TI ≠ i2
  h:TO ≠ i1
  i:TO ≠ i2
  j:i1 ≠ i2
end
section
variable {prog:Program} {w:World} {A:Around} {E:Value -> Shared -> Prop} {s:Shared}
theorem wK {k1 k2:Bool} {z TI TO i1 i2 a1 a2:Addr} {i:Nat} {xs ys:Array Value} {x y:Value} {Q:Option Value -> Shared -> Prop} (N:xI z TI TO i1 i2) (Z:xJ k1 k2 s.heap z TI TO i1 i2 a1 a2 i)
    (l1:SeqK k1 s.heap a1 xs) (l2:SeqK k2 s.heap a2 ys) (m1:∀ b ∈ [z,TO,i1,i2],a1 ≠ b) (m2:∀ b ∈ [z,TO,i1,i2],a2 ≠ b) (hx:xs[i]? = some x) (hy:ys[i]? = some y)
    (hQ:∀ h',IsZip h' z TI TO (rawInt s.heap.objs.size) -> IsPair h' TI (.ref i1) (.ref i2) -> (∃ a b,IsPair h' TO a b) -> ItrK k1 h' i1 a1 (i + 1) -> ItrK k2 h' i2 a2 (i + 1) -> IsPair h' s.heap.objs.size x y -> h'.objs.size = s.heap.objs.size + 1 ->
      (∀ c o,c ∉ [z,TO,i1,i2] -> s.heap.get? c = some o -> h'.get? c = some o) -> Q (some (.ref s.heap.objs.size)) { s with heap:=h' }):wpAny (model prog w) A (pyNext (.ref z)) Q E s:=by
  obtain ⟨hz,hTI,⟨a,b,hTO⟩,h1,h2⟩:=Z
  have hT:s.TypeIs (.ref z) "zip" :=⟨_,hz,rfl⟩
  unfold pyNext;refine wpAny_bind (wpAny_attempt (wpAny_callSpecial?_slot (name:=Str.ofString "__next__") hT F.slot_zip_next (wpAny_call_entry F.slot_zip_next hT F.entry_zip_next ?_ (F.args_zip_next_1 _))))
  show wpAny _ _ (field (.ref z) 2 >>= _) _ _ _;refine wpAny_bind (wpAny_field hz rfl (x:=.bool false) rfl ?_)
  show wpAny _ _ (field (.ref z) 3 >>= _) _ _ _;refine wpAny_bind (wpAny_field hz rfl (x:=.ref TI) rfl (wpAny_bind (wpAny_seqItems hTI rfl ?_)))
  show wpAny _ _ (Builtin.SmallTypes.ownedTupleIsFree (.ref z) >>= _) _ _ _;refine wpAny_bind ?_
  unfold Builtin.SmallTypes.ownedTupleIsFree;refine wpAny_bind (wpAny_field hz rfl (x:=.none) rfl (wpAny_pure ?_));simp only [if_true]
  refine wpAny_bind (wpAny_rule (wpAny_bind (wpAny_field hz rfl (x:=.ref TO) rfl (wpAny_bind (wpAny_setField_rec hz (by simp) fun g1 hz1 hs1=>?_)))))
  replace hz1:IsZip g1 z TI TO .ellipsis:=hz1
  refine wpAny_bind ?_;simp only [List.zipIdx_cons,List.zipIdx_nil,List.forIn_cons,List.forIn_nil]
  refine wpAny_bind (wpAny_bind (wpAny_onRaise ?_));show wpAny _ _ (Builtin.SmallTypes.nextOf (.ref i1) >>= _) _ _ _
  refine wpAny_bind (qG (h1.at fun o e=>hs1.extBut _ o N.c e) (l1.at fun o e=>hs1.extBut _ o (m1 z (by simp)) e) hx fun g2 h12 hs2=>wpAny_pure ?_)
  have hTO2:IsPair g2 TO a b:=hs2.extBut _ _ N.h (hs1.extBut _ _ N.b hTO)
  refine wpAny_bind (wpAny_seqItems hTO2 rfl (wpAny_bind (wpAny_updateSeq_pair hTO2 fun g3 hTO3 hs3=>?_)))
  replace hTO3:IsPair g3 TO x b:=hTO3
  refine wpAny_bind (wpAny_letGo (wpAny_pure ?_));refine wpAny_bind (wpAny_bind (wpAny_onRaise ?_));show wpAny _ _ (Builtin.SmallTypes.nextOf (.ref i2) >>= _) _ _ _
  have c23:∀ c o,c ∉ [z,TO,i1] -> s.heap.get? c = some o -> g3.get? c = some o:=fun c o hc e=>hs3.extBut _ o (fun q=>hc (by simp [q])) (hs2.extBut _ o (fun q=>hc (by simp [q])) (hs1.extBut _ o (fun q=>hc (by simp [q])) e))
  refine wpAny_bind (qG (h2.at fun o e=>c23 _ o (by simp [N.d,Ne.symm N.i,Ne.symm N.j]) e) (l2.at fun o e=>c23 _ o (by simp [m2 z (by simp),m2 TO (by simp),m2 i1 (by simp)]) e) hy fun g4 h24 hs4=>wpAny_pure ?_)
  have hTO4:IsPair g4 TO x b:=hs4.extBut _ _ N.i hTO3
  refine wpAny_bind (wpAny_seqItems hTO4 rfl (wpAny_bind (wpAny_updateSeq_pair hTO4 fun g5 hTO5 hs5=>?_)))
  replace hTO5:IsPair g5 TO x y:=hTO5
  refine wpAny_bind (wpAny_letGo (wpAny_pure (wpAny_pure (wpAny_bind (wpAny_seqItems hTO5 rfl (wpAny_bind (wpAny_newTuple ?_)))))))
  have zs:g5.objs.size = s.heap.objs.size:=by rw [hs5.1,hs4.1,hs3.1,hs2.1,hs1.1]
  have hz5:IsZip g5 z TI TO .ellipsis:=hs5.extBut _ _ (Ne.symm N.b) (hs4.extBut _ _ (Ne.symm N.d) (hs3.extBut _ _ (Ne.symm N.b) (hs2.extBut _ _ (Ne.symm N.c) hz1)))
  have k5:∀ c o,c ∉ [z,TO,i1,i2] -> s.heap.get? c = some o -> g5.get? c = some o:=fun c o hc e=>hs5.extBut _ o (fun q=>hc (by simp [q])) (hs4.extBut _ o (fun q=>hc (by simp [q])) (c23 c o (fun q=>hc (by simp at q ⊢;rcases q with q | q | q <;> simp [q])) e))
  have r1:ItrK k1 g5 i1 a1 (i + 1):=h12.at fun o e=>hs5.extBut _ o (Ne.symm N.h) (hs4.extBut _ o N.j (hs3.extBut _ o (Ne.symm N.h) e))
  have r2:ItrK k2 g5 i2 a2 (i + 1):=h24.at fun o e=>hs5.extBut _ o (Ne.symm N.i) e
  have zl:z < g5.objs.size:=Heap.lt_size hz5
  show wpAny _ _ (Builtin.SmallTypes.ownedTupleHandOut (.ref z) (.ref g5.objs.size) >>= _) _ _ _;refine wpAny_bind ?_;unfold Builtin.SmallTypes.ownedTupleHandOut
  have hz6:IsZip (g5.push { cls:=.type "tuple",data:=.seq #[x,y] }) z TI TO .ellipsis:=Heap.get?_push_of_some _ hz5
  refine wpAny_bind (wpAny_setField_rec hz6 (by simp) fun g7 hz7 hs7=>?_)
  replace hz7:IsZip g7 z TI TO (rawInt g5.objs.size):=hz7
  refine wpAny_setField_rec hz7 (by simp) fun g8 hz8 hs8=>?_
  replace hz8:IsZip g8 z TI TO (rawInt g5.objs.size):=hz8
  have up:∀ c o,c ≠ z -> g5.get? c = some o -> g8.get? c = some o:=fun c o c1 e=>hs8.extBut _ o c1 (hs7.extBut _ o c1 (Heap.get?_push_of_some _ e))
  have hT8:IsPair g8 g5.objs.size x y:=hs8.extBut _ _ (Nat.ne_of_gt zl) (hs7.extBut _ _ (Nat.ne_of_gt zl) (Heap.get?_push_size _ rfl))
  have z8:g8.objs.size = g5.objs.size + 1:=by rw [hs8.1,hs7.1,Heap.size_push]
  rw [zs] at hz8 hT8 z8
  refine wpAny_pure ⟨_,rfl,wpAny_pure ?_⟩;show Q (some (.ref g5.objs.size)) _;rw [zs]
  exact hQ g8 hz8 (up _ _ N.a (k5 _ _ (by simp [N.a,N.e,N.f,N.g]) hTI)) ⟨_,_,up _ _ N.b hTO5⟩ (r1.at fun o e=>up _ o N.c e) (r2.at fun o e=>up _ o N.d e) hT8 z8 fun c o hc e=>up c o (fun q=>hc (by simp [q])) (k5 c o hc e)
theorem Zq {k1 k2:Bool} {z TI TO i1 i2 a1 a2:Addr} {i:Nat} {xs ys:Array Value} {Q:Option Value -> Shared -> Prop} (hh:A.handled = none) (N:xI z TI TO i1 i2) (Z:xJ k1 k2 s.heap z TI TO i1 i2 a1 a2 i)
    (l1:SeqK k1 s.heap a1 xs) (l2:SeqK k2 s.heap a2 ys) (m1:∀ b ∈ [z,TO,i1,i2],a1 ≠ b) (m2:∀ b ∈ [z,TO,i1,i2],a2 ≠ b) (hend:xs[i]? = none \/ ys[i]? = none)
    (hQ:∀ h',(∀ c o,c ∉ [z,TO,i1,i2] -> s.heap.get? c = some o -> h'.get? c = some o) -> Q none { s with heap:=h' }):wpAny (model prog w) A (pyNext (.ref z)) Q E s:=by
  obtain ⟨hz,hTI,⟨a,b,hTO⟩,h1,h2⟩:=Z
  have hT:s.TypeIs (.ref z) "zip" :=⟨_,hz,rfl⟩
  unfold pyNext;refine wpAny_bind (wpAny_attempt (wpAny_callSpecial?_slot (name:=Str.ofString "__next__") hT F.slot_zip_next (wpAny_call_entry F.slot_zip_next hT F.entry_zip_next ?_ (F.args_zip_next_1 _))))
  show wpAny _ _ (field (.ref z) 2 >>= _) _ _ _;refine wpAny_bind (wpAny_field hz rfl (x:=.bool false) rfl ?_)
  show wpAny _ _ (field (.ref z) 3 >>= _) _ _ _;refine wpAny_bind (wpAny_field hz rfl (x:=.ref TI) rfl (wpAny_bind (wpAny_seqItems hTI rfl ?_)))
  show wpAny _ _ (Builtin.SmallTypes.ownedTupleIsFree (.ref z) >>= _) _ _ _;refine wpAny_bind ?_
  unfold Builtin.SmallTypes.ownedTupleIsFree;refine wpAny_bind (wpAny_field hz rfl (x:=.none) rfl (wpAny_pure ?_));simp only [if_true]
  refine wpAny_bind (wpAny_rule (wpAny_bind (wpAny_field hz rfl (x:=.ref TO) rfl (wpAny_bind (wpAny_setField_rec hz (by simp) fun g1 hz1 hs1=>?_)))))
  replace hz1:IsZip g1 z TI TO .ellipsis:=hz1
  refine wpAny_bind ?_;simp only [List.zipIdx_cons,List.zipIdx_nil,List.forIn_cons,List.forIn_nil]
  refine wpAny_bind (wpAny_bind (wpAny_onRaise ?_));show wpAny _ _ (Builtin.SmallTypes.nextOf (.ref i1) >>= _) _ _ _
  cases hx:xs[i]? with
  | none=>
    refine wpAny_bind (jx hh (h1.at fun o e=>hs1.extBut _ o N.c e) (l1.at fun o e=>hs1.extBut _ o (m1 z (by simp)) e) hx fun g2 e hs2 he=>?_)
    obtain ⟨oe,hoe,hce⟩:=he
    have hz2:IsZip g2 z TI TO .ellipsis:=hs2 _ _ (Ne.symm N.c) hz1
    have hez:e ≠ z:=fun q=>by subst q;rw [hz2] at hoe;cases hoe;exact absurd (Value.type.inj hce) (by decide)
    refine wpAny_setField_rec hz2 (by simp) fun g3 hz3 hs3=>?_
    refine wpAny_bind (wpAny_isInstance (T:= "StopIteration") (b:=true) ⟨oe,hs3.extBut _ _ hez hoe,hce⟩ isSubtype_stop (wpAny_pure (hQ _ fun c o hc q=>?_)))
    exact hs3.extBut _ o (fun q=>hc (by simp [q])) (hs2 _ o (fun q=>hc (by simp [q])) (hs1.extBut _ o (fun q=>hc (by simp [q])) q))
  | some x=>
    have hy:ys[i]? = none:=by rcases hend with q | q;rw [hx] at q;cases q;exact q
    refine wpAny_bind (qG (h1.at fun o e=>hs1.extBut _ o N.c e) (l1.at fun o e=>hs1.extBut _ o (m1 z (by simp)) e) hx fun g2 h12 hs2=>wpAny_pure ?_)
    have hTO2:IsPair g2 TO a b:=hs2.extBut _ _ N.h (hs1.extBut _ _ N.b hTO)
    refine wpAny_bind (wpAny_seqItems hTO2 rfl (wpAny_bind (wpAny_updateSeq_pair hTO2 fun g3 hTO3 hs3=>?_)))
    have c23:∀ c o,c ∉ [z,TO,i1] -> s.heap.get? c = some o -> g3.get? c = some o:=fun c o hc e=>hs3.extBut _ o (fun q=>hc (by simp [q])) (hs2.extBut _ o (fun q=>hc (by simp [q])) (hs1.extBut _ o (fun q=>hc (by simp [q])) e))
    refine wpAny_bind (wpAny_letGo (wpAny_pure ?_));refine wpAny_bind (wpAny_bind (wpAny_onRaise ?_));show wpAny _ _ (Builtin.SmallTypes.nextOf (.ref i2) >>= _) _ _ _
    refine wpAny_bind (jx hh (h2.at fun o e=>c23 _ o (by simp [N.d,Ne.symm N.i,Ne.symm N.j]) e) (l2.at fun o e=>c23 _ o (by simp [m2 z (by simp),m2 TO (by simp),m2 i1 (by simp)]) e) hy fun g4 e hs4 he=>?_)
    obtain ⟨oe,hoe,hce⟩:=he
    have hz4:IsZip g4 z TI TO .ellipsis:=hs4 _ _ (Ne.symm N.d) (hs3.extBut _ _ (Ne.symm N.b) (hs2.extBut _ _ (Ne.symm N.c) hz1))
    have hez:e ≠ z:=fun q=>by subst q;rw [hz4] at hoe;cases hoe;exact absurd (Value.type.inj hce) (by decide)
    refine wpAny_setField_rec hz4 (by simp) fun g5 hz5 hs5=>?_
    refine wpAny_bind (wpAny_isInstance (T:= "StopIteration") (b:=true) ⟨oe,hs5.extBut _ _ hez hoe,hce⟩ isSubtype_stop (wpAny_pure (hQ _ fun c o hc q=>?_)))
    exact hs5.extBut _ o (fun q=>hc (by simp [q])) (hs4 _ o (fun q=>hc (by simp [q])) (c23 c o (fun q=>hc (by simp at q ⊢;rcases q with q | q | q <;> simp [q])) q))
abbrev zh (h:Heap) (o1 o2:Obj):Heap:=((((h.push o1).push o2).push { cls:=.type "tuple",data:=.seq #[.ref h.objs.size,.ref (h.push o1).objs.size] }).push { cls:=.type "tuple",data:=.seq #[.none,.none] }).push
  { cls:=.type "zip",data:=.fields #[.none,.bool false,.bool false,.ref ((h.push o1).push o2).objs.size,.ref (((h.push o1).push o2).push { cls:=.type "tuple",data:=.seq #[.ref h.objs.size,.ref (h.push o1).objs.size] }).objs.size] }
theorem zaW {k1 k2:Bool} {a1 a2:Addr} {h:Heap} {o1 o2:Obj} (p1:∀ g:Heap,g.get? h.objs.size = some o1 -> ItrK k1 g h.objs.size a1 0) (p2:∀ (g:Heap) (n:Addr),g.get? n = some o2 -> ItrK k2 g n a2 0) (f1:o1.isFreed = false) (f2:o2.isFreed = false) :
    xJ k1 k2 (zh h o1 o2) (h.objs.size + 4) (h.objs.size + 2) (h.objs.size + 3) h.objs.size (h.objs.size + 1) a1 a2 0 /\ (∀ c o,h.get? c = some o -> (zh h o1 o2).get? c = some o) /\ (zh h o1 o2).objs.size = h.objs.size + 5:=by
  have z1:(h.push o1).objs.size = h.objs.size + 1:=Heap.size_push ..
  have z2:((h.push o1).push o2).objs.size = h.objs.size + 2:=by rw [Heap.size_push,z1]
  have z3:(((h.push o1).push o2).push { cls:=.type "tuple",data:=.seq #[.ref h.objs.size,.ref (h.push o1).objs.size] }).objs.size = h.objs.size + 3:=by rw [Heap.size_push,z2]
  have z4:((((h.push o1).push o2).push { cls:=.type "tuple",data:=.seq #[.ref h.objs.size,.ref (h.push o1).objs.size] }).push { cls:=.type "tuple",data:=.seq #[.none,.none] }).objs.size = h.objs.size + 4:=by rw [Heap.size_push,z3]
  have q5:(zh h o1 o2).get? (h.objs.size + 4) = some _:=z4 ▸ Heap.get?_push_size _ rfl
  have q4:(zh h o1 o2).get? (h.objs.size + 3) = some _:=z3 ▸ Heap.get?_push_of_some _ (Heap.get?_push_size _ rfl)
  have q3:(zh h o1 o2).get? (h.objs.size + 2) = some _:=z2 ▸ Heap.get?_push_of_some _ (Heap.get?_push_of_some _ (Heap.get?_push_size _ rfl))
  have q2:(zh h o1 o2).get? (h.objs.size + 1) = some o2:=z1 ▸ Heap.get?_push_of_some _ (Heap.get?_push_of_some _ (Heap.get?_push_of_some _ (Heap.get?_push_size _ f2)))
  have q1:(zh h o1 o2).get? h.objs.size = some o1:=Heap.get?_push_of_some _ (Heap.get?_push_of_some _ (Heap.get?_push_of_some _ (Heap.get?_push_of_some _ (Heap.get?_push_size _ f1))))
  rw [z2,z3] at q5
  rw [z1] at q3
  exact ⟨⟨q5,q3,⟨_,_,q4⟩,p1 _ q1,p2 _ _ q2⟩,fun c o e=>Heap.get?_push_of_some _ (Heap.get?_push_of_some _ (Heap.get?_push_of_some _ (Heap.get?_push_of_some _ (Heap.get?_push_of_some _ e)))),by rw [Heap.size_push,z4]⟩
theorem Vg {k1 k2:Bool} {a1 a2:Addr} {xs ys:Array Value} :
    PySem.Meets (Builtin.«zip.__new__» ⟨[.type "zip",.ref a1,.ref a2],[]⟩) (fun _ R s=>SeqK k1 s.heap a1 xs /\ SeqK k2 s.heap a2 ys /\
      ∀ h',xJ k1 k2 h' (s.heap.objs.size + 4) (s.heap.objs.size + 2) (s.heap.objs.size + 3) s.heap.objs.size (s.heap.objs.size + 1) a1 a2 0 -> (∀ c o,s.heap.get? c = some o -> h'.get? c = some o) -> h'.objs.size = s.heap.objs.size + 5 -> R (.ok (.ret (.ref (s.heap.objs.size + 4)))) { s with heap:=h' }):=
  .of_wp fun prog w A R s hq=>by
    obtain ⟨hp,g,d,tk,os⟩:=s
    obtain ⟨hl1,hl2,hr⟩:=hq
    have hsub:=sub_zip
    have fin:∀ {o1 o2:Obj},(∀ g:Heap,g.get? hp.objs.size = some o1 -> ItrK k1 g hp.objs.size a1 0) -> (∀ (g:Heap) (n:Addr),g.get? n = some o2 -> ItrK k2 g n a2 0) -> o1.isFreed = false -> o2.isFreed = false ->
        R (.ok (.ret (.ref ((((hp.push o1).push o2).push { cls:=.type "tuple",data:=.seq #[.ref hp.objs.size,.ref (hp.push o1).objs.size] }).push { cls:=.type "tuple",data:=.seq #[.none,.none] }).objs.size))) ⟨zh hp o1 o2,g,d,tk,os⟩:=fun {o1 o2} p1 p2 f1 f2=>by
      obtain ⟨A,B,C⟩:=zaW p1 p2 f1 f2
      have e:((((hp.push o1).push o2).push { cls:=.type "tuple",data:=.seq #[.ref hp.objs.size,.ref (hp.push o1).objs.size] }).push { cls:=.type "tuple",data:=.seq #[.none,.none] }).objs.size = hp.objs.size + 4:=by
        rw [Heap.size_push,Heap.size_push,Heap.size_push,Heap.size_push]
      rw [e]
      exact hr _ A B C
    cases k1 with
    | true=>
      have L1:Heap.IsList (Shared.heap ⟨hp,g,d,tk,os⟩) a1 xs:=hl1
      cases k2 with
      | true=>
        have L2:Heap.IsList (Shared.heap ⟨hp.push { cls:=.type "list_iterator",data:=.fields #[.ref a1,.int 0 0] },g,d,tk,os⟩) a2 ys:=Heap.IsList.push hl2 _
        wp_walk using wpAny_pyIter_list L1,wpAny_pyIter_list L2
        exact ⟨_,rfl,fin (fun g e=>⟨_,e,rfl,rfl⟩) (fun g n e=>⟨_,e,rfl,rfl⟩) rfl rfl⟩
      | false=>
        have L2:Heap.IsTuple (Shared.heap ⟨hp.push { cls:=.type "list_iterator",data:=.fields #[.ref a1,.int 0 0] },g,d,tk,os⟩) a2 ys:=Heap.IsTuple.push hl2 _
        wp_walk using wpAny_pyIter_list L1,wpAny_pyIter_tuple L2
        exact ⟨_,rfl,fin (fun g e=>⟨_,e,rfl,rfl⟩) (fun g n e=>⟨_,e,rfl,rfl⟩) rfl rfl⟩
    | false=>
      have L1:Heap.IsTuple (Shared.heap ⟨hp,g,d,tk,os⟩) a1 xs:=hl1
      cases k2 with
      | true=>
        have L2:Heap.IsList (Shared.heap ⟨hp.push { cls:=.type "tuple_iterator",data:=.fields #[.ref a1,.int 0 0] },g,d,tk,os⟩) a2 ys:=Heap.IsList.push hl2 _
        wp_walk using wpAny_pyIter_tuple L1,wpAny_pyIter_list L2
        exact ⟨_,rfl,fin (fun g e=>⟨_,e,rfl,rfl⟩) (fun g n e=>⟨_,e,rfl,rfl⟩) rfl rfl⟩
      | false=>
        have L2:Heap.IsTuple (Shared.heap ⟨hp.push { cls:=.type "tuple_iterator",data:=.fields #[.ref a1,.int 0 0] },g,d,tk,os⟩) a2 ys:=Heap.IsTuple.push hl2 _
        wp_walk using wpAny_pyIter_tuple L1,wpAny_pyIter_tuple L2
        exact ⟨_,rfl,fin (fun g e=>⟨_,e,rfl,rfl⟩) (fun g n e=>⟨_,e,rfl,rfl⟩) rfl rfl⟩
theorem yi {k1 k2:Bool} {a1 a2:Addr} {xs ys:Array Value} {Q:Value -> Shared -> Prop} (h1:SeqK k1 s.heap a1 xs) (h2:SeqK k2 s.heap a2 ys)
    (h:∀ h',xJ k1 k2 h' (s.heap.objs.size + 4) (s.heap.objs.size + 2) (s.heap.objs.size + 3) s.heap.objs.size (s.heap.objs.size + 1) a1 a2 0 -> (∀ c o,s.heap.get? c = some o -> h'.get? c = some o) -> h'.objs.size = s.heap.objs.size + 5 ->
      Q (.ref (s.heap.objs.size + 4)) { s with heap:=h' }):wpAny (model prog w) A (call (.type "zip") [.ref a1,.ref a2]) Q E s:=by
  refine callType_new F.called_zip (by decide) (F.typeCall_zip_2 _ _) (F.newCall_zip_2 _ _) (fun obj=>F.args_object_init_3 obj _ _) F.entry_zip_new (Vg (k1:=k1) (k2:=k2) (xs:=xs) (ys:=ys)) ⟨h1,h2,fun h' Z k z=>?_⟩
  exact ⟨⟨_,Z.zz,rfl⟩,h h' Z k z⟩
end
theorem Inv.seqK {X:Cx} {pins:List (Addr × Obj)} {σ:St} {H:Hp} {s:Shared} {kd:Bool} {a:Addr} {xs:List V} (I:Inv X pins σ H s) (h:SqK X.K kd H a xs):∃ its:List Value,Vals xs its /\ SeqK kd s.heap a its.toArray /\ xs.length <= sizeLine:=by
  cases kd with
  | true=>obtain ⟨its,r,p,z⟩:=I.list h;exact ⟨its,r,p.isList,z⟩
  | false=>obtain ⟨its,r,p,z⟩:=I.tuple h;exact ⟨its,r,p,z⟩
theorem Inv.seqK_inj {X:Cx} {pins:List (Addr × Obj)} {σ:St} {H:Hp} {s:Shared} {kd:Bool} {a:Addr} {xs ys:List V} (I:Inv X pins σ H s) (h:SqK X.K kd H a xs) (h':SqK X.K kd H a ys):xs = ys:=by
  cases kd with
  | true=>exact I.list_inj h h'
  | false=>exact I.tuple_inj h h'
theorem SqK.ne_fp {X:Cx} {pins:List (Addr × Obj)} {σ:St} {H:Hp} {s:Shared} {kd:Bool} {a b:Addr} {xs:List V} (I:Inv X pins σ H s) (h:SqK X.K kd H a xs) (f:qT X pins H b):a ≠ b:=fun z=>by
  have kk:∀ o,X.K.lookup a = some o -> False:=fun o e=>by
    have e':=I.mod.kin a o e
    rcases f.2.2.2.1 with q | q
    · exact I.ok.noex a o e' (by rw [z];exact q)
    · have:=Heap.lt_size (I.ok.bs a o e').1
      rw [z] at this
      exact Nat.lt_irrefl _ (Nat.lt_of_lt_of_le this q)
  cases kd with
  | true=>
    rcases (show SqL X.K H a xs from h) with (q | ⟨o,q⟩) | ⟨o,_,_,q,_⟩
    · rw [z,f.1] at q;cases q
    · rw [z,f.1] at q;cases q
    · exact kk o q
  | false=>
    rcases (show SqT X.K H a xs from h) with (q | ⟨o,q⟩) | ⟨o,_,_,q,_⟩
    · rw [z,f.1] at q;cases q
    · rw [z,f.1] at q;cases q
    · exact kk o q
def Itz (K:PySem.W.Frag) (k1 k2:Bool) (a1 a2:Addr):It:=
  ⟨fun i H=>∃ xs ys x y,SqK K k1 H a1 xs /\ SqK K k2 H a2 ys /\ xs[i]? = some x /\ ys[i]? = some y,
   fun i H x H'=>∃ T u v,x = .ref T /\ H T = none /\ H' = upd H T (.tup [u,v]) /\ (∀ xs,SqK K k1 H a1 xs -> xs[i]? = some u) /\ ∀ ys,SqK K k2 H a2 ys -> ys[i]? = some v,
   fun i H=>∃ xs ys,SqK K k1 H a1 xs /\ SqK K k2 H a2 ys /\ (xs.length <= i \/ ys.length <= i)⟩
theorem Vk {P:Program} {w:World} {K:PySem.W.Frag} {elts:List Expr} {kk:Nat} {pos:Pos} {k1 k2:Bool} {a1 a2 z TI TO i1 i2:Addr} (N:xI z TI TO i1 i2) :
    WH P w K (.Tuple elts kk pos) (Itz K k1 k2 a1 a2) [z,TI,TO,i1,i2] z (fun i h=>xJ k1 k2 h z TI TO i1 i2 a1 a2 i) where
  mem:=by simp
  obj:=fun i h Z b hb=>by
    obtain ⟨a,b',q⟩:=Z.to
    have e1:=Z.r1.obj
    have e2:=Z.r2.obj
    simp only [List.mem_cons,List.not_mem_nil,or_false] at hb
    rcases hb with r | r | r | r | r
    · subst r;exact ⟨_,Z.zz,fun v q=>nomatch q⟩
    · subst r;exact ⟨_,Z.ti,fun v q=>nomatch q⟩
    · subst r;exact ⟨_,q,fun v q=>nomatch q⟩
    · subst r;obtain ⟨o,e,_,d⟩:=e1;exact ⟨o,e,d⟩
    · subst r;obtain ⟨o,e,_,d⟩:=e2;exact ⟨o,e,d⟩
  keep:=fun i h h' Z k=>by
    obtain ⟨a,b',q⟩:=Z.to
    exact ⟨k _ (by simp) _ Z.zz,k _ (by simp) _ Z.ti,⟨a,b',k _ (by simp) _ q⟩,Z.r1.at fun o e=>k _ (by simp) o e,Z.r2.at fun o e=>k _ (by simp) o e⟩
  item:=by
    intro X hP hw hK hc i pins s σ H E I hf Z hg
    subst hP hw hK
    obtain ⟨xs,ys,x,y,hq1,hq2,hx,hy⟩:=hg
    obtain ⟨its1,rv1,p1,hz1⟩:=I.seqK hq1
    obtain ⟨its2,rv2,p2,hz2⟩:=I.seqK hq2
    obtain ⟨u1,hu1,ru1⟩:=rv1.get hx
    obtain ⟨u2,hu2,ru2⟩:=rv2.get hy
    have sub:∀ b ∈ [z,TO,i1,i2],b ∈ [z,TI,TO,i1,i2]:=fun b hb=>by
      simp only [List.mem_cons,List.not_mem_nil,or_false] at hb ⊢
      rcases hb with r | r | r | r <;> simp [r]
    refine wK N Z p1 p2 (fun b hb=>hq1.ne_fp I (hf b (sub b hb))) (fun b hb=>hq2.ne_fp I (hf b (sub b hb))) (by simpa using hu1) (by simpa using hu2) fun h1 zz ti to r1 r2 hT hsz hk=>?_
    refine ⟨_,rfl,wpAny_letOwnedTupleGo_zip zz fun h2 zz2 hs2=>?_⟩
    have zl:z < s.heap.objs.size:=Heap.lt_size Z.zz
    obtain ⟨ta,tb,to⟩:=to
    refine ⟨.ref s.heap.objs.size,upd H s.heap.objs.size (.tup [x,y]),?_,rfl,⟨_,x,y,rfl,I.hok.fresh (Nat.le_refl _),rfl,fun xs' h'=>by rw [I.seqK_inj h' hq1];exact hx,fun ys' h'=>by rw [I.seqK_inj h' hq2];exact hy⟩,
      ⟨zz2,hs2.extBut _ _ N.a ti,⟨ta,tb,hs2.extBut _ _ N.b to⟩,r1.at fun o e=>hs2.extBut _ o N.c e,r2.at fun o e=>hs2.extBut _ o N.d e⟩,fun b hb=>?_⟩
    · exact y6 (s:=s) (h':=h2) (t':=s.toks) (ch:=[z,TO,i1,i2]) (its:=[u1,u2]) I (fun b hb=>hf b (sub b hb)) (Nat.le_refl _) (fun b o hb e=>hs2.extBut _ o (fun q=>hb (by simp [q])) (hk b o hb e)) (by rw [sizeLine_eq];exact (by decide:2 <= 16777216)) (.cons ru1 (.cons ru2 .nil))
        (TupX.by (hs2.extBut _ _ (Nat.ne_of_gt zl) hT))
    · have hb':b < s.heap.objs.size:=by
        have e1:=Z.r1.obj
        have e2:=Z.r2.obj
        obtain ⟨a,b',q⟩:=Z.to
        simp only [List.mem_cons,List.not_mem_nil,or_false] at hb
        rcases hb with r | r | r | r | r
        · subst r;exact zl
        · subst r;exact Heap.lt_size Z.ti
        · subst r;exact Heap.lt_size q
        · subst r;obtain ⟨o,e,_⟩:=e1;exact Heap.lt_size e
        · subst r;obtain ⟨o,e,_⟩:=e2;exact Heap.lt_size e
      rw [zu (Nat.ne_of_lt hb')]
      exact (hf b hb).1
  done:=by
    intro X hP hw hK hc i pins s σ H E I hf Z hg
    subst hP hw hK
    obtain ⟨xs,ys,hq1,hq2,hle⟩:=hg
    obtain ⟨its1,rv1,p1,hz1⟩:=I.seqK hq1
    obtain ⟨its2,rv2,p2,hz2⟩:=I.seqK hq2
    have sub:∀ b ∈ [z,TO,i1,i2],b ∈ [z,TI,TO,i1,i2]:=fun b hb=>by
      simp only [List.mem_cons,List.not_mem_nil,or_false] at hb ⊢
      rcases hb with r | r | r | r <;> simp [r]
    have tr:∀ b u,H b = some u -> b ∉ [z,TO,i1,i2]:=fun b u e hb=>by rw [(hf b (sub b hb)).1] at e;cases e
    refine Zq (I.ok.hd hc) N Z p1 p2 (fun b hb=>hq1.ne_fp I (hf b (sub b hb))) (fun b hb=>hq2.ne_fp I (hf b (sub b hb))) ?_ fun h' hk=>⟨rfl,?_⟩
    · have l1:=rv1.length
      have l2:=rv2.length
      rcases hle with q | q
      · exact .inl (by simp;omega)
      · exact .inr (by simp;omega)
    · refine I.step (g':=s.gens) (d':=s.drawn) (t':=s.toks) (ch:=[z,TO,i1,i2]) (fun b hb=>?_) (fun b o _ _ hc e _=>hk b o hc e) (fun b o _ _ hc e _=>⟨o.slots,hk b o hc e⟩) (fun _ _ _ _ n=>n) (fun b o hc e=>⟨o,hk b o hc e⟩)
        (fun _ _ e=>e) (fun _ _ _ e=>e) (fun b ps e=>⟨#[],by rw [e];simp⟩) (fun m hm=>?_) (fun b u e=>?_) I.bare
      · obtain ⟨_,g1,_,g3,g4,g5⟩:=hf b (sub b hb)
        exact ⟨g3,g1,g4,g5⟩
      · obtain ⟨o,es,ep,ho,r⟩:=hm
        exact ⟨o,es,ep,hk _ o (fun z=>(hf _ (sub _ z)).2.1 rfl) ho,r⟩
      · refine (I.hok b u e).stay (fun c v hc q=>hk c v ?_ q) (fun _ q=>q) fun _ _ q=>q
        rcases hc with z | z
        · rw [z];exact tr b u e
        · exact tr c _ z
  self:=fun _ _ _ _ _ Z h=>wpAny_pyIter_zip Z.zz h
section
variable {X:Cx}
def zbO (K:PySem.W.Frag) (ta:TA):TI:=fun σ H R=>ta σ H fun vs H1=>∃ k1 k2 a1 a2,vs = [.ref a1,.ref a2] /\ (∃ xs,SqK K k1 H1 a1 xs) /\ (∃ ys,SqK K k2 H1 a2 ys) /\ R (Itz K k1 k2 a1 a2) H1
theorem VJ {l m:Expr} {ta:TA} {p pos tp:Pos} {elts:List Expr} {kk:Nat} (hg:Gl X "zip") (hm:X.mg "zip" = none) (ha:PA X [l,m] ta) (hs:starEach [l,m] X.env = [(false,eval l X.env),(false,eval m X.env)]:=by rfl) (hs2:starEach [m] X.env = [(false,eval m X.env)]:=by rfl) :
    PI X (.Tuple elts kk tp) (.Call (.Name "zip" p) [l,m] [] pos) (zbO X.K ta):=by
  intro pins s σ H R I h
  refine Call_ (qZ I hg hm boot_zip (PyProof.Rows.callWith_type1 (thn (ha pos pins s σ H _ I h) fun us s1 ⟨vs,H1,I1,r1,q1⟩=>?_) (by rw [hs,hs2]) (by rw [hs2];rfl)))
  obtain ⟨k1,k2,a1,a2,e,⟨xs,hq1⟩,⟨ys,hq2⟩,q⟩:=q1
  subst e
  obtain ⟨u,u',rfl,ru,ru'⟩:=wO r1
  cases ru
  cases ru'
  obtain ⟨its1,rv1,p1,hz1⟩:=I1.seqK hq1
  obtain ⟨its2,rv2,p2,hz2⟩:=I1.seqK hq2
  refine yi p1 p2 fun h' Z hk hsz=>wpAny_pyIter_zip Z.zz ?_
  have I2:Inv X pins σ H1 { s1 with heap:=h' }:=I1.kept (t':=s1.toks) hk
  have N:xI (s1.heap.objs.size + 4) (s1.heap.objs.size + 2) (s1.heap.objs.size + 3) s1.heap.objs.size (s1.heap.objs.size + 1):=by
    constructor <;> (intro e;have e':(_:Nat) = _:=e;omega)
  refine ⟨s1.heap.objs.size + 4,_,_,_,H1,rfl,I2,Vk N,Z,fun b hb=>?_,q⟩
  have hb':s1.heap.objs.size <= b:=by
    simp only [List.mem_cons,List.not_mem_nil,or_false] at hb
    rcases hb with r | r | r | r | r <;> (rw [r];first | exact Nat.le_add_right _ _ | exact Nat.le_refl _)
  exact I1.fpOk hb' (I1.hok.fresh hb')
end
def TyN (K:PySem.W.Frag) (H:Hp) (x:V) (T:String):Prop:=match x with
  | .non=>T = "NoneType"
  | .bl _=>T = "bool"
  | .int _=>T = "int"
  | .str _=>T = "str"
  | .ref a=>(T = "list" /\ ∃ xs,SqL K H a xs) \/ (T = "tuple" /\ ∃ xs,SqT K H a xs)
  | _=>False
def WN:List String:=["NoneType", "bool", "int", "str", "list", "tuple"]
theorem TyN.mem {K:PySem.W.Frag} {H:Hp} {x:V} {T:String} (h:TyN K H x T):T ∈ WN:=by
  cases x with
  | non=>cases (show T = _ from h);decide
  | bl _=>cases (show T = _ from h);decide
  | int _=>cases (show T = _ from h);decide
  | str _=>cases (show T = _ from h);decide
  | ref a=>rcases (show _ \/ _ from h) with ⟨e,_⟩ | ⟨e,_⟩ <;> (subst e;decide)
  | _=>exact (show False from h).elim
section
variable {X:Cx} {pins:List (Addr × Obj)} {σ:St} {H:Hp} {s:Shared}
end
section
variable {X:Cx}
end
inductive Dat where
  | non | bl (b:Bool) | int (i:Int) | str (x:Str) | lst (ds:List Dat) | tup (ds:List Dat)
mutual
def Rep (K:PySem.W.Frag) (H:Hp):Dat -> V -> Prop
  | .non,v=>v = .non
  | .bl b,v=>v = .bl b
  | .int i,v=>v = .int i
  | .str x,v=>v = .str x
  | .lst ds,v=>∃ a xs,v = .ref a /\ SqL K H a xs /\ Reps K H ds xs
  | .tup ds,v=>∃ a xs,v = .ref a /\ SqT K H a xs /\ Reps K H ds xs
def Reps (K:PySem.W.Frag) (H:Hp):List Dat -> List V -> Prop
  | [],xs=>xs = []
  | d :: ds,xs=>∃ x r,xs = x :: r /\ Rep K H d x /\ Reps K H ds r
end
theorem Same.sqT {K:PySem.W.Frag} {H H':Hp} {a:Addr} {xs:List V} (e:Same H H') (h:SqT K H a xs):SqT K H' a xs:=by
  rcases h with (h | ⟨o,h⟩) | h
  · exact .inl (.inl (e _ _ h))
  · exact .inl (.inr ⟨o,e _ _ h⟩)
  · exact .inr h
mutual
theorem Rep.same {K:PySem.W.Frag} {H H':Hp} (e:Same H H'):∀ {d:Dat} {v:V},Rep K H d v -> Rep K H' d v
  | .non,_,h=>h
  | .bl _,_,h=>h
  | .int _,_,h=>h
  | .str _,_,h=>h
  | .lst _,_,h=>by
    obtain ⟨a,xs,e1,e2,e3⟩:=h
    exact ⟨a,xs,e1,e.seq e2,Reps.same e e3⟩
  | .tup _,_,h=>by
    obtain ⟨a,xs,e1,e2,e3⟩:=h
    exact ⟨a,xs,e1,e.sqT e2,Reps.same e e3⟩
theorem Reps.same {K:PySem.W.Frag} {H H':Hp} (e:Same H H'):∀ {ds:List Dat} {xs:List V},Reps K H ds xs -> Reps K H' ds xs
  | [],_,h=>h
  | _ :: _,_,h=>by
    obtain ⟨x,r,e1,e2,e3⟩:=h
    exact ⟨x,r,e1,Rep.same e e2,Reps.same e e3⟩
end
theorem Reps.len {K:PySem.W.Frag} {H:Hp}:∀ {ds:List Dat} {xs:List V},Reps K H ds xs -> xs.length = ds.length
  | [],_,h=>by rw [show _ = _ from h];rfl
  | _ :: _,_,h=>by
    obtain ⟨x,r,e1,e2,e3⟩:=h
    rw [e1,List.length_cons,List.length_cons,Reps.len e3]
theorem Reps.get {K:PySem.W.Frag} {H:Hp}:∀ {ds:List Dat} {xs:List V} {i:Nat} {x:V},Reps K H ds xs -> xs[i]? = some x -> ∃ d,ds[i]? = some d /\ Rep K H d x
  | [],_,_,_,h,e=>by rw [show _ = _ from h] at e;simp at e
  | d :: ds,_,i,x,h,e=>by
    obtain ⟨y,r,e1,e2,e3⟩:=h
    subst e1
    cases i with
    | zero=>simp at e;subst e;exact ⟨d,rfl,e2⟩
    | succ i=>
      obtain ⟨d',q1,q2⟩:=Reps.get (i:=i) e3 (by simpa using e)
      exact ⟨d',by simpa using q1,q2⟩
theorem ze {H:Hp} {a:Addr} {o:HO} (h:H a = none):Same H (upd H a o):=fun b u e=>by rw [zu (zj e h)];exact e
def Z8:List V -> List V -> Bool
  | [],[]=>true
  | x :: xs,y :: ys=>eqV x y && Z8 xs ys
  | _,_=>false
theorem wj:∀ (xs ys:List V),(((List.range (min xs.length ys.length)).all fun j=>eqV (xs.getD j .non) (ys.getD j .non)) && (xs.length == ys.length)) = Z8 xs ys
  | [],[]=>rfl
  | [],y :: ys=>by simp [Z8]
  | x :: xs,[]=>by simp [Z8]
  | x :: xs,y :: ys=>by
    have ih:=wj xs ys
    have e1:min (x :: xs).length (y :: ys).length = min xs.length ys.length + 1:=by simp only [List.length_cons];omega
    rw [e1,List.range_succ_eq_map,List.all_cons,List.all_map]
    unfold Z8
    rw [<- ih,Bool.and_assoc]
    congr 1
    have e2:((x :: xs).length == (y :: ys).length) = (xs.length == ys.length):=by
      rw [Bool.eq_iff_iff];simp
    rw [e2]
    congr 1
inductive zal (K:PySem.W.Frag) (neg:Bool) (x:V) (y:V) (H:Hp) (Q:VK):Prop
  | mk (a b xs ys:_) (_:x = .ref a) (_:y = .ref b) (_:SqT K H a xs) (_:SqT K H b ys) (_:xs.all jH = true) (_:ys.all jH = true) (_:Q (.bl (if neg then !Z8 xs ys else Z8 xs ys)) H):zal K neg x y H Q
section
variable {X:Cx}
theorem zaw (hu:X.A.units < cLine):OpR X (compareOp .Eq) (zal X.K false):=by
  intro pins s σ H x y v u Q I rx ry h
  obtain ⟨a,b,xs,ys,rfl,rfl,hx,hy,fx,fy,q⟩:=h
  cases rx
  cases ry
  obtain ⟨its1,r1,p1,z1⟩:=I.tuple hx
  obtain ⟨its2,r2,p2,z2⟩:=I.tuple hy
  have l1:=r1.length
  have l2:=r2.length
  refine SeqAt.eq_tupleAt (e:=fun j=>eqV (xs.getD j .non) (ys.getD j .non)) p1 p2 hu (fun j h1 h2=>?_) ⟨.bl _,H,I,rfl,?_⟩
  · have h1':j < xs.length:=by rw [List.size_toArray] at h1;omega
    have h2':j < ys.length:=by rw [List.size_toArray] at h2;omega
    obtain ⟨w1,e1,q1⟩:=r1.get (i:=j) (x:=xs[j]) (by simp [h1'])
    obtain ⟨w2,e2,q2⟩:=r2.get (i:=j) (x:=ys[j]) (by simp [h2'])
    have g1:its1.toArray[j] = w1:=by simpa using (List.getElem?_eq_some_iff.mp e1).2
    have g2:its2.toArray[j] = w2:=by simpa using (List.getElem?_eq_some_iff.mp e2).2
    rw [g1,g2,show xs.getD j .non = xs[j] by simp [h1'],show ys.getD j .non = ys[j] by simp [h2']]
    exact Wp q1 q2 (List.all_eq_true.mp fx _ (List.getElem_mem h1')) (List.all_eq_true.mp fy _ (List.getElem_mem h2'))
  · rw [List.size_toArray,List.size_toArray,<- l1,<- l2,wj]
    exact q
end
section
variable {X:Cx}
end
structure Dfn (P:Program) (w:World) (K:PySem.W.Frag) (mg:Str -> Option Value) (base:Heap) (x:Str) (k:Nat) (ps:List Str) (sp:Sp):Prop where
  ex:∃ f fd,qC P w K mg base CX0 k f fd ps sp /\ mg x = some (.ref f) /\ PySem.W.keepIn K (.ref f) = true /\ Binds K fd ps []
section
variable {X:Cx} {x:Str} {k:Nat} {ps:List Str} {sp:Sp} {p pos:Pos} {e:Expr} {es:List Expr} {t:TA}
theorem zn (D:Dfn X.prog X.w X.K X.mg X.base x k ps sp) (hr:Room k X.A) (hg:Gl X x) (ha:PA X (e :: es) t) (hd:(x == ("__debug__" : Str)) = false:=by decide)
    (hs:starEach (e :: es) X.env = (false,eval e X.env) :: starEach es X.env:=by rfl) (hpl:(backTo pos (starEach es X.env)).any (·.1) = false:=by rfl):PE X (.Call (.Name x p) (e :: es) [] pos) (YM sp [] E0 t):=by
  obtain ⟨f,fd,F,hm,hk,hb⟩:=D.ex
  exact Ya F hr hg hm hk hb .nil zbf ha hd hs hpl
end
theorem ifT {b:Bool} {A B:Prop} (h:b = true) (q:A):if b = true then A else B:=by rw [if_pos h];exact q
theorem ifF {b:Bool} {A B:Prop} (h:b = false) (q:B):if b = true then A else B:=by rw [if_neg (by rw [h];exact Bool.false_ne_true)];exact q
theorem zaG {K:PySem.W.Frag} {k1 k2:Bool} {a1 a2:Addr} {xs ys:List V} {g:TG} {tf:TT} {te:TE} {σ0:St} {n:Nat} {R:List V -> Hp -> Prop} {H:Hp} (Pv:Nat -> List V -> Hp -> Prop) (h0:Pv 0 [] H)
    (h1:∀ i zs H,Pv i zs H -> SqK K k1 H a1 xs /\ SqK K k2 H a2 ys)
    (hs:∀ i x y zs H T,xs[i]? = some x -> ys[i]? = some y -> Pv i zs H -> H T = none -> g (.ref T) σ0 (upd H T (.tup [x,y])) fun σ4 H4=>σ4.drop n = σ0.drop n /\ tf σ4 H4 fun b H5=>
      if b = true then te σ4 H5 fun v H6=>zs.length < sizeLine /\ Pv (i + 1) (zs ++ [v]) H6 else Pv (i + 1) zs H5)
    (hd:∀ zs H,Pv (min xs.length ys.length) zs H -> zs.length <= sizeLine /\ R zs H) :
    ∃ W:Nat -> Nat -> List V -> Hp -> Prop,(∃ m,W 0 m [] H) /\ ∀ i m zs H2,W i m zs H2 ->
      ((Itz K k1 k2 a1 a2).stop i H2 /\ zs.length <= sizeLine /\ R zs H2) \/
      ((Itz K k1 k2 a1 a2).go i H2 /\ ∃ N:List V -> Hp -> Prop,(∀ zs H',N zs H' -> ∃ m',m' < m /\ W (i + 1) m' zs H') /\ ∀ x H3,(Itz K k1 k2 a1 a2).yld i H2 x H3 -> g x σ0 H3 fun σ4 H4=>σ4.drop n = σ0.drop n /\ tf σ4 H4 fun b H5=>
        if b = true then te σ4 H5 fun y H6=>zs.length < sizeLine /\ N (zs ++ [y]) H6 else N zs H5):=by
  refine ⟨fun i m zs H2=>m = min xs.length ys.length - i /\ i <= min xs.length ys.length /\ Pv i zs H2,⟨_,rfl,Nat.zero_le _,h0⟩,?_⟩
  rintro i m zs H2 ⟨rfl,hi,p⟩
  obtain ⟨q1,q2⟩:=h1 i zs H2 p
  by_cases hlt:i < min xs.length ys.length
  · have l1:i < xs.length:=by omega
    have l2:i < ys.length:=by omega
    refine .inr ⟨⟨xs,ys,xs[i],ys[i],q1,q2,by simp [l1],by simp [l2]⟩,Pv (i + 1),fun zs' H' p'=>⟨_,by omega,rfl,hlt,p'⟩,fun x H3 y=>?_⟩
    obtain ⟨T,u,v,e1,hT,e2,y1,y2⟩:=y
    subst e1 e2
    exact hs i u v zs H2 T (y1 xs q1) (y2 ys q2) p hT
  · have e:i = min xs.length ys.length:=by omega
    subst e
    obtain ⟨z1,z2⟩:=hd zs H2 p
    exact .inl ⟨⟨xs,ys,q1,q2,by omega⟩,z1,z2⟩
theorem vY {lo:Int} {N n:Nat} {g:TG} {tf:TT} {te:TE} {σ0:St} {R:List V -> Hp -> Prop} {H:Hp} (Pv:Nat -> List V -> Hp -> Prop) (h0:Pv 0 [] H)
    (hs:∀ i zs H,i < N -> Pv i zs H -> g (.int (lo + i)) σ0 H fun σ4 H4=>σ4.drop n = σ0.drop n /\ tf σ4 H4 fun b H5=>if b = true then te σ4 H5 fun v H6=>zs.length < sizeLine /\ Pv (i + 1) (zs ++ [v]) H6 else Pv (i + 1) zs H5)
    (hd:∀ zs H,Pv N zs H -> zs.length <= sizeLine /\ R zs H) :
    ∃ W:Nat -> Nat -> List V -> Hp -> Prop,(∃ m,W 0 m [] H) /\ ∀ i m zs H2,W i m zs H2 ->
      ((Itr lo N).stop i H2 /\ zs.length <= sizeLine /\ R zs H2) \/
      ((Itr lo N).go i H2 /\ ∃ M:List V -> Hp -> Prop,(∀ zs H',M zs H' -> ∃ m',m' < m /\ W (i + 1) m' zs H') /\ ∀ x H3,(Itr lo N).yld i H2 x H3 -> g x σ0 H3 fun σ4 H4=>σ4.drop n = σ0.drop n /\ tf σ4 H4 fun b H5=>
        if b = true then te σ4 H5 fun y H6=>zs.length < sizeLine /\ M (zs ++ [y]) H6 else M zs H5):=by
  refine ⟨fun i m zs H2=>m = N - i /\ i <= N /\ Pv i zs H2,⟨_,rfl,Nat.zero_le _,h0⟩,?_⟩
  rintro i m zs H2 ⟨rfl,hi,p⟩
  by_cases hlt:i < N
  · refine .inr ⟨hlt,Pv (i + 1),fun zs' H' p'=>⟨_,by omega,rfl,hlt,p'⟩,fun x H3 y=>?_⟩
    obtain ⟨e1,e2⟩:=y
    subst e1 e2
    exact hs i zs _ hlt p
  · have e:i = N:=by omega
    subst e
    obtain ⟨z1,z2⟩:=hd zs H2 p
    exact .inl ⟨Nat.le_refl _,z1,z2⟩
def wv (sn on:List (Str × NameKind)) (N own fr:List Str) (js:List Nat):Bool:=
  yq sn on N fr js && own.all (fun x=>sn.lookup x == some .local) && decide (own ++ fr).Nodup
theorem x3 {sn on:List (Str × NameKind)} {N own fr:List Str} {js:List Nat} (h:wv sn on N own fr js = true):yq sn on N fr js = true /\ (∀ x ∈ own,sn.lookup x = some .local) /\ (own ++ fr).Nodup:=by
  unfold wv at h
  rw [Bool.and_eq_true,Bool.and_eq_true,List.all_eq_true] at h
  exact ⟨h.1.1,fun x hx=>by simpa using h.1.2 x hx,of_decide_eq_true h.2⟩
section
variable {X:Cx} {elt iter:Expr} {ifs:List Expr} {scope:Scope} {pos px py tp:Pos} {wi:TI} {tf:TT} {te:TE} {x y:Str} {kk:Nat}
theorem yQ {N':List Str} {C:Addr} {s:Shared} {H:Hp} {ex:List Addr} {i:Nat} (hl:scope.names.lookup x = some .local) (nd:N'.Nodup) (hi:N'[i]? = some x):PG (zS X N' scope C s H ex) (.Name x px) (vf i):=
  zB (X:=zS X N' scope C s H ex) nd hi (.inl (lookup_relabel_local hl)) (.inr (lookup_relabel_local hl))
theorem qF (fr:List Str) (js:List Nat) (hc:X.calm = true) (hk:scope.kind = .function) (hb:wv scope.names X.env.scope.names X.N [x] fr js = true) (hi:PI X (.Name x px) iter wi)
    (hf:∀ C s H ex,PF (zS X ([x] ++ fr) scope C s H ex) ifs tf) (he:∀ C s H ex,PE (zS X ([x] ++ fr) scope C s H ex) elt te)
    (hs:∀ x,foldedSetIterable iter X.env x = pure x:=by intro _;rfl):PE X (.ListComp elt [⟨.Name x px,iter,ifs,0⟩] scope pos) (tLC wi 1 js (vf 0) tf te):=by
  obtain ⟨h1,h2,h3⟩:=x3 hb
  exact YY [x] fr js hc hk h1 hi (fun C s H ex=>yQ (h2 x (by simp)) h3 rfl) hf he hs
theorem QF (fr:List Str) (js:List Nat) (hc:X.calm = true) (hk:scope.kind = .function) (hb:wv scope.names X.env.scope.names X.N [x,y] fr js = true) (hi:PI X (.Tuple [.Name x px,.Name y py] kk tp) iter wi)
    (hf:∀ C s H ex,PF (zS X ([x,y] ++ fr) scope C s H ex) ifs tf) (he:∀ C s H ex,PE (zS X ([x,y] ++ fr) scope C s H ex) elt te)
    (hs:∀ x,foldedSetIterable iter X.env x = pure x:=by intro _;rfl):PE X (.ListComp elt [⟨.Tuple [.Name x px,.Name y py] kk tp,iter,ifs,0⟩] scope pos) (tLC wi 2 js (zaP X.K 2 (JJ (vf 0) (JJ (vf 1) zbn))) tf te):=by
  obtain ⟨h1,h2,h3⟩:=x3 hb
  refine YY [x,y] fr js hc hk h1 hi (fun C s H ex=>?_) hf he hs
  exact jQ (X:=zS X ([x,y] ++ fr) scope C s H ex) hc (zV (yQ (h2 x (by simp)) h3 rfl) (zV (yQ (h2 y (by simp)) h3 rfl) jg))
end
def tWk (t:TS):TS:=fun D σ H=>∃ J:St -> Hp -> Prop,t { D with nx:=J } σ H /\ ∀ σ' H',J σ' H' -> D.nx σ' H'
theorem j2 {X:Cx} {st:Stmt} {t:TS} (h:PS X st t):PS X st (tWk t):=by
  intro pins s σ H D I hw
  obtain ⟨J,q1,q2⟩:=hw
  refine thn (h pins s σ H _ I q1) fun f s1 q=>?_
  cases f with
  | next=>obtain ⟨σ',H',I',z⟩:=q;exact ⟨σ',H',I',q2 σ' H' z⟩
  | brk=>exact q
  | cont=>exact q
  | ret u=>exact q
mutual
def Dat.py:Dat -> PyData
  | .non=>.none
  | .bl b=>.bool b
  | .int i=>.int i
  | .str x=>.str x
  | .lst ds=>.list (Dat.pys ds)
  | .tup ds=>.tuple (Dat.pys ds)
def Dat.pys:List Dat -> List PyData
  | []=>[]
  | d :: ds=>d.py :: Dat.pys ds
end
mutual
def Dat.shw:Dat -> Bool
  | .int i=>decide (i.natAbs < 1000000000000)
  | .str x=>x.cps.toList.all fun c=>decide (c < 1000000)
  | .lst ds=>Dat.shws ds
  | .tup ds=>Dat.shws ds
  | _=>true
def Dat.shws:List Dat -> Bool
  | []=>true
  | d :: ds=>d.shw && Dat.shws ds
end
mutual
def Dat.blk:Dat -> Nat
  | .str x=>x.cps.size
  | .lst ds=>Dat.blks ds
  | .tup ds=>Dat.blks ds
  | _=>0
def Dat.blks:List Dat -> Nat
  | []=>0
  | d :: ds=>d.blk + 1 + Dat.blks ds
end
mutual
theorem Dat.py_blk:∀ d:Dat,d.py.bulk = d.blk
  | .non=>rfl
  | .bl _=>rfl
  | .int _=>rfl
  | .str _=>rfl
  | .lst ds=>Dat.pys_blk ds
  | .tup ds=>Dat.pys_blk ds
theorem Dat.pys_blk:∀ ds:List Dat,PyData.bulkAll (Dat.pys ds) = Dat.blks ds
  | []=>rfl
  | d :: ds=>by
    show PyData.bulk d.py + 1 + PyData.bulkAll (Dat.pys ds) = d.blk + 1 + Dat.blks ds
    rw [Dat.py_blk d,Dat.pys_blk ds]
end
theorem Yo {n:Nat} (h:n < 1000000000000):n.log2 < 1920:=by
  by_cases h0:n = 0
  · rw [h0];decide
  · exact Nat.lt_trans ((Nat.log2_lt h0).mpr (Nat.lt_trans h (by decide:1000000000000 < 2 ^ 40))) (by decide)
mutual
theorem Dat.py_short:∀ d:Dat,d.shw = true -> d.py.leavesShort 13 = true /\ d.py.showable = true /\ d.py.hasDict = false
  | .non,_=>⟨rfl,rfl,rfl⟩
  | .bl _,_=>⟨rfl,rfl,rfl⟩
  | .int i,h=>by
    have h':i.natAbs < 1000000000000:=of_decide_eq_true h
    refine ⟨decide_eq_true (PyData.shown_int_le h'),decide_eq_true (Yo h'),rfl⟩
  | .str x,h=>by
    refine ⟨?_,rfl,rfl⟩
    have h':(x.cps.toList.all fun c=>decide (c < 1000000)) = true:=h
    show (x.cps.toList.all fun c=>decide (c < 16 ^ 8)) = true
    rw [List.all_eq_true] at h' ⊢
    intro c hc
    have:=of_decide_eq_true (h' c hc)
    exact decide_eq_true (by omega)
  | .lst ds,h=>Dat.pys_short ds h
  | .tup ds,h=>Dat.pys_short ds h
theorem Dat.pys_short:∀ ds:List Dat,Dat.shws ds = true -> PyData.leavesShortAll 13 (Dat.pys ds) = true /\ PyData.showableAll (Dat.pys ds) = true /\ PyData.hasDictAll (Dat.pys ds) = false
  | [],_=>⟨rfl,rfl,rfl⟩
  | d :: ds,h=>by
    have h':(d.shw && Dat.shws ds) = true:=h
    rw [Bool.and_eq_true] at h'
    obtain ⟨a1,a2,a3⟩:=Dat.py_short d h'.1
    obtain ⟨b1,b2,b3⟩:=Dat.pys_short ds h'.2
    refine ⟨?_,?_,?_⟩
    · show (PyData.leavesShort 13 d.py && PyData.leavesShortAll 13 (Dat.pys ds)) = true
      rw [a1,b1];rfl
    · show (PyData.showable d.py && PyData.showableAll (Dat.pys ds)) = true
      rw [a2,b2];rfl
    · show (PyData.hasDict d.py || PyData.hasDictAll (Dat.pys ds)) = false
      rw [a3,b3];rfl
end
mutual
theorem Rep.reads {X:Cx} {pins:List (Addr × Obj)} {σ:St} {H:Hp} {s:Shared} (I:Inv X pins σ H s):∀ {d:Dat} {v:V} {u:Value},Rep X.K H d v -> RelV v u -> ∃ as,Reads s.heap u d.py as
  | .non,v,u,h,r=>by cases (show v = _ from h);cases (show u = _ from r);exact ⟨_,.none⟩
  | .bl b,v,u,h,r=>by cases (show v = _ from h);cases (show u = _ from r);exact ⟨_,.bool b⟩
  | .int i,v,u,h,r=>by cases (show v = _ from h);obtain ⟨t,rfl⟩:=r;exact ⟨_,.int i t⟩
  | .str x,v,u,h,r=>by cases (show v = _ from h);obtain ⟨t,rfl⟩:=r;exact ⟨_,.str x t⟩
  | .lst ds,v,u,h,r=>by
    obtain ⟨a,xs,rfl,hx,hr⟩:=h
    cases (show u = _ from r)
    obtain ⟨its,rv,pl,_⟩:=I.list hx
    obtain ⟨o,e,c,n,dd⟩:=pl.isList
    obtain ⟨as,q⟩:=Reps.reads I hr rv
    exact ⟨_,.list e c dd (by simpa using q)⟩
  | .tup ds,v,u,h,r=>by
    obtain ⟨a,xs,rfl,hx,hr⟩:=h
    cases (show u = _ from r)
    obtain ⟨its,rv,⟨o,e,c,n,dd⟩,_⟩:=I.tuple hx
    obtain ⟨as,q⟩:=Reps.reads I hr rv
    exact ⟨_,.tuple e c dd (by simpa using q)⟩
theorem Reps.reads {X:Cx} {pins:List (Addr × Obj)} {σ:St} {H:Hp} {s:Shared} (I:Inv X pins σ H s):∀ {ds:List Dat} {xs:List V} {us:List Value},Reps X.K H ds xs -> Vals xs us -> ∃ as,ReadsAll s.heap us (Dat.pys ds) as
  | [],xs,us,h,r=>by cases (show xs = _ from h);cases r;exact ⟨_,.nil⟩
  | d :: ds,xs,us,h,r=>by
    obtain ⟨x,r',rfl,h1,h2⟩:=h
    cases r with
    | cons r1 r2=>
      obtain ⟨as,q1⟩:=Rep.reads I h1 r1
      obtain ⟨bs,q2⟩:=Reps.reads I h2 r2
      exact ⟨_,.cons q1 q2⟩
end
section
variable {X:Cx}
inductive vq (K:PySem.W.Frag) (xs:List V) (H:Hp) (Q:VK):Prop
  | mk (a:Addr) (d:Dat) (_:xs = [.ref a]) (_:Rep K H d (.ref a)) (_:d.shw = true) (_:d.blk <= 1048576) (_:d.py.depth <= 60) (_:Q (.str d.py.shown) H):vq K xs H Q
theorem yj (hg:X.A.guards = some []) (hu:X.A.units + 64 < cLine):qD X (.type "str") (vq X.K):=by
  intro pins s σ H xs us Q I r h
  obtain ⟨a,d,rfl,hr,h1,h2,h3,q⟩:=h
  obtain ⟨u,rfl,ru⟩:=jK r
  obtain ⟨as,q1⟩:=hr.reads I ru
  cases (show u = _ from ru)
  obtain ⟨s1,s2,s3⟩:=Dat.py_short d h1
  refine str_of_reads q1 s2 (PyData.noDict_hsm s3) hg (by omega) (fun _ _ e=>e) (fun h' u tk hk=>⟨.str d.py.shown,H,I.kept hk,⟨u,rfl⟩,q⟩) ?_
  exact PyData.shown_fits_bulk (B:=13) (by decide) (by decide) s1 (by rw [Dat.py_blk];exact h2)
inductive vp (K:PySem.W.Frag) (xs:List V) (H:Hp) (Q:VK):Prop
  | mk (p:Addr) (ns:List Int) (_:xs = [.ref p]) (_:SqL K H p (ns.map V.int)) (_:(∀ z ∈ ns,0 <= z /\ z <= 1000000)) (_:ns.length <= 100000) (_:Q (.int ns.sum) H):vp K xs H Q
theorem x0 (hc:X.calm = true):qD X (.builtin "sum") (vp X.K):=by
  intro pins s σ H xs us Q I r h
  obtain ⟨p,ns,rfl,hq,hz,hn,q⟩:=h
  obtain ⟨u,rfl,ru⟩:=jK r
  cases (show u = _ from ru)
  obtain ⟨its,rv,pl,_⟩:=I.list hq
  have hl:=pl.isList
  have hpl:p ≠ s.heap.objs.size:=by
    obtain ⟨o,e,_⟩:=hl
    exact Nat.ne_of_lt (Heap.lt_size e)
  have hlen:its.length = ns.length:=by have:=rv.length;rw [List.length_map] at this;omega
  have hps:∀ j,j <= ns.length -> 0 <= (ns.take j).sum /\ (ns.take j).sum <= 1000000 * (j:Int):=by
    intro j
    induction j with
    | zero=>intro _;simp
    | succ j ih=>
      intro hj
      have:=ih (by omega)
      have e:ns.take (j + 1) = ns.take j ++ [ns[j]'(by omega)]:=by rw [List.take_append_getElem]
      have b:=hz (ns[j]'(by omega)) (List.getElem_mem _)
      rw [e,List.sum_append]
      simp only [List.sum_cons,List.sum_nil]
      constructor
      · omega
      · have:(1000000:Int) * ((j + 1:Nat):Int) = 1000000 * (j:Int) + 1000000:=by omega
        omega
  refine call_sum_walk (wpAny_pyIter_list hl ?_)
  refine ⟨s.heap.objs.size,_,_,_,_,_,fun i=>ns.getD i 0,rfl,Walks.list (prog:=X.prog) (w:=X.w) (A:=X.A.in1) (I.ok.hd hc) _ p hpl its.toArray,⟨⟨_,Heap.get?_push_size _ rfl,rfl,rfl⟩,hl.push _⟩,fun b hb=>?_,fun i v hP=>?_,fun j hj=>?_,fun h' tk t' hk=>?_⟩
  · have hz':(s.heap.push { cls:=.type "list_iterator",data:=.fields #[.ref p,.int 0 0] }).objs.size = s.heap.objs.size + 1:=Heap.size_push ..
    show b < (s.heap.push _).objs.size
    rw [hz']
    rcases List.mem_cons.mp hb with z | z
    · rw [z];exact Nat.lt_succ_self _
    · rw [List.mem_singleton.mp z]
      obtain ⟨o,e,_⟩:=hl
      exact Nat.lt_succ_of_lt (Heap.lt_size e)
  · have e1:its[i]? = some v:=by simpa using hP
    have hi:i < ns.length:=by have h1:=(List.getElem?_eq_some_iff.mp e1).1;omega
    obtain ⟨u',eu,ru'⟩:=rv.get (i:=i) (x:=.int ns[i]) (by simp [hi])
    rw [e1] at eu;cases eu
    obtain ⟨t,e⟩:=ru'
    exact ⟨t,by rw [e];simp [hi]⟩
  · have hj':j < ns.length:=by simp only [List.size_toArray] at hj;omega
    have a1:=hz ns[j] (List.getElem_mem hj')
    have a2:=hps (j + 1) (by omega)
    have e63:(2:Int) ^ 63 = 9223372036854775808:=by decide
    refine ⟨?_,?_⟩
    · show InLong (ns.getD j 0)
      rw [show ns.getD j 0 = ns[j] by simp [hj']]
      unfold InLong
      rw [e63];omega
    · rw [preSum_getD]
      unfold InLong
      rw [e63]
      have:((j + 1:Nat):Int) <= 100000:=by omega
      omega
  · have k:∀ b o,s.heap.get? b = some o -> h'.get? b = some o:=fun b o e=>hk b o (by simp;exact Nat.ne_of_lt (Heap.lt_size e)) (Heap.get?_push_of_some _ e)
    refine ⟨.int ns.sum,H,I.kept k,⟨t',?_⟩,q⟩
    rw [preSum_getD]
    have:ns.take its.toArray.size = ns:=by rw [List.size_toArray,hlen,List.take_length]
    rw [this]
end
theorem Yx {K:PySem.W.Frag} {k1 k2:Bool} {a1 a2:Addr} {xs ys:List V} {g:TG} {tb:TS} {D:Zn} {σ:St} {H:Hp} (Pv:Nat -> St -> Hp -> Prop) (h0:Pv 0 σ H)
    (hl:∀ i σ H,Pv i σ H -> SqK K k1 H a1 xs /\ SqK K k2 H a2 ys)
    (hs:∀ i x y σ H T,xs[i]? = some x -> ys[i]? = some y -> Pv i σ H -> H T = none -> g (.ref T) σ (upd H T (.tup [x,y])) fun σ2 H2=>tb { D with nx:=Pv (i + 1),ct:=Pv (i + 1),bk:=D.nx } σ2 H2)
    (hd:∀ σ H,Pv (min xs.length ys.length) σ H -> D.nx σ H) :
    ∃ W:Nat -> Nat -> St -> Hp -> Prop,(∃ m,W 0 m σ H) /\ ∀ i m σ H,W i m σ H ->
      ((Itz K k1 k2 a1 a2).stop i H /\ D.nx σ H) \/ ((Itz K k1 k2 a1 a2).go i H /\ ∃ N:St -> Hp -> Prop,(∀ σ' H',N σ' H' -> ∃ m',m' < m /\ W (i + 1) m' σ' H') /\ ∀ x H',(Itz K k1 k2 a1 a2).yld i H x H' -> g x σ H' fun σ2 H2=>tb { D with nx:=N,ct:=N,bk:=D.nx } σ2 H2):=by
  refine ⟨fun i m σ H=>m = min xs.length ys.length - i /\ i <= min xs.length ys.length /\ Pv i σ H,⟨_,rfl,Nat.zero_le _,h0⟩,?_⟩
  rintro i m σ H ⟨rfl,hi,p⟩
  obtain ⟨q1,q2⟩:=hl i σ H p
  by_cases hlt:i < min xs.length ys.length
  · have l1:i < xs.length:=by omega
    have l2:i < ys.length:=by omega
    refine .inr ⟨⟨xs,ys,xs[i],ys[i],q1,q2,by simp [l1],by simp [l2]⟩,Pv (i + 1),fun σ' H' p'=>⟨_,by omega,rfl,hlt,p'⟩,fun x H' y=>?_⟩
    obtain ⟨T,u,v,e1,hT,e2,y1,y2⟩:=y
    subst e1 e2
    exact hs i u v σ H T (y1 xs q1) (y2 ys q2) p hT
  · have e:i = min xs.length ys.length:=by omega
    subst e
    exact .inl ⟨⟨xs,ys,q1,q2,by omega⟩,hd σ H p⟩
section
variable {X:Cx}
end
section
variable {X:Cx} {tg:Expr}
end
section
variable {X:Cx}
inductive Jn (x:V) (vs:List V) (H:Hp) (Q:VK):Prop
  | mk (l:Addr) (xs:List V) (i:Int) (y:V) (_:x = .ref l) (_:vs = [.int i,y]) (_:H l = some (.lst xs)) (_:0 <= i) (_:i < 2 ^ 62) (_:xs.length < sizeLine) (_:Q .non (upd H l (.lst (xs.take i.toNat ++ y :: xs.drop i.toNat)))):Jn  x vs H Q
theorem XW:MtM X "list.insert" Jn:=by
  intro pins s σ H x vs v us Q I rx rv h
  obtain ⟨l,xs,i,y,rfl,rfl,hH,i0,i1,hz,q⟩:=h
  cases rx
  obtain ⟨u1,u2,rfl,r1,r2⟩:=wO rv
  obtain ⟨t,rfl⟩:=r1
  obtain ⟨z,its,n,r,hl,e⟩:=I.lstM hH
  have hlen:=r.length
  refine call_meets F.slot_list_insert ⟨_,e,rfl⟩ F.entry_list_insert (F.args_list_insert_3 _ _ _) (AutoListH.list_insert_list_int_val_1 l its.toArray n i t u2 ?_ (by rw [List.size_toArray];omega)) ⟨e,?_⟩
  · unfold Builtin.List.listFitsIndex
    simp
    omega
  refine ⟨.non,_,I.lset (its':=its.take i.toNat ++ u2 :: its.drop i.toNat) hH e ?_ ((r.take _).append (.cons r2 (r.drop _))) ?_,rfl,q⟩
  · show (have k:=if i < 0 then (i + ((its.toArray.size:Nat):Int)).toNat else min i.toNat its.toArray.size;(its.toArray.extract 0 k).push u2 ++ its.toArray.extract k) = _
    have hk:(if i < 0 then (i + ((its.toArray.size:Nat):Int)).toNat else min i.toNat its.toArray.size) = min i.toNat its.length:=by
      rw [if_neg (by omega),List.size_toArray]
    simp only [hk]
    apply Array.toList_inj.mp
    simp
    by_cases hle:i.toNat <= its.length
    · have h1:(its.drop i.toNat).take (its.length - i.toNat) = its.drop i.toNat:=List.take_of_length_le (by rw [List.length_drop];omega)
      rw [Nat.min_eq_left hle,h1]
    · have h1:its.length <= i.toNat:=by omega
      rw [Nat.min_eq_right h1,List.take_of_length_le h1,List.drop_of_length_le h1]
      simp
  · simp only [List.length_append,List.length_take,List.length_cons,List.length_drop]
    omega
variable {e st:Expr} {te:TE} {tk:TO} {pos p2:Pos}
end
theorem qp {K:PySem.W.Frag} {a:Addr} {xs:List V} {g:TG} {tf:TT} {te:TE} {σ0:St} {n:Nat} {R:List V -> Hp -> Prop} {H:Hp} (Pv:Nat -> List V -> Hp -> Prop) (h0:Pv 0 [] H)
    (h1:∀ i zs H,Pv i zs H -> SqL K H a xs)
    (hs:∀ i x zs H,xs[i]? = some x -> Pv i zs H -> g x σ0 H fun σ4 H4=>σ4.drop n = σ0.drop n /\ tf σ4 H4 fun b H5=>
      if b = true then te σ4 H5 fun v H6=>zs.length < sizeLine /\ Pv (i + 1) (zs ++ [v]) H6 else Pv (i + 1) zs H5)
    (hd:∀ zs H,Pv xs.length zs H -> zs.length <= sizeLine /\ R zs H) :
    ∃ W:Nat -> Nat -> List V -> Hp -> Prop,(∃ m,W 0 m [] H) /\ ∀ i m zs H2,W i m zs H2 ->
      ((Itl K a).stop i H2 /\ zs.length <= sizeLine /\ R zs H2) \/
      ((Itl K a).go i H2 /\ ∃ N:List V -> Hp -> Prop,(∀ zs H',N zs H' -> ∃ m',m' < m /\ W (i + 1) m' zs H') /\ ∀ x H3,(Itl K a).yld i H2 x H3 -> g x σ0 H3 fun σ4 H4=>σ4.drop n = σ0.drop n /\ tf σ4 H4 fun b H5=>
        if b = true then te σ4 H5 fun y H6=>zs.length < sizeLine /\ N (zs ++ [y]) H6 else N zs H5):=by
  refine ⟨fun i m zs H2=>m = xs.length - i /\ i <= xs.length /\ Pv i zs H2,⟨_,rfl,Nat.zero_le _,h0⟩,?_⟩
  rintro i m zs H2 ⟨rfl,hi,p⟩
  have q:=h1 i zs H2 p
  by_cases hlt:i < xs.length
  · refine .inr ⟨⟨xs,xs[i],q,by simp [hlt]⟩,Pv (i + 1),fun zs' H' p'=>⟨_,by omega,rfl,hlt,p'⟩,fun x H3 y=>?_⟩
    obtain ⟨e,y⟩:=y
    subst e
    exact hs i x zs _ (y xs q) p
  · have e:i = xs.length:=by omega
    subst e
    obtain ⟨z1,z2⟩:=hd zs H2 p
    exact .inl ⟨⟨xs,q,Nat.le_refl _⟩,z1,z2⟩
inductive DV (K:PySem.W.Frag) (F:Hp) (n:Nat):V -> Prop
  | non:DV K F n .non
  | bl (b:Bool):DV K F n (.bl b)
  | int (i:Int) (h:i.natAbs <= 10000000000 + n):DV K F n (.int i)
  | str (x:Str) (h:x.length <= n):DV K F n (.str x)
  | lst (a:Addr) (xs:List V) (h:SqL K F a xs) (hl:xs.length <= n) (all:∀ x ∈ xs,DV K F n x):DV K F n (.ref a)
  | tup (a:Addr) (xs:List V) (h:SqT K F a xs) (hl:xs.length <= n) (all:∀ x ∈ xs,DV K F n x):DV K F n (.ref a)
theorem DV.up {K:PySem.W.Frag} {F F':Hp} {n m:Nat} {v:V} (h:DV K F n v) (s:Same F F') (hm:n <= m):DV K F' m v:=by
  induction h with
  | non=>exact .non
  | bl b=>exact .bl b
  | int i h=>exact .int i (by omega)
  | str x h=>exact .str x (by omega)
  | lst a xs h hl all ih=>exact .lst a xs (s.seq h) (by omega) ih
  | tup a xs h hl all ih=>exact .tup a xs (s.sqT h) (by omega) ih
def WX (ex:List Addr) (H:Hp):Hp:=fun c=>if c ∈ ex then none else H c
theorem WX.same {ex:List Addr} {H H':Hp} (h:Same H H'):Same (WX ex H) (WX ex H'):=fun c u e=>by
  unfold WX at e ⊢
  split at e
  · cases e
  · rename_i hc
    rw [if_neg hc]
    exact h c u e
theorem WX.cons {ex:List Addr} {H:Hp} {m:Addr}:Same (WX (m :: ex) H) (WX ex H):=fun c u e=>by
  unfold WX at e ⊢
  split at e
  · cases e
  · rename_i hc
    rw [if_neg (fun z=>hc (List.mem_cons_of_mem _ z))]
    exact e
theorem WX.at {ex:List Addr} {H:Hp} {c:Addr} {o:HO} (h:c ∉ ex) (e:H c = some o):WX ex H c = some o:=by
  unfold WX;rw [if_neg h];exact e
section
variable {X:Cx} {elt tg iter:Expr} {ifs:List Expr} {scope:Scope} {pos:Pos} {wi:TI} {g:TG} {tf:TT} {te:TE}
theorem zbd {y:Str} {py spos:Pos} {g2:TG} (own fr:List Str) (js:List Nat) (hc:X.calm = true) (hk:scope.kind = .function) (hb:yq scope.names X.env.scope.names X.N fr js = true) (hi:PI X tg iter wi)
    (hg:∀ C s H ex,PG (zS X (own ++ fr) scope C s H ex) tg g) (hf:∀ C s H ex,PF (zS X (own ++ fr) scope C s H ex) ifs tf) (he:∀ C s H ex,PE (zS X (own ++ fr) scope C s H ex) elt te)
    (hg2:PG X (.Name y py) g2) (hsw:swapsWith (.ListComp elt [⟨tg,iter,ifs,0⟩] scope pos) (some (.Name y py)) spos.line X.env = pure true:=by rfl)
    (hs:∀ x,foldedSetIterable iter X.env x = pure x:=by intro _;rfl):PS X (.Assign [.Name y py] (.ListComp elt [⟨tg,iter,ifs,0⟩] scope pos) spos) (WR (tLC wi own.length js g tf te) g2):=by
  intro pins s σ H Dn I h
  have B:=Qi hb
  have hasF:∀ y ∈ scope.names,y.2 = NameKind.free -> ∃ c,X.env.cells.lookup y.1 = some c:=fun y hy e=>I.ok.has y.1 (B.free y hy e)
  rw [exec_Assign_Name_used _ _ _ _ hsw]
  refine wpAny_bind (wpAny_standAt (wpAny_bind ?_))
  show wpAny _ X.A (do let _ <- comprehension (.ListComp elt [⟨tg,iter,ifs,0⟩] scope pos) scope X.env _ (newList []) false (eval iter X.env) (some (assign (.Name y py) X.env))) _ _ s
  refine wpAny_bind (wpAny_mono (wpAny_comprehension_free (use:=some (assign (.Name y py) X.env)) (Q:=fun _ s'=>∃ σ' H',Inv X pins σ' H' s' /\ Dn.nx σ' H') rfl hs (Zf hasF) hk (fun y hy e=>B.loc y hy e) (thn (hi pins s σ H _ I h) fun v s1 h1=>thn h1 fun itv s2 h2=>?_)) (fun _ s' hq=>wpAny_pure (wpAny_pure hq)) fun _ _ e=>e)
  obtain ⟨it,fp,tn,J,H2,e,I2,T,st2,f2,W,⟨m0,w0⟩,turn⟩:=h2
  subst e
  have fl:∀ b ∈ fp,b < s2.heap.objs.size:=fun b hb=>let ⟨o,e,_⟩:=T.obj _ _ st2 b hb;Heap.lt_size e
  refine wpAny_newObj_type (wpAny_newFunctionEnv B.cell (by intro y hy;simp at hy) (fun h1 hns hsb=>?_) hk)
  dsimp only at hns hsb ⊢
  generalize e3:s2.heap.push { cls:=.type "list",dict:=none,data:=.seq ([]:List Value).toArray } = h3 at hns hsb ⊢
  have k3:∀ b o,s2.heap.get? b = some o -> h3.get? b = some o:=fun b o e=>by rw [<- e3];exact Heap.get?_push_of_some _ e
  have k4:∀ b o,h3.get? b = some o -> h1.get? b = some o:=fun b o e=>hsb.extBut b o (Nat.ne_of_lt (Heap.lt_size e)) (Heap.get?_push_of_some _ e)
  have I4:Inv (zS X (own ++ fr) scope h3.objs.size { s2 with heap:=h3 } H2 (s2.heap.objs.size :: fp)) [] (upS own.length js σ) H2 { s2 with heap:=h1,toks:=s2.toks + ([]:List (Str × Value)).length }:=
    yo own fr js I2 B hk f2 fl rfl e3.symm rfl hns k4
  have I3:Inv X pins σ H2 { s2 with heap:=h3 }:=I2.kept (t':=s2.toks) k3
  have hz:h3.objs.size = s2.heap.objs.size + 1:=by rw [<- e3,Heap.size_push]
  have hDl:s2.heap.objs.size ≠ h3.objs.size:=by rw [hz];exact Nat.ne_of_lt (Nat.lt_succ_self _)
  have hacc:h1.get? s2.heap.objs.size = some { cls:=.type "list",data:=.seq ([]:List Value).toArray }:=k4 _ _ (by rw [<- e3];exact Heap.get?_push_size _ rfl)
  have fpC:=(I3.fpOk (b:=h3.objs.size) (Nat.le_refl _) (I3.hok.fresh (Nat.le_refl _))).2
  generalize eD:s2.heap.objs.size = D at *
  generalize eC:h3.objs.size = C at *
  have fD:∀ b ∈ fp,D ≠ b:=fun b hb=>Nat.ne_of_gt (fl b hb)
  have hx:∀ x c,(qd X.env.cells scope.names []).lookup x = some c -> c ≠ D:=fun x c e=>by
    obtain ⟨v,q⟩:=I2.cell x c (zH e hasF)
    rw [<- eD];exact Nat.ne_of_lt q.lt
  have hx2:∀ b ∈ fp,∀ x c,(qd X.env.cells scope.names []).lookup x = some c -> c ≠ b:=fun b hb x c e=>(f2 b hb).2.2.2.2.1 x c (zH e hasF)
  have nfs:∀ b ∈ D :: fp,b ∉ frs X.stack:=I4.ok.exfs
  have fpB:∀ {pins':List (Addr × Obj)} {H':Hp} {b:Addr},b ∈ fp -> H' b = none -> (∀ p ∈ pins',p.1 ≠ b) -> qT (zS X (own ++ fr) scope C { s2 with heap:=h3 } H2 (D :: fp)) pins' H' b:=fun {pins' H' b} hb hn hp=>
    ⟨hn,(I4.ok.exf b (List.mem_cons_of_mem _ hb)).1,nfs b (List.mem_cons_of_mem _ hb),.inl (List.mem_cons_of_mem _ hb),fun x c e=>hx2 b hb x c e,fun p h=>hp p (by simpa using h)⟩
  have fpD:∀ {pins':List (Addr × Obj)} {H':Hp},H' D = none -> (∀ p ∈ pins',p.1 ≠ D) -> qT (zS X (own ++ fr) scope C { s2 with heap:=h3 } H2 (D :: fp)) pins' H' D:=fun {pins' H'} hn hp=>
    ⟨hn,hDl,nfs D List.mem_cons_self,.inl List.mem_cons_self,fun x c e=>hx x c e,fun p h=>hp p (by simpa using h)⟩
  have loop:∀ s4:Shared,s4 = { s2 with heap:=h1,toks:=s2.toks + ([]:List (Str × Value)).length } ->
      codeAny (model X.prog X.w) X.A (.compLoop (.ListComp elt [⟨tg,iter,ifs,0⟩] scope pos) 0 (.ref it) (.ref D) (compEnvC scope (qd X.env.cells scope.names []) C X.env))
        (compPost (model X.prog X.w) X.A X.xe (some (assign (.Name y py) X.env)) (fun _ s'=>∃ σ' H',Inv X pins σ' H' s' /\ Dn.nx σ' H') (.ref D) C) s4:=by
    intro s4 e4
    refine wu (fun n s'=>∃ i ys its H',∃ z:Nat,Inv (zS X (own ++ fr) scope C { s2 with heap:=h3 } H2 (D :: fp)) [] (upS own.length js σ) H' s' /\ tn i s'.heap /\ (∀ b ∈ fp,H' b = none) /\ H' D = none /\
      s'.heap.get? D = some { cls:=.type "list",data:=.seq (its:List Value).toArray z } /\ Vals ys its /\ W i n ys H') ?_ m0 ?_
    · rintro n s5 ⟨i,ys,its,H5,z5,I5,st5,fr5,hD5,ho5,rv5,w5⟩
      have I5':=I5.pinned (fp:=[D]) (fun b hb=>by rw [List.mem_singleton.mp hb];exact fpD hD5 (fun p hp=>absurd hp (by simp))) (fun b hb=>by
        rw [List.mem_singleton.mp hb];exact ⟨_,ho5,fun v q=>nomatch q⟩)
      have pD:∀ p ∈ [] ++ zG [D] s5.heap,p.1 = D:=fun p hp=>by
        rw [List.nil_append] at hp
        exact List.mem_singleton.mp (j3 hp).1
      have mD:(D,({ cls:=.type "list",data:=.seq its.toArray z5 }:Obj)) ∈ [] ++ zG [D] s5.heap:=by
        rw [List.nil_append];exact qo (List.mem_singleton.mpr rfl) ho5
      have fp5:∀ {H':Hp},(∀ b ∈ fp,H' b = none) -> ∀ b ∈ fp,qT (zS X (own ++ fr) scope C { s2 with heap:=h3 } H2 (D :: fp)) ([] ++ zG [D] s5.heap) H' b:=fun hn b hb=>fpB hb (hn b hb) fun p hp=>by
        rw [pD p hp];exact fD b hb
      rcases turn i n ys H5 w5 with ⟨stop,hlen,q⟩ | ⟨go,N,hN,step⟩
      · refine thn (T.done (zS X (own ++ fr) scope C { s2 with heap:=h3 } H2 (D :: fp)) rfl rfl rfl hc i _ s5 _ H5 _ I5' (fp5 fr5) st5 stop) fun r s6 ⟨hr,I6⟩=>?_
        subst hr
        obtain ⟨m6,hn6,_⟩:=I6.loc
        obtain ⟨o6,nD6,_⟩:=I6.pin (D,_) (List.mem_append_right _ mD)
        have k7:∀ b o,b ≠ C -> s6.heap.get? b = some o -> s6.heap.get? b = some o:=fun b o _ e=>e
        have J0:Inv X pins σ (upd H5 D (.lst ys)) s6:=by
          refine I3.call' (s':=s6) (ch:=D :: fp) I6.os (xr (Qo I6.base (Nat.le_of_eq eC) k7) List.mem_cons_self (I2.hok.fresh ?_)) (j4 (y9 I6.hok I6.free k7) nD6 ⟨hlen,its,z5,rv5,k7 D _ hDl o6⟩) I6.bare fun b hb=>?_
          · rw [<- eD];exact Nat.le_refl _
          · rcases List.mem_cons.mp hb with y | hb
            · subst y
              refine ⟨.inr (by rw [<- eD];exact I2.sz),by rw [<- eD];exact Nat.ne_of_gt I2.lt,fun x c e=>?_,fun p hp=>?_⟩
              · obtain ⟨v,q⟩:=I2.cell x c e
                rw [<- eD];exact Nat.ne_of_lt q.lt
              · rw [<- eD];exact Nat.ne_of_lt (Heap.lt_size (I2.pin p hp).1)
            · obtain ⟨_,g1,_,g3,g4,g5⟩:=f2 b hb
              exact ⟨g3,g1,g4,g5⟩
        obtain ⟨oC,eoC,dC⟩:∃ o,s6.heap.get? C = some o /\ ∀ v,o.data ≠ .cell v:=by
          obtain ⟨o,es,ep,ho,hd,_⟩:=hn6
          exact ⟨o,ho,fun v z=>by rw [hd] at z;cases z⟩
        have hC0:(upd H5 D (.lst ys)) C = none:=by
          rw [zu (Ne.symm hDl)];exact I6.free
        have J1:=J0.pinned (fp:=[C]) (fun b hb=>by rw [List.mem_singleton.mp hb];exact ⟨hC0,fpC⟩) (fun b hb=>by rw [List.mem_singleton.mp hb];exact ⟨oC,eoC,dC⟩)
        have mC:(C,oC) ∈ pins ++ zG [C] s6.heap:=List.mem_append_right _ (qo (List.mem_singleton.mpr rfl) eoC)
        refine thn (hg2 _ s6 σ _ (.ref D) (.ref D) _ J1 rfl (q D nD6)) fun _ s8 ⟨σ8,H8,I8,q8⟩=>?_
        obtain ⟨e8,n8,_⟩:=I8.pin (C,oC) (List.mem_append_right _ mC)
        refine ⟨m6,?_,fun h9 hs9=>⟨σ8,H8,?_,q8⟩⟩
        · obtain ⟨o,es,ep,ho,r⟩:=hn6
          have ho':s6.heap.get? C = some o:=ho
          rw [eoC] at ho';cases ho'
          exact ⟨oC,es,ep,e8,r⟩
        · obtain ⟨g1,_,g3,g4,g5⟩:=fpC
          exact (I8.unpinned).turned (t':=s8.toks) (it:=C) (fun b o hb e=>hs9.extBut b o hb e) n8 g1 g3 g4 g5
      · refine thn (T.item (zS X (own ++ fr) scope C { s2 with heap:=h3 } H2 (D :: fp)) rfl rfl rfl hc i _ s5 _ H5 _ I5' (fp5 fr5) st5 go) fun r s6 ⟨u,hr,h6⟩=>?_
        subst hr
        refine thn h6 fun _ s7 ⟨x,H7,I7,r7,y7,st7,fr7⟩=>?_
        have I7':=I7.pinned (fp5 fr7) (T.obj _ _ st7)
        refine thn (hg _ _ _ _ _ s7 _ H7 x u _ I7' r7 (step x H7 y7)) fun _ s8 ⟨σ8,H8,I8,hd8,q8⟩=>?_
        refine thn (hf _ _ _ _ _ s8 σ8 H8 _ I8 q8) fun ok s9 ⟨H9,I9,q9⟩=>?_
        have weak:∀ {H':Hp} {s':Shared},Inv (zS X (own ++ fr) scope C { s2 with heap:=h3 } H2 (D :: fp)) (([] ++ zG [D] s5.heap) ++ zG fp s7.heap) σ8 H' s' ->
            Inv (zS X (own ++ fr) scope C { s2 with heap:=h3 } H2 (D :: fp)) [] (upS own.length js σ) H' s':=fun {H' s'} J=>by
          refine (J.unpinned).unpinned.weak (I5.len.trans J.len.symm) fun k v e=>?_
          obtain ⟨hn,e1,_⟩:=jL e
          rw [<- hd8,List.getElem?_drop] at e1
          rw [<- e1]
          congr 1
          omega
        have mF:∀ b ∈ fp,∀ o,s7.heap.get? b = some o -> (b,o) ∈ ([] ++ zG [D] s5.heap) ++ zG fp s7.heap:=fun b hb o e=>List.mem_append_right _ (qo hb e)
        have mD':=List.mem_append_left (zG fp s7.heap) mD
        have frB:∀ {H':Hp} {s':Shared},Inv (zS X (own ++ fr) scope C { s2 with heap:=h3 } H2 (D :: fp)) (([] ++ zG [D] s5.heap) ++ zG fp s7.heap) σ8 H' s' -> ∀ b ∈ fp,H' b = none:=fun {H' s'} J b hb=>by
          obtain ⟨o,e,_⟩:=T.obj _ _ st7 b hb
          exact (J.pin (b,o) (List.mem_append_right _ (mF b hb o e))).2.1
        cases ok with
        | false=>
          have q9':N ys H9:=by simpa using q9
          obtain ⟨m',hm,w'⟩:=hN _ _ q9'
          obtain ⟨o9,nD9,_⟩:=I9.pin (D,_) (List.mem_append_right _ mD')
          exact ⟨m',hm,i + 1,ys,its,H9,z5,weak I9,T.keep _ _ _ st7 fun b hb o e=>(I9.pin (b,o) (List.mem_append_right _ (mF b hb o e))).1,frB I9,nD9,o9,rv5,w'⟩
        | true=>
          have q9':te σ8 H9 fun y H6=>ys.length < sizeLine /\ N (ys ++ [y]) H6:=by simpa using q9
          refine thn (he _ _ _ _ _ s9 σ8 H9 _ I9 q9') fun yv s10 ⟨y,H10,I10,r10,hlt,w10⟩=>?_
          obtain ⟨m',hm,w'⟩:=hN _ _ w10
          obtain ⟨o10,nD10,_⟩:=I10.pin (D,_) (List.mem_append_right _ mD')
          refine wpAny_list_append_plain (l:=D) (items:=its.toArray) (hsz:=by rw [List.size_toArray,<- rv5.length];exact Nat.le_of_lt hlt) ⟨_,o10⟩ fun h11 hl11 hs11=>?_
          obtain ⟨z11,e11⟩:=hl11
          refine ⟨m',hm,i + 1,ys ++ [y],its ++ [yv],H10,z11,?_,T.keep _ _ _ st7 fun b hb o e=>hs11.extBut b o (Ne.symm (fD b hb)) (I10.pin (b,o) (List.mem_append_right _ (mF b hb o e))).1,frB I10,nD10,?_,rv5.append (.cons r10 .nil),w'⟩
          · exact (weak I10).turned (t':=s10.toks) (it:=D) (fun b o hb e=>hs11.extBut b o hb e) nD10 hDl (.inl List.mem_cons_self) (fun x c e=>hx x c e) fun p hp=>absurd (show p ∈ ([]:List (Addr × Obj)) from hp) (by simp)
          · rw [e11];simp
    · subst e4
      exact ⟨0,[],[],H2,0,I4,T.keep _ _ _ st2 fun b hb o e=>k4 b o (k3 b o e),fun b hb=>(f2 b hb).1,I2.hok.fresh (by rw [<- eD];exact Nat.le_refl _),hacc,.nil,w0⟩
  exact codeAny_compStart_list (loop _ rfl) (T.self X.A 0 _ _ _ (T.keep _ _ _ st2 fun b hb o e=>k4 b o (k3 b o e)) (loop _ rfl))
theorem zan {x y:Str} {px py spos:Pos} {g2:TG} (fr:List Str) (js:List Nat) (hc:X.calm = true) (hk:scope.kind = .function) (hb:wv scope.names X.env.scope.names X.N [x] fr js = true) (hi:PI X (.Name x px) iter wi)
    (hf:∀ C s H ex,PF (zS X ([x] ++ fr) scope C s H ex) ifs tf) (he:∀ C s H ex,PE (zS X ([x] ++ fr) scope C s H ex) elt te)
    (hg2:PG X (.Name y py) g2) (hsw:swapsWith (.ListComp elt [⟨.Name x px,iter,ifs,0⟩] scope pos) (some (.Name y py)) spos.line X.env = pure true:=by rfl)
    (hs:∀ x,foldedSetIterable iter X.env x = pure x:=by intro _;rfl):PS X (.Assign [.Name y py] (.ListComp elt [⟨.Name x px,iter,ifs,0⟩] scope pos) spos) (WR (tLC wi 1 js (vf 0) tf te) g2):=by
  obtain ⟨h1,h2,h3⟩:=x3 hb
  exact zbd [x] fr js hc hk h1 hi (fun C s H ex=>yQ (h2 x (by simp)) h3 rfl) hf he hg2 hsw hs
end
theorem Vals.mem {u:Value}:∀ {xs:List V} {us:List Value},Vals xs us -> u ∈ us -> ∃ x ∈ xs,RelV x u
  | _,_,.nil,h=>by cases h
  | x :: xs,v :: vs,.cons r t,h=>by
    rcases List.mem_cons.mp h with e | h
    · rw [e];exact ⟨x,List.mem_cons_self,r⟩
    · obtain ⟨y,hy,ry⟩:=Vals.mem t h
      exact ⟨y,List.mem_cons_of_mem _ hy,ry⟩
section
variable {X:Cx}
inductive xo (K:PySem.W.Frag) (x:V) (y:V) (H:Hp) (Q:VK):Prop
  | mk (a b:Addr) (xs:List V) (_:x = .ref a) (_:y = .ref b) (_:SqL K H a xs) (_:SqL K H b []) (_:Q (.bl (!xs.isEmpty)) H):xo K x y H Q
theorem vU (hu:X.A.units < cLine):OpR X (compareOp .NotEq) (xo X.K):=by
  intro pins s σ H x y v u Q I rx ry h
  obtain ⟨a,b,xs,rfl,rfl,hx,hy,q⟩:=h
  cases rx
  cases ry
  obtain ⟨its1,r1,p1,z1⟩:=I.list hx
  obtain ⟨its2,r2,p2,z2⟩:=I.list hy
  cases r2
  cases r1 with
  | nil=>exact SeqAt.RcNeAt.lists (e:=fun _=>true) p1.isList p2.isList rfl hu (fun j h1 _=>by simp at h1) _ _ _ _ ⟨.bl _,H,I,rfl,q⟩
  | cons r t=>exact SeqAt.RcNeAt.lists_lengths p1.isList p2.isList (by simp) hu _ _ _ _ ⟨.bl _,H,I,rfl,q⟩
end
theorem Zs {M:Model} {A:Around} {E:Value -> Shared -> Prop} {s:Shared} {a:Addr} {Q:Option Obj -> Shared -> Prop} (h:Q (s.heap.get? a) s):wpAny M A (loadIfAlive a) Q E s:=fun Γ p hΓ=>by
  show Sem.wp M Γ (.loadIfAlive a .pure) _ _ p s
  rw [Sem.wp_loadIfAlive]
  exact wpAny_pure (M:=M) (A:=A) (E:=E) (Q:=Q) h Γ p hΓ
def xp (h:Heap) (z TI TO T0:Addr) (b1:Bool):Prop:=h.get? z = some { cls:=.type "zip",data:=.fields #[rawInt T0,.bool b1,.bool false,.ref TI,.ref TO] }
section
variable {prog:Program} {w:World} {A:Around} {E:Value -> Shared -> Prop} {s:Shared}
theorem wL {z TI TO T0:Addr} {b1:Bool} {Q:Bool -> Shared -> Prop} (hz:xp s.heap z TI TO T0 b1) (hT0:∃ o,s.heap.get? T0 = some o)
    (hQ:∀ h',xp h' z TI TO T0 true -> Heap.SameBut z s.heap h' -> Q false { s with heap:=h' }):wpAny (model prog w) A (Builtin.SmallTypes.ownedTupleIsFree (.ref z)) Q E s:=by
  obtain ⟨o0,e0⟩:=hT0
  unfold Builtin.SmallTypes.ownedTupleIsFree
  refine wpAny_bind (wpAny_field hz rfl (x:=rawInt T0) rfl ?_)
  show wpAny _ _ (loadIfAlive ((T0:Nat):Int).toNat >>= _) _ _ _
  refine wpAny_bind (Zs ?_)
  rw [Int.toNat_natCast,e0]
  show wpAny _ _ (field (.ref z) 1 >>= _) _ _ _
  refine wpAny_bind (wpAny_field hz rfl (x:=.bool b1) rfl ?_)
  cases b1 with
  | true=>exact wpAny_pure (hQ s.heap hz (Heap.SameBut.refl _ _))
  | false=>
    refine wpAny_bind (wpAny_setField_rec hz (by simp) fun g1 hz1 hs1=>?_)
    exact wpAny_pure (hQ g1 hz1 hs1)
theorem JR {k1 k2:Bool} {z TI TO i1 i2 a1 a2 T0:Addr} {b1:Bool} {i:Nat} {xs ys:Array Value} {x y:Value} {Q:Option Value -> Shared -> Prop} (N:xI z TI TO i1 i2) (hz:xp s.heap z TI TO T0 b1) (hT0:∃ o,s.heap.get? T0 = some o)
    (hTI:IsPair s.heap TI (.ref i1) (.ref i2)) (h1:ItrK k1 s.heap i1 a1 i) (h2:ItrK k2 s.heap i2 a2 i) (l1:SeqK k1 s.heap a1 xs) (l2:SeqK k2 s.heap a2 ys) (m1:∀ b ∈ [z,i1,i2],a1 ≠ b) (m2:∀ b ∈ [z,i1,i2],a2 ≠ b) (hx:xs[i]? = some x) (hy:ys[i]? = some y)
    (hQ:∀ h',xp h' z TI TO T0 true -> IsPair h' TI (.ref i1) (.ref i2) -> ItrK k1 h' i1 a1 (i + 1) -> ItrK k2 h' i2 a2 (i + 1) -> IsPair h' s.heap.objs.size x y -> h'.objs.size = s.heap.objs.size + 1 ->
      (∀ c o,c ∉ [z,i1,i2] -> s.heap.get? c = some o -> h'.get? c = some o) -> Q (some (.ref s.heap.objs.size)) { s with heap:=h' }):wpAny (model prog w) A (pyNext (.ref z)) Q E s:=by
  have hT:s.TypeIs (.ref z) "zip" :=⟨_,hz,rfl⟩
  unfold pyNext;refine wpAny_bind (wpAny_attempt (wpAny_callSpecial?_slot (name:=Str.ofString "__next__") hT F.slot_zip_next (wpAny_call_entry F.slot_zip_next hT F.entry_zip_next ?_ (F.args_zip_next_1 _))))
  show wpAny _ _ (field (.ref z) 2 >>= _) _ _ _;refine wpAny_bind (wpAny_field hz rfl (x:=.bool false) rfl ?_)
  show wpAny _ _ (field (.ref z) 3 >>= _) _ _ _;refine wpAny_bind (wpAny_field hz rfl (x:=.ref TI) rfl (wpAny_bind (wpAny_seqItems hTI rfl ?_)))
  show wpAny _ _ (Builtin.SmallTypes.ownedTupleIsFree (.ref z) >>= _) _ _ _;refine wpAny_bind (wL hz hT0 fun g1 hz1 hs1=>?_)
  simp only [Bool.false_eq_true,if_false]
  refine wpAny_bind ?_
  rw [<- Array.forIn_toList]
  simp only [List.forIn_cons,List.forIn_nil]
  refine wpAny_bind (wpAny_bind (wpAny_holding ?_));show wpAny _ _ (Builtin.SmallTypes.nextOf (.ref i1) >>= _) _ _ _
  refine wpAny_bind (qG (h1.at fun o e=>hs1.extBut _ o N.c e) (l1.at fun o e=>hs1.extBut _ o (m1 z (by simp)) e) hx fun g2 h12 hs2=>wpAny_pure (wpAny_pure ?_))
  refine wpAny_bind (wpAny_bind (wpAny_holding ?_));show wpAny _ _ (Builtin.SmallTypes.nextOf (.ref i2) >>= _) _ _ _
  have c2:∀ c o,c ∉ [z,i1] -> s.heap.get? c = some o -> g2.get? c = some o:=fun c o hc e=>hs2.extBut _ o (fun q=>hc (by simp [q])) (hs1.extBut _ o (fun q=>hc (by simp [q])) e)
  refine wpAny_bind (qG (h2.at fun o e=>c2 _ o (by simp [N.d,Ne.symm N.j]) e) (l2.at fun o e=>c2 _ o (by simp [m2 z (by simp),m2 i1 (by simp)]) e) hy fun g4 h24 hs4=>wpAny_pure (wpAny_pure ?_))
  refine wpAny_pure ?_
  have zs:g4.objs.size = s.heap.objs.size:=by rw [hs4.1,hs2.1,hs1.1]
  have hz4:xp g4 z TI TO T0 true:=hs4.extBut _ _ (Ne.symm N.d) (hs2.extBut _ _ (Ne.symm N.c) hz1)
  have k4:∀ c o,c ∉ [z,i1,i2] -> s.heap.get? c = some o -> g4.get? c = some o:=fun c o hc e=>hs4.extBut _ o (fun q=>hc (by simp [q])) (c2 c o (fun q=>hc (by simp at q ⊢;rcases q with q | q <;> simp [q])) e)
  show wpAny _ _ (newTuple [x,y] >>= _) _ _ _
  refine wpAny_bind (wpAny_newTuple ?_)
  refine wpAny_pure ⟨_,rfl,wpAny_pure ?_⟩
  show Q (some (.ref g4.objs.size)) _
  rw [zs]
  have hT8:IsPair (g4.push { cls:=.type "tuple",data:=.seq #[x,y] }) s.heap.objs.size x y:=by rw [<- zs];exact Heap.get?_push_size _ rfl
  exact hQ _ (Heap.get?_push_of_some _ hz4) (Heap.get?_push_of_some _ (k4 _ _ (by simp [N.a,N.f,N.g]) hTI)) (h12.at fun o e=>Heap.get?_push_of_some _ (hs4.extBut _ o N.j e)) (h24.at fun o e=>Heap.get?_push_of_some _ e) hT8 (by rw [Heap.size_push,zs]) fun c o hc e=>Heap.get?_push_of_some _ (k4 c o hc e)
theorem Vh {k1 k2:Bool} {z TI TO i1 i2 a1 a2 T0:Addr} {b1:Bool} {i:Nat} {xs ys:Array Value} {Q:Option Value -> Shared -> Prop} (hh:A.handled = none) (N:xI z TI TO i1 i2) (hz:xp s.heap z TI TO T0 b1) (hT0:∃ o,s.heap.get? T0 = some o)
    (hTI:IsPair s.heap TI (.ref i1) (.ref i2)) (h1:ItrK k1 s.heap i1 a1 i) (h2:ItrK k2 s.heap i2 a2 i) (l1:SeqK k1 s.heap a1 xs) (l2:SeqK k2 s.heap a2 ys) (m1:∀ b ∈ [z,i1,i2],a1 ≠ b) (m2:∀ b ∈ [z,i1,i2],a2 ≠ b) (hend:xs[i]? = none \/ ys[i]? = none)
    (hQ:∀ h',(∀ c o,c ∉ [z,i1,i2] -> s.heap.get? c = some o -> h'.get? c = some o) -> Q none { s with heap:=h' }):wpAny (model prog w) A (pyNext (.ref z)) Q E s:=by
  have hT:s.TypeIs (.ref z) "zip" :=⟨_,hz,rfl⟩
  unfold pyNext;refine wpAny_bind (wpAny_attempt (wpAny_callSpecial?_slot (name:=Str.ofString "__next__") hT F.slot_zip_next (wpAny_call_entry F.slot_zip_next hT F.entry_zip_next ?_ (F.args_zip_next_1 _))))
  show wpAny _ _ (field (.ref z) 2 >>= _) _ _ _;refine wpAny_bind (wpAny_field hz rfl (x:=.bool false) rfl ?_)
  show wpAny _ _ (field (.ref z) 3 >>= _) _ _ _;refine wpAny_bind (wpAny_field hz rfl (x:=.ref TI) rfl (wpAny_bind (wpAny_seqItems hTI rfl ?_)))
  show wpAny _ _ (Builtin.SmallTypes.ownedTupleIsFree (.ref z) >>= _) _ _ _;refine wpAny_bind (wL hz hT0 fun g1 hz1 hs1=>?_)
  simp only [Bool.false_eq_true,if_false]
  refine wpAny_bind ?_
  rw [<- Array.forIn_toList]
  simp only [List.forIn_cons,List.forIn_nil]
  refine wpAny_bind (wpAny_bind (wpAny_holding ?_));show wpAny _ _ (Builtin.SmallTypes.nextOf (.ref i1) >>= _) _ _ _
  cases hx:xs[i]? with
  | none=>
    refine wpAny_bind (jx hh (h1.at fun o e=>hs1.extBut _ o N.c e) (l1.at fun o e=>hs1.extBut _ o (m1 z (by simp)) e) hx fun g2 e hs2 he=>?_)
    obtain ⟨oe,hoe,hce⟩:=he
    refine wpAny_bind (wpAny_isInstance (T:= "StopIteration") (b:=true) ⟨oe,hoe,hce⟩ isSubtype_stop (wpAny_pure (hQ _ fun c o hc q=>?_)))
    exact hs2 _ o (fun q=>hc (by simp [q])) (hs1.extBut _ o (fun q=>hc (by simp [q])) q)
  | some x=>
    have hy:ys[i]? = none:=by rcases hend with q | q;rw [hx] at q;cases q;exact q
    refine wpAny_bind (qG (h1.at fun o e=>hs1.extBut _ o N.c e) (l1.at fun o e=>hs1.extBut _ o (m1 z (by simp)) e) hx fun g2 h12 hs2=>wpAny_pure (wpAny_pure ?_))
    refine wpAny_bind (wpAny_bind (wpAny_holding ?_));show wpAny _ _ (Builtin.SmallTypes.nextOf (.ref i2) >>= _) _ _ _
    have c2:∀ c o,c ∉ [z,i1] -> s.heap.get? c = some o -> g2.get? c = some o:=fun c o hc e=>hs2.extBut _ o (fun q=>hc (by simp [q])) (hs1.extBut _ o (fun q=>hc (by simp [q])) e)
    refine wpAny_bind (jx hh (h2.at fun o e=>c2 _ o (by simp [N.d,Ne.symm N.j]) e) (l2.at fun o e=>c2 _ o (by simp [m2 z (by simp),m2 i1 (by simp)]) e) hy fun g4 e hs4 he=>?_)
    obtain ⟨oe,hoe,hce⟩:=he
    refine wpAny_bind (wpAny_isInstance (T:= "StopIteration") (b:=true) ⟨oe,hoe,hce⟩ isSubtype_stop (wpAny_pure (hQ _ fun c o hc q=>?_)))
    exact hs4 _ o (fun q=>hc (by simp [q])) (c2 c o (fun q=>hc (by simp at q ⊢;rcases q with q | q <;> simp [q])) q)
end
theorem Ql:typeLookup (.type "zip") "__len__" = pure none:=by rw [typeLookup_type,builtinLookup_eq_fast];kernel_rfl
theorem Zo:typeLookup (.type "zip") "__length_hint__" = pure none:=by rw [typeLookup_type,builtinLookup_eq_fast];kernel_rfl
theorem Inv.track {X:Cx} {pins:List (Addr × Obj)} {σ:St} {H:Hp} {s:Shared} {a:Addr} {o:HO} (I:Inv X pins σ H s) (f:qT X pins H a) (new:ObjOk X.prog X.w (upd H a o) s.heap a o):Inv X pins σ (upd H a o) s:=by
  refine I.call' (s':=s) (ch:=[a]) rfl (xr Un.refl (List.mem_singleton.mpr rfl) f.1) (j4 I.hok f.1 new) I.bare fun b hb=>?_
  rw [List.mem_singleton.mp hb]
  exact ⟨f.2.2.2.1,f.2.1,f.2.2.2.2.1,f.2.2.2.2.2⟩
def Tups (H:Hp) (xs ys:List V) (Ts:List Addr):Prop:=∀ (j:Nat) (T:Addr),Ts[j]? = some T -> ∃ x y,xs[j]? = some x /\ ys[j]? = some y /\ H T = some (.tup [x,y])
theorem Tups.same {H H':Hp} {xs ys:List V} {Ts:List Addr} (h:Tups H xs ys Ts) (s:Same H H'):Tups H' xs ys Ts:=fun j T e=>let ⟨x,y,a,b,c⟩:=h j T e;⟨x,y,a,b,s _ _ c⟩
theorem Tups.snoc {H:Hp} {xs ys:List V} {Ts:List Addr} {T:Addr} {x y:V} (h:Tups H xs ys Ts) (hx:xs[Ts.length]? = some x) (hy:ys[Ts.length]? = some y) (hT:H T = some (.tup [x,y])):Tups H xs ys (Ts ++ [T]):=fun j U e=>by
  by_cases hj:j < Ts.length
  · rw [List.getElem?_append_left hj] at e
    exact h j U e
  · rw [List.getElem?_append_right (by omega)] at e
    have:j = Ts.length:=by
      have:=(List.getElem?_eq_some_iff.mp e).1
      simp at this;omega
    subst this
    simp at e
    subst e
    exact ⟨x,y,hx,hy,hT⟩
def ZS (k1 k2:Bool) (h:Heap) (z TI TO i1 i2 a1 a2:Addr) (Ts:List Addr):Prop:=
  (Ts = [] /\ xJ k1 k2 h z TI TO i1 i2 a1 a2 0) \/ ∃ T0 R b1,Ts = T0 :: R /\ xp h z TI TO T0 b1 /\ (∃ o,h.get? T0 = some o) /\ (∃ o,h.get? TO = some o) /\ IsPair h TI (.ref i1) (.ref i2) /\ ItrK k1 h i1 a1 Ts.length /\ ItrK k2 h i2 a2 Ts.length
section
variable {X:Cx} {A:Around} {R:Result -> Shared -> Prop}
theorem WJ {pins:List (Addr × Obj)} {σ:St} {k1 k2:Bool} {z TI TO i1 i2 a1 a2 S:Addr} {xs ys:List V} {res:Value} (hh:A.handled = none) (N:xI z TI TO i1 i2) (hS:S ∉ [z,TI,TO,i1,i2]) (hsz:min xs.length ys.length <= 1000000) :
    ∀ (m:Nat) (s:Shared) (Ts:List Addr) (c:Nat) (H:Hp),min xs.length ys.length - Ts.length = m -> Ts.length <= min xs.length ys.length -> Inv X pins σ H s -> (∀ b ∈ [z,TI,TO,i1,i2,S],qT X pins H b) -> ZS k1 k2 s.heap z TI TO i1 i2 a1 a2 Ts ->
      s.heap.get? S = some { cls:=.type "list",dict:=none,data:=.seq (Ts.map Value.ref).toArray c,slots:=#[] } -> SqK X.K k1 H a1 xs -> SqK X.K k2 H a2 ys -> Tups H xs ys Ts ->
      (∀ s' Ts' c' H',Inv X pins σ H' s' -> Same H H' -> qT X pins H' S -> s'.heap.get? S = some { cls:=.type "list",dict:=none,data:=.seq (Ts'.map Value.ref).toArray c',slots:=#[] } -> Ts'.length = min xs.length ys.length -> Tups H' xs ys Ts' -> R (.ok (.ret res)) s') ->
      codeAny (model X.prog X.w) A (.builtin "list.extend.loop" ⟨[.ref S,.ref z,res],[]⟩) R s:=by
  intro m
  induction m with
  | zero=>
    intro s Ts c H hm hle I hf hz hs hq1 hq2 ht k
    have hlen:Ts.length = min xs.length ys.length:=by omega
    obtain ⟨its1,rv1,p1,_⟩:=I.seqK hq1
    obtain ⟨its2,rv2,p2,_⟩:=I.seqK hq2
    have hend:its1.toArray[Ts.length]? = none \/ its2.toArray[Ts.length]? = none:=by
      have l1:=rv1.length
      have l2:=rv2.length
      by_cases q:xs.length <= ys.length
      · exact .inl (by simp;omega)
      · exact .inr (by simp;omega)
    have fin:∀ h',(∀ b o,b ∉ [z,TO,i1,i2] -> s.heap.get? b = some o -> h'.get? b = some o) -> R (.ok (.ret res)) { s with heap:=h' }:=fun h' hk=>by
      have I':Inv X pins σ H { s with heap:=h' }:=by
        refine I.step (g':=s.gens) (d':=s.drawn) (t':=s.toks) (ch:=[z,TO,i1,i2]) (fun b hb=>?_) (fun b o _ _ hc e _=>hk b o hc e) (fun b o _ _ hc e _=>⟨o.slots,hk b o hc e⟩) (fun _ _ _ _ n=>n) (fun b o hc e=>⟨o,hk b o hc e⟩)
          (fun _ _ e=>e) (fun _ _ _ e=>e) (fun b ps e=>⟨#[],by rw [e];simp⟩) (fun m hm=>?_) (fun b u e=>?_) I.bare
        · obtain ⟨_,g1,_,g3,g4,g5⟩:=hf b (by simp at hb ⊢;rcases hb with q | q | q | q <;> simp [q])
          exact ⟨g3,g1,g4,g5⟩
        · obtain ⟨o,es,ep,ho,r⟩:=hm
          refine ⟨o,es,ep,hk _ o (fun q=>?_) ho,r⟩
          exact (hf _ (by simp at q ⊢;rcases q with q | q | q | q <;> simp [q])).2.1 rfl
        · have tr:∀ b u,H b = some u -> b ∉ [z,TO,i1,i2]:=fun b u e hb=>by
            rw [(hf b (by simp at hb ⊢;rcases hb with q | q | q | q <;> simp [q])).1] at e;cases e
          refine (I.hok b u e).stay (fun c v hc q=>hk c v ?_ q) (fun _ q=>q) fun _ _ q=>q
          rcases hc with z | z
          · rw [z];exact tr b u e
          · exact tr c _ z
      exact k _ Ts c H I' (Same.refl _) (hf S (by simp)) (hk S _ (fun q=>hS (by simp at q ⊢;rcases q with q | q | q | q <;> simp [q])) hs) hlen ht
    refine codeAny_builtin F.entry_extend_loop ?_
    rw [Around.under_plainId F.plain_extend_loop _]
    show wpAny _ A.in1 (pyNext (.ref z) >>= _) _ _ s
    have ne1:∀ b ∈ [z,TO,i1,i2],a1 ≠ b:=fun b hb=>hq1.ne_fp I (hf b (by simp at hb ⊢;rcases hb with q | q | q | q <;> simp [q]))
    have ne2:∀ b ∈ [z,TO,i1,i2],a2 ≠ b:=fun b hb=>hq2.ne_fp I (hf b (by simp at hb ⊢;rcases hb with q | q | q | q <;> simp [q]))
    rcases hz with ⟨rfl,Z⟩ | ⟨T0,Rr,b1,rfl,zh,alive,to,ti,r1,r2⟩
    · exact wpAny_bind (Zq hh N Z p1 p2 ne1 ne2 hend fun h' hk=>wpAny_pure (fin h' hk))
    · exact wpAny_bind (Vh hh N zh alive ti r1 r2 p1 p2 (fun b hb=>ne1 b (by simp at hb ⊢;rcases hb with q | q | q <;> simp [q])) (fun b hb=>ne2 b (by simp at hb ⊢;rcases hb with q | q | q <;> simp [q])) hend fun h' hk=>wpAny_pure (fin h' fun b o hb e=>hk b o (fun q=>hb (by simp at q ⊢;rcases q with q | q | q <;> simp [q])) e))
  | succ m ih=>
    intro s Ts c H hm hle I hf hz hs hq1 hq2 ht k
    have hlt:Ts.length < min xs.length ys.length:=by omega
    obtain ⟨its1,rv1,p1,_⟩:=I.seqK hq1
    obtain ⟨its2,rv2,p2,_⟩:=I.seqK hq2
    have l1:Ts.length < xs.length:=by omega
    have l2:Ts.length < ys.length:=by omega
    have ex:xs[Ts.length]? = some xs[Ts.length]:=by simp [l1]
    have ey:ys[Ts.length]? = some ys[Ts.length]:=by simp [l2]
    obtain ⟨u1,hu1,ru1⟩:=rv1.get ex
    obtain ⟨u2,hu2,ru2⟩:=rv2.get ey
    have sub:∀ b ∈ [z,TO,i1,i2],b ∈ [z,TI,TO,i1,i2,S]:=fun b hb=>by simp at hb ⊢;rcases hb with q | q | q | q <;> simp [q]
    have ne1:∀ b ∈ [z,TO,i1,i2],a1 ≠ b:=fun b hb=>hq1.ne_fp I (hf b (sub b hb))
    have ne2:∀ b ∈ [z,TO,i1,i2],a2 ≠ b:=fun b hb=>hq2.ne_fp I (hf b (sub b hb))
    have lt:∀ b ∈ [z,TI,TO,i1,i2],b < s.heap.objs.size:=fun b hb=>by
      rcases hz with ⟨rfl,Z⟩ | ⟨T0,Rr,b1,rfl,zh,alive,to,ti,r1,r2⟩
      · obtain ⟨a,b',q⟩:=Z.to
        obtain ⟨o1,e1,_⟩:=Z.r1.obj
        obtain ⟨o2,e2,_⟩:=Z.r2.obj
        simp at hb
        rcases hb with r | r | r | r | r
        · rw [r];exact Heap.lt_size Z.zz
        · rw [r];exact Heap.lt_size Z.ti
        · rw [r];exact Heap.lt_size q
        · rw [r];exact Heap.lt_size e1
        · rw [r];exact Heap.lt_size e2
      · obtain ⟨oo,eo⟩:=to
        obtain ⟨o1,e1,_⟩:=r1.obj
        obtain ⟨o2,e2,_⟩:=r2.obj
        simp at hb
        rcases hb with r | r | r | r | r
        · rw [r];exact Heap.lt_size zh
        · rw [r];exact Heap.lt_size ti
        · rw [r];exact Heap.lt_size eo
        · rw [r];exact Heap.lt_size e1
        · rw [r];exact Heap.lt_size e2
    have ltS:S < s.heap.objs.size:=Heap.lt_size hs
    have lt6:∀ b ∈ [z,TI,TO,i1,i2,S],b < s.heap.objs.size:=fun b hb=>by
      simp at hb
      rcases hb with r | r | r | r | r | r
      · exact lt b (by simp [r])
      · exact lt b (by simp [r])
      · exact lt b (by simp [r])
      · exact lt b (by simp [r])
      · exact lt b (by simp [r])
      · rw [r];exact ltS
    have nS:S ∉ [z,TO,i1,i2]:=fun q=>hS (by simp at q ⊢;rcases q with q | q | q | q <;> simp [q])
    have fT:H s.heap.objs.size = none:=I.hok.fresh (Nat.le_refl _)
    have go:∀ h',(∀ b o,b ∉ [z,TO,i1,i2] -> s.heap.get? b = some o -> h'.get? b = some o) -> IsPair h' s.heap.objs.size u1 u2 ->
        (∀ h2:Heap,(∀ b o,b ≠ S -> h'.get? b = some o -> h2.get? b = some o) -> ZS k1 k2 h2 z TI TO i1 i2 a1 a2 (Ts ++ [s.heap.objs.size])) ->
        wpAny (model X.prog X.w) A.in1 (updateSeq S (·.push (.ref s.heap.objs.size)) >>= fun _=>again (.builtin "list.extend.loop" ⟨[.ref S,.ref z,res],[]⟩))
          (fun fin s'=>match fin with | .done f=>R (.ok f) s' | .again c'=>c'.quiet = true /\ codeAny (model X.prog X.w) A c' R s') (fun e s'=>R (.error e) s') { s with heap:=h' }:=by
      intro h' hk hT hzs
      have I1:Inv X pins σ (upd H s.heap.objs.size (.tup [xs[Ts.length],ys[Ts.length]])) { s with heap:=h' }:=
        y6 (s:=s) (h':=h') (t':=s.toks) (ch:=[z,TO,i1,i2]) (its:=[u1,u2]) I (fun b hb=>hf b (sub b hb)) (Nat.le_refl _) hk (by rw [sizeLine_eq];exact (by decide:2 <= 16777216)) (.cons ru1 (.cons ru2 .nil)) (TupX.by hT)
      have f1:∀ b ∈ [z,TI,TO,i1,i2,S],qT X pins (upd H s.heap.objs.size (.tup [xs[Ts.length],ys[Ts.length]])) b:=fun b hb=>⟨by rw [zu (Nat.ne_of_lt (lt6 b hb))];exact (hf b hb).1,(hf b hb).2⟩
      have hs':=hk S _ nS hs
      have sm:Same H (upd H s.heap.objs.size (.tup [xs[Ts.length],ys[Ts.length]])):=ze fT
      obtain ⟨g0,g1,_,g3,g4,g5⟩:=f1 S (by simp)
      have accE:((Ts.map Value.ref).toArray.push (.ref s.heap.objs.size)) = ((Ts ++ [s.heap.objs.size]).map Value.ref).toArray:=by
        rw [List.map_append];simp
      have lenTs:(Ts.map Value.ref).toArray.size = Ts.length:=by simp
      have hbig:16777216 <= sizeLine:=by rw [sizeLine_eq];exact Nat.le_refl _
      refine wpAny_bind (wpAny_updateSeq hs' rfl (wpAny_pure ⟨plainId_quiet F.plain_extend_loop _,?_⟩) (by rw [lenTs];omega) (by show ((Ts.map Value.ref).toArray.push (.ref s.heap.objs.size)).size <= sizeLine + 1;rw [Array.size_push,lenTs];omega))
      have oth:∀ b o,b ≠ S -> h'.get? b = some o -> (h'.update S (Obj.mapSeq (·.push (.ref s.heap.objs.size)))).get? b = some o:=fun b o hb e=>(Heap.get?_update_other _ _ (Ne.symm hb)).trans e
      have I2:=I1.turned (h':=h'.update S (Obj.mapSeq (·.push (.ref s.heap.objs.size)))) (t':=s.toks) (it:=S) oth g0 g1 g3 g4 g5
      have hs2:=Heap.get?_update_self (Obj.mapSeq (·.push (Value.ref s.heap.objs.size))) hs' rfl
      refine ih _ (Ts ++ [s.heap.objs.size]) _ _ (by rw [List.length_append];simp;omega) (by rw [List.length_append];simp;omega) I2 f1 (hzs _ oth) (by rw [<- accE];exact hs2) (by cases k1 with | true=>exact sm.seq hq1 | false=>exact sm.sqT hq1) (by cases k2 with | true=>exact sm.seq hq2 | false=>exact sm.sqT hq2)
        ((ht.same sm).snoc ex ey zf) fun s' Ts' c' H' I' s'' f' e' l' t'=>k s' Ts' c' H' I' (sm.trans s'') f' e' l' t'
    refine codeAny_builtin F.entry_extend_loop ?_
    rw [Around.under_plainId F.plain_extend_loop _]
    show wpAny _ A.in1 (pyNext (.ref z) >>= _) _ _ s
    have up1:∀ {h2:Heap} {h':Heap} {b:Addr} {o:Obj},(∀ b o,b ≠ S -> h'.get? b = some o -> h2.get? b = some o) -> b ∈ [z,TI,TO,i1,i2] -> h'.get? b = some o -> h2.get? b = some o:=fun hh' hb e=>hh' _ _ (fun q=>hS (by rw [<- q];exact hb)) e
    rcases hz with ⟨rfl,Z⟩ | ⟨T0,Rr,b1,rfl,zh,alive,to,ti,r1,r2⟩
    · refine wpAny_bind (wK N Z p1 p2 ne1 ne2 (by simpa using hu1) (by simpa using hu2) fun h' zz ti to r1 r2 hT hsz' hk=>?_)
      refine go h' hk hT fun h2 hh'=>.inr ⟨s.heap.objs.size,[],false,rfl,up1 hh' (by simp) zz,⟨_,hh' _ _ (fun q=>Nat.ne_of_gt ltS q) hT⟩,?_,up1 hh' (by simp) ti,r1.at fun o e=>up1 hh' (by simp) e,r2.at fun o e=>up1 hh' (by simp) e⟩
      obtain ⟨a,b,q⟩:=to
      exact ⟨_,up1 hh' (by simp) q⟩
    · refine wpAny_bind (JR N zh alive ti r1 r2 p1 p2 (fun b hb=>ne1 b (by simp at hb ⊢;rcases hb with q | q | q <;> simp [q])) (fun b hb=>ne2 b (by simp at hb ⊢;rcases hb with q | q | q <;> simp [q])) (by simpa using hu1) (by simpa using hu2) fun h' zz ti' r1' r2' hT hsz' hk=>?_)
      have hT0:T0 ∉ [z,i1,i2] /\ T0 ≠ S:=by
        obtain ⟨x,y,_,_,hH⟩:=ht 0 T0 rfl
        refine ⟨fun q=>?_,fun q=>?_⟩
        · have:=(hf T0 (by simp at q ⊢;rcases q with q | q | q <;> simp [q])).1
          rw [hH] at this;cases this
        · have:=(hf S (by simp)).1
          rw [<- q,hH] at this;cases this
      obtain ⟨o0,e0⟩:=alive
      obtain ⟨oo,eo⟩:=to
      refine go h' (fun b o hb e=>hk b o (fun q=>hb (by simp at q ⊢;rcases q with q | q | q <;> simp [q])) e) hT fun h2 hh'=>.inr ⟨T0,Rr ++ [s.heap.objs.size],true,rfl,up1 hh' (by simp) zz,⟨_,hh' _ _ hT0.2 (hk _ _ hT0.1 e0)⟩,⟨_,up1 hh' (by simp) (hk _ _ (by simp [N.b,N.h,N.i]) eo)⟩,up1 hh' (by simp) ti',?_,?_⟩
      · rw [List.length_append];exact r1'.at fun o e=>up1 hh' (by simp) e
      · rw [List.length_append];exact r2'.at fun o e=>up1 hh' (by simp) e
end
theorem wM:∀ (Ts:List Addr),Vals (Ts.map V.ref) (Ts.map Value.ref)
  | []=>.nil
  | T :: Ts=>.cons rfl (wM Ts)
section
variable {X:Cx}
theorem wH {pins:List (Addr × Obj)} {σ:St} {H:Hp} {s:Shared} {k1 k2:Bool} {z TI TO i1 i2 a1 a2:Addr} {xs ys:List V} {Q:VK} {E:Value -> Shared -> Prop} (hh:X.A.handled = none) (N:xI z TI TO i1 i2) (I:Inv X pins σ H s) (Z:xJ k1 k2 s.heap z TI TO i1 i2 a1 a2 0)
    (hf:∀ b ∈ [z,TI,TO,i1,i2],qT X pins H b) (hq1:SqK X.K k1 H a1 xs) (hq2:SqK X.K k2 H a2 ys) (hsz:min xs.length ys.length <= 1000000)
    (q:∀ (D:Addr) (Ts:List Addr) H',Same H H' -> H D = none -> H' D = some (.lst (Ts.map V.ref)) -> Ts.length = min xs.length ys.length -> Tups H' xs ys Ts -> Q (.ref D) H') :
    wpAny (model X.prog X.w) X.A (call (.type "list") [.ref z]) (EP X pins σ Q) E s:=by
  refine callType_codes (Q₁:=fun obj s₁=>obj = .ref s.heap.objs.size /\ s₁ = { s with heap:=s.heap.push { cls:=.type "list",data:=.seq #[] } }) F.called_list (F.typeCall_list_1 _) F.entry_list_init (code_list_new _ ⟨rfl,rfl⟩) fun obj s₁ h₁=>?_
  obtain ⟨rfl,rfl⟩:=h₁
  have hS:(s.heap.push { cls:=.type "list",data:=.seq #[] }).get? s.heap.objs.size = some { cls:=.type "list",data:=.seq #[] }:=Heap.get?_push_size _ rfl
  have fS:H s.heap.objs.size = none:=I.hok.fresh (Nat.le_refl _)
  have fpS:qT X pins H s.heap.objs.size:=I.fpOk (Nat.le_refl _) fS
  have lt:∀ b ∈ [z,TI,TO,i1,i2],b < s.heap.objs.size:=fun b hb=>by
    obtain ⟨a,b',qq⟩:=Z.to
    obtain ⟨o1,e1,_⟩:=Z.r1.obj
    obtain ⟨o2,e2,_⟩:=Z.r2.obj
    simp at hb
    rcases hb with r | r | r | r | r
    · rw [r];exact Heap.lt_size Z.zz
    · rw [r];exact Heap.lt_size Z.ti
    · rw [r];exact Heap.lt_size qq
    · rw [r];exact Heap.lt_size e1
    · rw [r];exact Heap.lt_size e2
  have nS:s.heap.objs.size ∉ [z,TI,TO,i1,i2]:=fun h=>Nat.lt_irrefl _ (lt _ h)
  have old0:∀ b o,s.heap.get? b = some o -> (s.heap.push { cls:=.type "list",data:=.seq #[] }).get? b = some o:=fun b o e=>Heap.get?_push_of_some _ e
  have neS:∀ b o,s.heap.get? b = some o -> s.heap.objs.size ≠ b:=fun b o e=>Nat.ne_of_gt (Heap.lt_size e)
  refine ⟨⟨_,hS,rfl⟩,F.args_list_init_2 _ _,?_⟩
  generalize s.heap.push { cls:=.type "list",data:=.seq #[] } = h1 at hS old0
  generalize eS:s.heap.objs.size = S at *
  show wpAny _ X.A.in1.in1 (do let old <- Builtin.List.listItems (.ref S);Builtin.List.listUpdate (.ref S) (fun _=>#[]);letGo old.toList.reverse;Builtin.List.listExtendWith (.ref S) (.ref z) .none) _ _ _
  refine wpAny_bind ?_
  unfold Builtin.List.listItems
  refine wpAny_bind (wpAny_seqItems hS rfl (wpAny_pure ?_))
  show wpAny _ _ (updateSeq S (fun _=>#[]) >>= fun _=>letGo (#[]:Array Value).toList.reverse >>= fun _=>Builtin.List.listExtendWith (.ref S) (.ref z) .none) _ _ _
  refine wpAny_bind (wpAny_updateSeq hS rfl ?_)
  have hS₂:=Heap.get?_update_self (Obj.mapSeq (fun _=>(#[]:Array Value))) hS rfl
  have old2:∀ b o,s.heap.get? b = some o -> (h1.update S (Obj.mapSeq (fun _=>(#[]:Array Value)))).get? b = some o:=fun b o e=>(Heap.get?_update_other _ _ (neS b o e)).trans (old0 b o e)
  generalize h1.update S (Obj.mapSeq (fun _=>(#[]:Array Value))) = h2 at hS₂ old2
  refine wpAny_bind (wpAny_letGo ?_)
  have zz2:IsZip h2 z TI TO .none:=old2 _ _ Z.zz
  have hTz:Shared.TypeIs { s with heap:=h2 } (.ref z) "zip" :=⟨_,zz2,rfl⟩
  unfold Builtin.List.listExtendWith
  refine wpAny_bind (wpAny_typeOf hTz ?_)
  have nz:S ≠ z:=fun e=>nS (by rw [e];simp)
  have g1:Builtin.List.listSameRef (.ref S) (.ref z) = false:=by simp [Builtin.List.listSameRef,nz]
  have g2:(Value.type "zip" == Value.type "list") = false:=by decide
  have g3:(Value.type "zip" == Value.type "tuple") = false:=by decide
  simp only [g1,g2,g3,Bool.or_false,Bool.false_eq_true,if_false]
  refine wpAny_bind (wpAny_pyIter_zip zz2 ?_)
  refine wpAny_bind (wpAny_holding ?_)
  unfold Builtin.List.listLengthHint
  refine wpAny_bind (wpAny_specialOf hTz Ql ?_)
  show wpAny _ _ (specialOf (Value.ref z) (Str.ofString "__length_hint__") >>= _) _ _ _
  refine wpAny_bind (wpAny_specialOf hTz Zo ?_)
  refine wpAny_pure ?_
  show wpAny _ _ (rule "list.extend.makes-room" >>= fun _=>Builtin.List.listTouch (.ref S) >>= fun _=>again (.builtin "list.extend.loop" ⟨[.ref S,.ref z,.none],[]⟩)) _ _ _
  refine wpAny_bind (wpAny_rule ?_)
  refine wpAny_bind ?_
  show wpAny _ _ (updateSeq S (·.push .none) >>= fun _=>updateSeq S (·.pop)) _ _ _
  refine wpAny_bind (wpAny_updateSeq hS₂ rfl ?_)
  have hS₃:=Heap.get?_update_self (Obj.mapSeq (·.push Value.none)) hS₂ rfl
  have old3:∀ b o,s.heap.get? b = some o -> (h2.update S (Obj.mapSeq (·.push Value.none))).get? b = some o:=fun b o e=>(Heap.get?_update_other _ _ (neS b o e)).trans (old2 b o e)
  refine wpAny_updateSeq (hz:=by seq_fits) hS₃ rfl ?_
  have hS₄:=Heap.get?_update_self (Obj.mapSeq (·.pop)) hS₃ rfl
  have old4:∀ b o,s.heap.get? b = some o -> ((h2.update S (Obj.mapSeq (·.push Value.none))).update S (Obj.mapSeq (·.pop))).get? b = some o:=fun b o e=>(Heap.get?_update_other _ _ (neS b o e)).trans (old3 b o e)
  generalize (h2.update S (Obj.mapSeq (·.push Value.none))).update S (Obj.mapSeq (·.pop)) = h4 at hS₄ old4
  have I4:Inv X pins σ H { s with heap:=h4 }:=I.kept (t':=s.toks) old4
  have Z4:xJ k1 k2 h4 z TI TO i1 i2 a1 a2 0:=by
    obtain ⟨a,b,qq⟩:=Z.to
    exact ⟨old4 _ _ Z.zz,old4 _ _ Z.ti,⟨a,b,old4 _ _ qq⟩,Z.r1.at fun o e=>old4 _ o e,Z.r2.at fun o e=>old4 _ o e⟩
  refine wpAny_pure ⟨plainId_quiet F.plain_extend_loop _,WJ (A:=X.A.in1) hh N nS hsz _ _ [] _ H rfl (Nat.zero_le _) I4 (fun b hb=>?_) (.inl ⟨rfl,Z4⟩) hS₄ hq1 hq2 (fun j T e=>by simp at e) fun s' Ts c' H' I' sm f e l t=>?_⟩
  · rcases (show b ∈ [z,TI,TO,i1,i2] \/ b = S by simp at hb ⊢;rcases hb with r | r | r | r | r | r <;> simp [r]) with r | r
    · exact hf b r
    · rw [r];exact fpS
  · have I5:=I'.track (o:=.lst (Ts.map V.ref)) f ⟨by rw [List.length_map,l,sizeLine_eq];omega,Ts.map Value.ref,c',wM Ts,e⟩
    exact ⟨rfl,.ref S,_,I5,rfl,q S Ts _ (sm.trans (ze f.1)) fS zf l (t.same (ze f.1))⟩
theorem vQ {l m:Expr} {ta:TA} {p p2 pos pos2:Pos} (hc:X.calm = true) (hg:Gl X "list") (hm:X.mg "list" = none) (hg2:Gl X "zip") (hm2:X.mg "zip" = none) (hv:bootBuiltins "list" = some (.type "list")) (ha:PA X [l,m] ta)
    (hs:starEach [l,m] X.env = [(false,eval l X.env),(false,eval m X.env)]:=by rfl) (hs2:starEach [m] X.env = [(false,eval m X.env)]:=by rfl)
    (he:starEach [.Call (.Name "zip" p2) [l,m] [] pos2] X.env = [(false,eval (.Call (.Name "zip" p2) [l,m] [] pos2) X.env)]:=by rfl) :
    PE X (.Call (.Name "list" p) [.Call (.Name "zip" p2) [l,m] [] pos2] [] pos) (fun σ H Q=>ta σ H fun vs H1=>∃ (k1 k2:Bool) (a1 a2:Addr) (xs ys:List V),vs = [.ref a1,.ref a2] /\ SqK X.K k1 H1 a1 xs /\ SqK X.K k2 H1 a2 ys /\ min xs.length ys.length <= 1000000 /\
      ∀ (D:Addr) (Ts:List Addr) H',Same H1 H' -> H1 D = none -> H' D = some (.lst (Ts.map V.ref)) -> Ts.length = min xs.length ys.length -> Tups H' xs ys Ts -> Q (.ref D) H'):=by
  intro pins s σ H Q I h
  refine wpAny_Call_Name_kw (qZ I hg hm hv ?_ (by decide) (by decide))
  refine PyProof.Rows.callWith_type1 ?_ he rfl
  rw [he]
  refine Calls.spliced_cons ?_
  refine Call_ (qZ I hg2 hm2 boot_zip (PyProof.Rows.callWith_type1 (thn (ha pos2 pins s σ H _ I h) fun us s1 ⟨vs,H1,I1,r1,q1⟩=>?_) (by rw [hs,hs2]) (by rw [hs2];rfl)))
  obtain ⟨k1,k2,a1,a2,xs,ys,e,hq1,hq2,hsz,q⟩:=q1
  subst e
  obtain ⟨u,u',rfl,ru,ru'⟩:=wO r1
  cases ru
  cases ru'
  obtain ⟨its1,rv1,p1,hz1⟩:=I1.seqK hq1
  obtain ⟨its2,rv2,p2,hz2⟩:=I1.seqK hq2
  refine yi p1 p2 fun h' Z hk hsz'=>Calls.spliced_nil ?_
  have I2:Inv X pins σ H1 { s1 with heap:=h' }:=I1.kept (t':=s1.toks) hk
  have N:xI (s1.heap.objs.size + 4) (s1.heap.objs.size + 2) (s1.heap.objs.size + 3) s1.heap.objs.size (s1.heap.objs.size + 1):=by
    constructor <;> (intro e;have e':(_:Nat) = _:=e;omega)
  refine wH (I.ok.hd hc) N I2 Z (fun b hb=>?_) hq1 hq2 hsz q
  have hb':s1.heap.objs.size <= b:=by
    simp only [List.mem_cons,List.not_mem_nil,or_false] at hb
    rcases hb with r | r | r | r | r <;> (rw [r];first | exact Nat.le_add_right _ _ | exact Nat.le_refl _)
  exact I1.fpOk hb' (I1.hok.fresh hb')
end
section
variable {X:Cx}
theorem xz {K:PySem.W.Frag} (h:X.K = K):IxR X (zak K):=by rw [<- h];exact zP
theorem Yt {K:PySem.W.Frag} (h:X.K = K):IxR X (zaj K):=by rw [<- h];exact zaL
theorem qt {K:PySem.W.Frag} (h:X.K = K):qD X (.builtin "len") (jc K):=by rw [<- h];exact zy
end
section
variable {X:Cx}
end
section
open AutoSeq1 (wpAny_loadPart')
end
section
variable {prog:Program} {w:World} {A:Around} {E:Value -> Shared -> Prop} {s:Shared}
theorem Draws.tuple {prog:Program} {w:World} {A:Around} (hh:A.handled = none) (it l:Addr) (hne:l ≠ it) (items:Array Value) :
    Draws prog w A it [it,l] items.size (fun i v=>items[i]? = some v) (fun i h=>h.IsTupleIter it l i /\ h.IsTuple l items) where
  live:=fun _ _ st=>let ⟨o,ho,_⟩:=st.1;⟨o,ho⟩
  frame:=fun _ _ _ st hk=>⟨ItrK.at (kd:=false) st.1 fun o e=>hk it (by simp) o e,SeqK.at (kd:=false) st.2 fun o e=>hk l (by simp) o e⟩
  item:=fun i s Q E hi st hQ=>by
    refine qG (kd:=false) st.1 st.2 (x:=items[i]) (by simp [hi]) fun h' hit' hs'=>?_
    exact hQ _ h' s.toks (by simp [hi]) ⟨hit',SeqK.at (kd:=false) st.2 fun o e=>hs'.extBut l o hne e⟩ hs'
  done:=fun s Q E st hE=>jx (kd:=false) hh st.1 st.2 (by simp) hE
end
section
variable {X:Cx}
end
end L2
namespace L2
open PySem PySem.Spec PyProof.Rows
section
variable {prog:Program} {w:World} {A:Around} {R:Result -> Shared -> Prop} {s:Shared}
end
def Sub:St -> St -> Prop
  | [],[]=>True
  | none :: r,_ :: r'=>Sub r r'
  | some v :: r,x :: r'=>x = some v /\ Sub r r'
  | _,_=>False
section
variable {X:Cx} {elt tg1 iter1:Expr} {ifs1:List Expr} {tg iter:Expr} {ifs:List Expr} {scope:Scope} {pos:Pos} {wi wi1:TI} {g g1:TG} {tf tf1:TT} {te:TE}
end
section
variable {X:Cx} {elt tg1 iter1:Expr} {ifs1:List Expr} {tg iter:Expr} {ifs:List Expr} {scope:Scope} {pos:Pos} {wi wi1:TI} {g g1:TG} {tf tf1:TT} {te:TE}
end
section
variable {X:Cx}
end
theorem Wb {K:PySem.W.Frag} {a:Addr} {xs:List V} {g:TG} {tf:TT} {te:TE} {σ0:St} {n:Nat} {R:List V -> Hp -> Prop} {H:Hp} (Pv:Nat -> List V -> Hp -> Prop) (h0:Pv 0 [] H)
    (h1:∀ i zs H,Pv i zs H -> SqL K H a xs)
    (hs:∀ i x zs H T,xs[i]? = some x -> Pv i zs H -> H T = none -> g (.ref T) σ0 (upd H T (.tup [.int i,x])) fun σ4 H4=>σ4.drop n = σ0.drop n /\ tf σ4 H4 fun b H5=>
      if b = true then te σ4 H5 fun v H6=>zs.length < sizeLine /\ Pv (i + 1) (zs ++ [v]) H6 else Pv (i + 1) zs H5)
    (hd:∀ zs H,Pv xs.length zs H -> zs.length <= sizeLine /\ R zs H) :
    ∃ W:Nat -> Nat -> List V -> Hp -> Prop,(∃ m,W 0 m [] H) /\ ∀ i m zs H2,W i m zs H2 ->
      ((Ite K a).stop i H2 /\ zs.length <= sizeLine /\ R zs H2) \/
      ((Ite K a).go i H2 /\ ∃ N:List V -> Hp -> Prop,(∀ zs H',N zs H' -> ∃ m',m' < m /\ W (i + 1) m' zs H') /\ ∀ x H3,(Ite K a).yld i H2 x H3 -> g x σ0 H3 fun σ4 H4=>σ4.drop n = σ0.drop n /\ tf σ4 H4 fun b H5=>
        if b = true then te σ4 H5 fun y H6=>zs.length < sizeLine /\ N (zs ++ [y]) H6 else N zs H5):=by
  refine ⟨fun i m zs H2=>m = xs.length - i /\ i <= xs.length /\ Pv i zs H2,⟨_,rfl,Nat.zero_le _,h0⟩,?_⟩
  rintro i m zs H2 ⟨rfl,hi,p⟩
  have q:=h1 i zs H2 p
  by_cases hlt:i < xs.length
  · refine .inr ⟨⟨xs,xs[i],q,by simp [hlt]⟩,Pv (i + 1),fun zs' H' p'=>⟨_,by omega,rfl,hlt,p'⟩,fun x H3 y=>?_⟩
    obtain ⟨T,z,e1,hT,e2,y⟩:=y
    subst e1 e2
    exact hs i z zs H2 T (y xs q) p hT
  · have e:i = xs.length:=by omega
    subst e
    obtain ⟨z1,z2⟩:=hd zs H2 p
    exact .inl ⟨⟨xs,q,Nat.le_refl _⟩,z1,z2⟩
section
variable {X:Cx} {elt iter1:Expr} {ifs1:List Expr} {iter:Expr} {ifs:List Expr} {scope:Scope} {pos:Pos} {wi wi1:TI} {tf tf1:TT} {te:TE} {x y z:Str} {px py pz tp tp2:Pos} {kk kk2:Nat}
end
section
variable {X:Cx}
theorem VL {K:PySem.W.Frag} (h:X.K = K) {tg l:Expr} {tl:TE} (hl:PE X l tl):PI X tg l (Y1 K tl):=by rw [<- h];exact zD hl
end
section
variable {X:Cx}
end
section
variable {X:Cx} {elt tg1 iter1:Expr} {ifs1:List Expr} {tg iter:Expr} {ifs:List Expr} {scope:Scope} {pos:Pos} {wi wi1:TI} {g g1:TG} {tf tf1:TT} {te:TE} {x z:Str} {px pz tp tp2:Pos} {kk kk2:Nat}
end
section
variable {κ:Type} [DecidableEq κ]
def qg (kvs:List (κ × V)) (k:κ):Option V:=(kvs.find? fun kv=>decide (kv.1 = k)).map (·.2)
def qS (kvs:List (κ × V)) (k:κ) (v:V):List (κ × V):=
  if (kvs.any fun kv=>decide (kv.1 = k)) = true then kvs.map (fun kv=>if kv.1 = k then (kv.1,v) else kv) else kvs ++ [(k,v)]
theorem qi {p:κ × V} {r:List (κ × V)} {k:κ} (e:p.1 = k):qg (p :: r) k = some p.2:=by simp [qg,List.find?_cons,e]
theorem qx {p:κ × V} {r:List (κ × V)} {k:κ} (e:¬ p.1 = k):qg (p :: r) k = qg r k:=by simp [qg,List.find?_cons,e]
theorem xq (k:κ):∀ kvs:List (κ × V),(kvs.any fun kv=>decide (kv.1 = k)) = (qg kvs k).isSome
  | []=>rfl
  | p :: r=>by
    rw [List.any_cons]
    by_cases e:p.1 = k
    · simp only [qi e,decide_eq_true e,Bool.true_or,Option.isSome_some]
    · rw [qx e,decide_eq_false e,Bool.false_or];exact xq k r
theorem Zu (k j:κ) (y:V):∀ kvs:List (κ × V),qg (kvs.map fun kv=>if kv.1 = k then (kv.1,y) else kv) j = (qg kvs j).map fun x=>if j = k then y else x
  | []=>rfl
  | p :: r=>by
    have ih:=Zu k j y r
    rw [List.map_cons]
    by_cases h:p.1 = k
    · rw [if_pos h]
      by_cases e:p.1 = j
      · rw [qi (p:=(p.1,y)) e,qi e,Option.map_some,if_pos (e.symm.trans h)]
      · rw [qx (p:=(p.1,y)) e,qx e,ih]
    · rw [if_neg h]
      by_cases e:p.1 = j
      · rw [qi (p:=p) e,qi e,Option.map_some,if_neg (fun z=>h (e.trans z))]
      · rw [qx (p:=p) e,qx e,ih]
theorem wQ (k j:κ) (y:V):∀ kvs:List (κ × V),qg kvs k = none -> qg (kvs ++ [(k,y)]) j = if j = k then some y else qg kvs j
  | [],_=>by
    by_cases e:k = j
    · rw [if_pos e.symm];exact qi (p:=(k,y)) e
    · rw [if_neg (fun z=>e z.symm)];exact qx (p:=(k,y)) e
  | p :: r,hn=>by
    rw [List.cons_append]
    have hk:¬ p.1 = k:=fun z=>by rw [qi z] at hn;cases hn
    rw [qx hk] at hn
    have ih:=wQ k j y r hn
    by_cases e:p.1 = j
    · rw [qi e,qi e,if_neg (fun z=>hk (e.trans z))]
    · rw [qx e,qx e,ih]
theorem jt (kvs:List (κ × V)) (k j:κ) (y:V):qg (qS kvs k y) j = if j = k then some y else qg kvs j:=by
  unfold qS
  by_cases a:(kvs.any fun kv=>decide (kv.1 = k)) = true
  · rw [if_pos a,Zu]
    rw [xq] at a
    by_cases e:j = k
    · obtain ⟨x,hx⟩:=Option.isSome_iff_exists.mp a
      rw [if_pos e,e,hx,Option.map_some,if_pos rfl]
    · rw [if_neg e]
      cases qg kvs j with
      | none=>rfl
      | some x=>rw [Option.map_some,if_neg e]
  · rw [if_neg a]
    refine wQ k j y kvs ?_
    rw [xq] at a
    cases q:qg kvs k with
    | none=>rfl
    | some x=>rw [q] at a;exact (a rfl).elim
theorem jS (kvs:List (κ × V)) (k:κ) (v:V):(qS kvs k v).length <= kvs.length + 1:=by
  unfold qS
  split
  · rw [List.length_map];omega
  · rw [List.length_append,List.length_cons,List.length_nil];omega
theorem RelO.isSome_eq {o:Option V} {u:Option Value} (r:RelO o u):o.isSome = u.isSome:=by
  cases o with
  | none=>cases u with
    | none=>rfl
    | some _=>exact (show False from r).elim
  | some _=>cases u with
    | none=>exact (show False from r).elim
    | some _=>rfl
theorem KV.val {kvs:List (κ × V)} {vs:List (κ × Value)} (r:KV kvs vs) (k:κ):RelO (qg kvs k) (valueAt vs k):=by
  unfold KV at r
  induction r with
  | nil=>exact True.intro
  | @cons p q ps qs h t ih=>
    obtain ⟨h1,h2⟩:=h
    by_cases e:p.1 = k
    · have e':q.1 = k:=h1.symm.trans e
      have b:valueAt (q :: qs) k = some q.2:=by simp [valueAt,List.find?_cons,e']
      rw [qi e,b];exact h2
    · have e':¬ q.1 = k:=fun z=>e (h1.trans z)
      have b:valueAt (q :: qs) k = valueAt qs k:=by simp [valueAt,List.find?_cons,e']
      rw [qx e,b];exact ih
theorem KV.any {kvs:List (κ × V)} {vs:List (κ × Value)} (r:KV kvs vs) (k:κ):(kvs.any fun kv=>decide (kv.1 = k)) = vs.any fun kv=>decide (kv.1 = k):=by
  unfold KV at r
  induction r with
  | nil=>rfl
  | cons h t ih=>rw [List.any_cons,List.any_cons,ih,h.1]
theorem KV.repl {kvs:List (κ × V)} {vs:List (κ × Value)} (r:KV kvs vs) (k:κ) {y:V} {u:Value} (ry:RelV y u) :
    KV (kvs.map fun kv=>if kv.1 = k then (kv.1,y) else kv) (vs.map fun kv=>if kv.1 = k then (kv.1,u) else kv):=by
  unfold KV at r ⊢
  induction r with
  | nil=>exact .nil
  | @cons p q ps qs h t ih=>
    rw [List.map_cons,List.map_cons]
    refine .cons ?_ ih
    obtain ⟨h1,h2⟩:=h
    by_cases e:p.1 = k
    · rw [if_pos e,if_pos (h1.symm.trans e)];exact ⟨h1,ry⟩
    · rw [if_neg e,if_neg (fun z=>e (h1.trans z))];exact ⟨h1,h2⟩
theorem KV.put {kvs:List (κ × V)} {vs:List (κ × Value)} (r:KV kvs vs) (k:κ) {y:V} {u:Value} (ry:RelV y u):KV (qS kvs k y) (stored vs k u):=by
  unfold qS stored
  rw [r.any k]
  by_cases e:(vs.any fun kv=>decide (kv.1 = k)) = true
  · rw [if_pos e,if_pos e];exact r.repl k ry
  · rw [if_neg e,if_neg e];exact Paired.snoc r ⟨rfl,ry⟩
theorem KV.length {kvs:List (κ × V)} {vs:List (κ × Value)} (r:KV kvs vs):kvs.length = vs.length:=Paired.length r
end
theorem jT {P:Program} {w:World} {k:Key} {u:Value} (r:RelV (kV k) u):(zE P w).is k u = true:=by
  cases k with
  | inl i=>obtain ⟨t,e⟩:=(show ∃ t,u = Value.int i t from r);subst e;exact ZW P w i t
  | inr x=>obtain ⟨t,e⟩:=(show ∃ t,u = Value.str x t from r);subst e;exact ZV P w x t
theorem ye {P:Program} {w:World}:∀ {ks:List Key} {us:List Value},Vals (ks.map kV) us -> ItemsAre (zE P w) ks us
  | [],_,r=>by rw [List.map_nil] at r;cases r;exact .nil
  | k :: ks,_,r=>by
    rw [List.map_cons] at r
    cases r with
    | cons h t=>exact .cons (jT h) (ye t)
abbrev KT (H:Hp):List (List Key × V) -> List (List Key × Addr × Value) -> Prop:=Paired fun p q=>p.1 = q.1 /\ H q.2.1 = some (.tup (p.1.map kV)) /\ RelV p.2 q.2.2
theorem KT.val {H:Hp} {kvs:List (List Key × V)} {xs:List (List Key × Addr × Value)} (r:KT H kvs xs) (k:List Key):RelO (qg kvs k) ((atKey xs k).map (·.2)):=by
  induction r with
  | nil=>exact True.intro
  | @cons p q ps qs h t ih=>
    obtain ⟨h1,_,h2⟩:=h
    by_cases e:p.1 = k
    · have e':q.1 = k:=h1.symm.trans e
      have b:atKey (q :: qs) k = some q.2:=by simp [atKey,List.find?_cons,e']
      rw [qi e,b];exact h2
    · have e':¬ q.1 = k:=fun z=>e (h1.trans z)
      have b:atKey (q :: qs) k = atKey qs k:=by simp [atKey,List.find?_cons,e']
      rw [qx e,b];exact ih
theorem KT.repl {H:Hp} {kvs:List (List Key × V)} {xs:List (List Key × Addr × Value)} (r:KT H kvs xs) (k:List Key) {y:V} {u:Value} (ry:RelV y u) :
    KT H (kvs.map fun kv=>if kv.1 = k then (kv.1,y) else kv) (xs.map (putAt k u)):=by
  induction r with
  | nil=>exact .nil
  | @cons p q ps qs h t ih=>
    rw [List.map_cons,List.map_cons]
    refine .cons ?_ ih
    obtain ⟨h1,h2,h3⟩:=h
    unfold putAt
    by_cases e:p.1 = k
    · rw [if_pos e,if_pos (h1.symm.trans e)];exact ⟨h1,h2,ry⟩
    · rw [if_neg e,if_neg (fun z=>e (h1.trans z))];exact ⟨h1,h2,h3⟩
theorem KT.put {H:Hp} {kvs:List (List Key × V)} {xs:List (List Key × Addr × Value)} (r:KT H kvs xs) (k:List Key) {b:Addr} {y:V} {u:Value} (hb:H b = some (.tup (k.map kV))) (ry:RelV y u) :
    KT H (qS kvs k y) (storedH xs k b u):=by
  have e:(kvs.any fun kv=>decide (kv.1 = k)) = (atKey xs k).isSome:=by
    rw [xq,(r.val k).isSome_eq,Option.isSome_map]
  unfold qS storedH
  rw [e]
  by_cases q:(atKey xs k).isSome = true
  · rw [if_pos q,if_pos q];exact r.repl k ry
  · rw [if_neg q,if_neg q];exact Paired.snoc r ⟨rfl,hb,ry⟩
theorem KT.keeps {H H':Hp} {kvs:List (List Key × V)} {xs:List (List Key × Addr × Value)} (r:KT H kvs xs) (ht:∀ b ys,H b = some (.tup ys) -> H' b = some (.tup ys)):KT H' kvs xs:=
  Paired.mapP r fun _ _ z=>⟨z.1,ht _ _ z.2.1,z.2.2⟩
section
variable {P:Program} {w:World} {H:Hp} {h:Heap} {a:Addr}
theorem YU {u:HO} (ok:HOk P w H h) (e:Rd H a u):ObjOk P w H h a u:=e.ok ok
theorem Ws {kvs:List (Key × V)} (ok:HOk P w H h) (e:Rd H a (.dK kvs)):kvs.length <= sizeLine /\ (a == sysModules) = false /\ ∃ vs,KV kvs vs /\ h.DictOf (zE P w) a vs:=
  show ObjOk P w H h a (.dK kvs) from YU ok e
theorem zbq {kvs:List (Key × V)} (ok:HOk P w H h) (e:H a = some (.dK kvs)):kvs.length <= sizeLine /\ (a == sysModules) = false /\ ∃ vs,KV kvs vs /\ h.DictOf (zE P w) a vs:=Ws ok (.inl e)
theorem y4 {ks:List Key} (ok:HOk P w H h) (e:H a = some (.tup (ks.map kV))):(tupleKind (zE P w)).is h ks a:=by
  obtain ⟨_,its,r,⟨o,h1,h2,n,h3⟩,_⟩:=(show ObjOk P w H h a (.tup (ks.map kV)) from ok a _ e)
  exact ⟨o,its.toArray,n,h1,h2,h3,by simpa using ye r⟩
theorem Wq {kvs:List (List Key × V)} (ok:HOk P w H h) (e:Rd H a (.dT kvs)):kvs.length <= sizeLine /\ (a == sysModules) = false /\
    ∃ xs,KT H kvs xs /\ h.DictOfH (tupleKind (zE P w)) a xs:=by
  obtain ⟨z,y,xs,r,o,es,ep,h1,h2,h3,h4,h5⟩:=(show ObjOk P w H h a (.dT kvs) from YU ok e)
  refine ⟨z,y,xs,r,o,es,ep,h1,h2,h3,h4,fun x hx=>?_,h5⟩
  have all:∀ {l:List (List Key × V)} {m:List (List Key × Addr × Value)},KT H l m -> ∀ x ∈ m,(tupleKind (zE P w)).is h x.1 x.2.1:=by
    intro l m q
    induction q with
    | nil=>intro x hx;exact nomatch hx
    | @cons p q ps qs hq t ih=>
      intro x hx
      rcases List.mem_cons.mp hx with e | hx
      · subst e
        exact y4 ok (by rw [<- hq.1];exact hq.2.1)
      · exact ih x hx
  exact all r x hx
theorem Wr {kvs:List (List Key × V)} (ok:HOk P w H h) (e:H a = some (.dT kvs)):kvs.length <= sizeLine /\ (a == sysModules) = false /\
    ∃ xs,KT H kvs xs /\ h.DictOfH (tupleKind (zE P w)) a xs:=Wq ok (.inl e)
end
def DGet (H:Hp) (a:Addr) (y:V) (r:Option V):Prop:=
  (∃ kvs k,Rd H a (.dK kvs) /\ y = kV k /\ r = qg kvs k) \/ ∃ kvs k b,Rd H a (.dT kvs) /\ y = .ref b /\ H b = some (.tup (k.map kV)) /\ r = qg kvs k
def DPut (H:Hp) (a:Addr) (y v:V) (H':Hp):Prop:=
  (∃ kvs k,H a = some (.dK kvs) /\ y = kV k /\ kvs.length < sizeLine /\ H' = upd H a (.dK (qS kvs k v))) \/
  ∃ kvs k b,H a = some (.dT kvs) /\ y = .ref b /\ H b = some (.tup (k.map kV)) /\ kvs.length < sizeLine /\ H' = upd H a (.dT (qS kvs k v))
theorem DGet.k {H:Hp} {a:Addr} {kvs:List (Key × V)} {k:Key} (e:H a = some (.dK kvs)):DGet H a (kV k) (qg kvs k):=.inl ⟨kvs,k,.inl e,rfl,rfl⟩
theorem DGet.t {H:Hp} {a b:Addr} {kvs:List (List Key × V)} {k:List Key} (e:H a = some (.dT kvs)) (eb:H b = some (.tup (k.map kV))):DGet H a (.ref b) (qg kvs k):=.inr ⟨kvs,k,b,.inl e,rfl,eb,rfl⟩
theorem DPut.t {H:Hp} {a b:Addr} {kvs:List (List Key × V)} {k:List Key} {v:V} (e:H a = some (.dT kvs)) (eb:H b = some (.tup (k.map kV))) (hl:kvs.length < sizeLine) :
    DPut H a (.ref b) v (upd H a (.dT (qS kvs k v))):=.inr ⟨kvs,k,b,e,rfl,eb,hl,rfl⟩
section
variable {X:Cx} {pins:List (Addr × Obj)} {σ:St} {H:Hp} {s:Shared} {a:Addr} {y v:V} {u r:Value} {o:Option V} {A:Around} {E:Value -> Shared -> Prop}
theorem Inv.big (I:Inv X pins σ H s):sysModules < s.heap.objs.size:=by
  have h:mainGlobals < s.heap.objs.size:=(I.mod.glob.keeps I.bk).lt
  exact Nat.lt_trans (by decide) h
theorem X4 {Q:Value -> Shared -> Prop} (hu:A.units + 1 < cLine) (I:Inv X pins σ H s) (g:DGet H a y (some v)) (ry:RelV y u) (h:∀ w' s',Inv X pins σ H s' -> RelV v w' -> Q w' s') :
    wpAny (model X.prog X.w) A (getItem (.ref a) u) Q E s:=by
  rcases g with ⟨kvs,k,e,ey,l⟩ | ⟨kvs,k,b,e,ey,eb,l⟩
  · subst ey
    obtain ⟨z,hd,vs,rel,dd⟩:=Ws I.hok e
    obtain ⟨w',hw,rw'⟩:=RelO.some_of (v:=v) (o:=valueAt vs k) (by rw [l];exact rel.val k)
    exact wpAny_getItem_of (jT ry) dd.mapOf hw (h w' _ (I.tok _) rw')
  · subst ey
    cases (show u = Value.ref b from ry)
    obtain ⟨z,hd,xs,rel,dd⟩:=Wq I.hok e
    obtain ⟨w',hw,rw'⟩:=RelO.some_of (v:=v) (o:=(atKey xs k).map (·.2)) (by rw [l];exact rel.val k)
    obtain ⟨p,hp,hp2⟩:=Option.map_eq_some_iff.mp hw
    refine wpAny_getItem_heap (tupleKind_room_in1 hu) (y4 I.hok eb) dd hp ?_
    rw [hp2]
    exact h w' _ (I.tok _) rw'
theorem Zd {h':Heap} {t':Nat} {ob:HO} (I:Inv X pins σ H s) (mu:Mut (H a)) (hs:Heap.SameBut a s.heap h') (he:∃ q,h'.get? a = some q) (new:ObjOk X.prog X.w (upd H a ob) h' a ob) :
    Inv X pins σ (upd H a ob) { s with heap:=h',toks:=t' }:=
  I.write (x:=a) (e:=a) mu (.inl rfl) (fun b q hb z=>(hs.2 b hb).trans z) he new
theorem Wt {P:Program} {w:World} {H':Hp} {h':Heap} {kvs:List (Key × V)} {vs:List (Key × Value)} (z:kvs.length <= sizeLine) (hd:(a == sysModules) = false) (rel:KV kvs vs) (dd:h'.DictOf (zE P w) a vs) :
    ObjOk P w H' h' a (.dK kvs):=⟨z,hd,vs,rel,dd⟩
theorem X3 {H':Hp} {Q:Unit -> Shared -> Prop} (hu:A.units + 1 < cLine) (I:Inv X pins σ H s) (g:DPut H a y v H') (ry:RelV y u) (rv:RelV v r) (h:∀ s',Inv X pins σ H' s' -> Q () s') :
    wpAny (model X.prog X.w) A (setItem (.ref a) u r) Q E s:=by
  rcases g with ⟨kvs,k,e,ey,l,eH⟩ | ⟨kvs,k,b,e,ey,eb,l,eH⟩
  · subst ey eH
    obtain ⟨z,hd,vs,rel,dd⟩:=zbq I.hok e
    have hz:vs.length <= sizeLine:=by rw [<- rel.length];exact z
    have hl:(qS kvs k v).length <= sizeLine:=by have:=jS kvs k v;omega
    refine wpAny_setItem_pairs (hsz:=hz) (jT ry) dd fun h' dd' hs=>h _ ?_
    have he:∃ q,h'.get? a = some q:=let ⟨q,_,_,hq,_⟩:=dd';⟨q,hq⟩
    exact Zd I (by rw [e];exact True.intro) hs he (Wt hl hd (rel.put k rv) dd')
  · subst ey eH
    cases (show u = Value.ref b from ry)
    obtain ⟨z,hd,xs,rel,dd⟩:=Wr I.hok e
    have hz:xs.length <= sizeLine:=by rw [<- Paired.length rel];exact z
    have hl:(qS kvs k v).length <= sizeLine:=by have:=jS kvs k v;omega
    refine wpAny_setItem_heap (hsz:=hz) (tupleKind_room_in1 hu) (y4 I.hok eb) dd fun h' dd' hs=>h _ ?_
    obtain ⟨q,es,ep,hq,h2,h3,h4,_,h5⟩:=dd'
    refine Zd I (by rw [e];exact True.intro) hs ⟨q,hq⟩ ⟨hl,hd,_,(rel.put k eb rv).keeps fun c ys ec=>?_,q,es,ep,hq,h2,h3,h4,h5⟩
    rw [zu (V2 ec e (fun z=>nomatch z))]
    exact ec
end
section
variable {X:Cx} {pins:List (Addr × Obj)} {σ:St} {H:Hp} {s:Shared} {a:Addr} {kvs:List (Key × V)} {k:Key} {u:Value} {A:Around} {E:Value -> Shared -> Prop}
end
def zbs (i:Expr):Prop:=∀ ov iv,subscripted i false ov iv = operate [ov,iv] (getItem ov iv)
theorem WV {prog:Program} {w:World} {A:Around} {E:Value -> Shared -> Prop} {s:Shared} {env:Env} {value slice:Expr} {pos:Pos} {T id:String} {Q:Value -> Shared -> Prop}
    (hl:typeLookup (.type T) "__getitem__" = pure (some (.builtin id))) (hs:zbs slice)
    (h:wpAny (model prog w) A (eval value env) (fun o s₁=>wpAny (model prog w) A (eval slice env) (fun i s₂=>s₂.TypeIs o T /\ wpAny (model prog w) A (getItem o i) Q E s₂) E s₁) E s) :
    wpAny (model prog w) A (eval (.Subscript value slice pos) env) Q E s:=by
  refine Subscript_ (wpAny_mono h (fun o s₁ h₁=>wpAny_mono h₁ (fun i s₂ h₂=>?_) fun _ _ x=>x) fun _ _ x=>x)
  obtain ⟨hT,h₂⟩:=h₂
  unfold subscriptTail
  refine wpAny_bind ?_
  rw [getitemInPython_of_ne hT.not_modules]
  refine wpAny_bind (wpAny_specialOf hT hl ?_)
  have fin:wpAny (model prog w) A (subscripted slice false o i) (fun r s₃=>wpAny (model prog w) A (letTemporaryGo value o r >>= fun _=>pure r) Q E s₃) E s₂:=by
    rw [hs o i]
    exact wpAny_operating (wpAny_mono h₂ (fun r s₃ h₃=>wpAny_bind (wpAny_letTemporaryGo (wpAny_pure h₃))) fun _ _ x=>x)
  first
    | exact wpAny_pure (wpAny_bind fin)
    | exact wpAny_bind (wpAny_pure (wpAny_bind fin))
    | exact wpAny_bind fin
theorem Qb {X:Cx} {pins:List (Addr × Obj)} {σ:St} {H:Hp} {s:Shared} {a:Addr} {y:V} {o:Option V} (I:Inv X pins σ H s) (g:DGet H a y o):s.TypeIs (.ref a) "dict" :=by
  rcases g with ⟨kvs,k,e,_,_⟩ | ⟨kvs,k,b,e,_,_,_⟩
  · obtain ⟨_,_,vs,_,dd⟩:=Ws I.hok e
    exact dd.typeIs
  · obtain ⟨_,_,xs,_,dd⟩:=Wq I.hok e
    exact dd.typeIs
def za1 (td ty:TE):TE:=fun σ H Q=>td σ H fun x H1=>ty σ H1 fun y H2=>∃ a v,x = .ref a /\ DGet H2 a y (some v) /\ Q v H2
def za8 (td ty tv:TE):TS:=fun D σ H=>tv σ H fun v H1=>td σ H1 fun x H2=>ty σ H2 fun y H3=>∃ a H4,x = .ref a /\ DPut H3 a y v H4 /\ D.nx σ H4
section
variable {X:Cx} {o i e value:Expr} {pos pos' tpos:Pos} {td ty tv:TE}
theorem yS (hu:X.A.units + 1 < cLine) (ho:PE X o td) (hi:PE X i ty) (hs:zbs i):PE X (.Subscript o i pos) (za1 td ty):=by
  intro pins s σ H Q I h
  refine WV PySem.F.slot_dict_getitem.lookup hs (thn (ho pins s σ H _ I h) fun u s1 ⟨x,H1,I1,rx,q1⟩=>thn (hi pins s1 σ H1 _ I1 q1) fun iv s2 ⟨y,H2,I2,ry,a,v,ex,g,q2⟩=>?_)
  subst ex
  obtain rfl:u = Value.ref a:=rx
  exact ⟨Qb I2 g,X4 hu I2 g ry fun w' s3 I3 rw'=>⟨v,H2,I3,rw',q2⟩⟩
theorem W7 (hu:X.A.units + 1 < cLine) (ho:PE X o td) (hi:PE X i ty) (hv:PE X value tv) (hs:swapsWith value (some (.Subscript o i pos')) pos.line X.env = pure false) :
    PS X (.Assign [.Subscript o i pos'] value pos) (za8 td ty tv):=by
  intro pins s σ H D I h
  refine wpAny_Assign_Subscript (thn (hv pins s σ H _ I h) fun r s1 ⟨v,H1,I1,rv,q1⟩=>thn (ho pins s1 σ H1 _ I1 q1) fun u s2 ⟨x,H2,I2,rx,q2⟩=>thn (hi pins s2 σ H2 _ I2 q2) fun iv s3 ⟨y,H3,I3,ry,a,H4,ex,g,q3⟩=>?_) hs
  subst ex
  obtain rfl:u = Value.ref a:=rx
  exact X3 hu I3 g ry rv fun s4 I4=>⟨σ,H4,I4,q3⟩
end
theorem Z9 {P:Program} {w:World} {H:Hp} (h:Heap) (hb:sysModules < h.objs.size):ObjOk P w H (h.push { cls:=.type "dict",data:=.dict #[] }) h.objs.size (.dT []):=
  ⟨Nat.zero_le _,beq_eq_false_iff_ne.mpr (Ne.symm (Nat.ne_of_lt hb)),[],.nil,_,#[],0,Heap.get?_push_size _ rfl,⟨rfl,rfl,rfl⟩,rfl,rfl,List.nodup_nil⟩
def zad:TE:=fun _ H Q=>∀ p,H p = none -> Q (.ref p) (upd H p (.dT []))
section
variable {X:Cx} {pos:Pos}
theorem VP:PE X (.Dict [] [] pos) zad:=fun pins s σ H Q I h=>
  wpAny_Dict_empty ⟨.ref s.heap.objs.size,_,I.laid (a:=s.heap.objs.size) (o:=.dT []) (t':=s.toks) (fun _ _ q=>Heap.get?_push_of_some _ q) (Nat.le_refl _) (Z9 s.heap I.big),rfl,h _ (I.hok.fresh (Nat.le_refl _))⟩
end
def Qr:List (TE × TE) -> St -> Hp -> (List (V × V) -> Hp -> Prop) -> Prop
  | [],_,H,Q=>Q [] H
  | (tk,tv) :: r,σ,H,Q=>tk σ H fun x H1=>tv σ H1 fun y H2=>Qr r σ H2 fun ps H3=>Q ((x,y) :: ps) H3
abbrev VV:List (V × V) -> List (Value × Value) -> Prop:=Paired fun p q=>RelV p.1 q.1 /\ RelV p.2 q.2
def PPs (X:Cx) (pos:Pos) (keys:List (Option Expr)) (values:List Expr) (trs:List (TE × TE)):Prop:=
  ∀ (pins:List (Addr × Obj)) (s:Shared) (σ:St) (H:Hp) (Q:List (V × V) -> Hp -> Prop),Inv X pins σ H s -> Qr trs σ H Q ->
    wpAny (model X.prog X.w) X.A (evalPairs (pairTrees keys values X.env pos)) (fun vs s'=>∃ ps H',Inv X pins σ H' s' /\ VV ps vs /\ Q ps H') X.xe s
theorem W9 {X:Cx} {pos:Pos}:PPs X pos [] [] []:=fun pins s σ H Q I h=>pairTrees_nil_walk ⟨[],H,I,.nil,h⟩
theorem VI {X:Cx} {pos:Pos} {k v:Expr} {ks:List (Option Expr)} {vs:List Expr} {tk tv:TE} {trs:List (TE × TE)} (hk:PE X k tk) (hv:PE X v tv) (hr:PPs X pos ks vs trs) :
    PPs X pos (some k :: ks) (v :: vs) ((tk,tv) :: trs):=fun pins s σ H Q I h=>
  pairTrees_cons_walk (thn (hk pins s σ H _ I h) fun u s1 ⟨x,H1,I1,rx,q1⟩=>thn (hv pins s1 σ H1 _ I1 q1) fun w2 s2 ⟨y,H2,I2,ry,q2⟩=>
    thn (hr pins s2 σ H2 _ I2 q2) fun ws s3 ⟨ps,H3,I3,rel,q3⟩=>⟨(x,y) :: ps,H3,I3,.cons ⟨rx,ry⟩ rel,q3⟩)
def qH (kvs more:List (Key × V)):List (Key × V):=more.foldl (fun acc kv=>qS acc kv.1 kv.2) kvs
theorem KV.merge:∀ {more:List (Key × V)} {rs:List (Key × Value)} {kvs:List (Key × V)} {vs:List (Key × Value)},KV more rs -> KV kvs vs -> KV (qH kvs more) (merged vs rs):=by
  intro more rs kvs vs r
  unfold KV at r
  induction r generalizing kvs vs with
  | nil=>intro q;exact q
  | @cons p q ps qs h t ih=>
    intro r0
    have e:KV (qS kvs p.1 p.2) (stored vs q.1 q.2):=by
      have:=r0.put p.1 h.2
      rw [<- h.1];exact this
    exact ih e
theorem j8:∀ (more kvs:List (Key × V)),(qH kvs more).length <= kvs.length + more.length
  | [],kvs=>by show kvs.length <= kvs.length + 0;omega
  | p :: r,kvs=>by
    have h1:=j8 r (qS kvs p.1 p.2)
    have h2:=jS kvs p.1 p.2
    show (qH (qS kvs p.1 p.2) r).length <= _
    rw [List.length_cons];omega
structure M1 (X:Cx) (o:Expr) (m:Str) (apos:Pos) (e:Expr) (cpos:Pos):Prop where
  base:attributeBase o m X.env (eval o X.env) = eval o X.env
  few:((backTo cpos (starEach [e] X.env)).all (fun x=>!x.1) && (backToKw cpos (keywordEach [] X.env)).all (fun x=>x.1.isSome)
    && decide (([e]:List Expr).length + ([]:List Keyword).length + (if ([]:List Keyword).isEmpty then 0 else 1) < 30)) = true
  line:(apos.endLine == cpos.line) = true
  trees:backTo cpos (starEach [e] X.env) = [(false,eval e X.env)]
structure M2 (X:Cx) (o:Expr) (m:Str) (apos:Pos) (e f:Expr) (cpos:Pos):Prop where
  base:attributeBase o m X.env (eval o X.env) = eval o X.env
  few:((backTo cpos (starEach [e,f] X.env)).all (fun x=>!x.1) && (backToKw cpos (keywordEach [] X.env)).all (fun x=>x.1.isSome)
    && decide (([e,f]:List Expr).length + ([]:List Keyword).length + (if ([]:List Keyword).isEmpty then 0 else 1) < 30)) = true
  line:(apos.endLine == cpos.line) = true
  trees:backTo cpos (starEach [e,f] X.env) = [(false,eval e X.env),(false,eval f X.env)]
section
variable {X:Cx} {pins:List (Addr × Obj)} {σ:St} {H:Hp} {s:Shared} {a:Addr} {y d:V} {u r:Value} {o:Option V} {A:Around} {E:Value -> Shared -> Prop}
end
section
variable {X:Cx} {o e f:Expr} {apos cpos:Pos} {td ty tx:TE}
end
section
variable {X:Cx} {pins:List (Addr × Obj)} {σ:St} {H:Hp} {s:Shared} {a:Addr} {kvs:List (Key × V)} {A:Around} {E:Value -> Shared -> Prop}
end
section
variable {X:Cx} {pins:List (Addr × Obj)} {σ:St} {H:Hp} {s:Shared} {a:Addr} {y:V} {u:Value} {A:Around} {E:Value -> Shared -> Prop}
end
end L2
namespace PySem
open PySem PySem.W PySem.Calls PyProof.Rows PyProof.V PySem.Spec
end PySem
namespace L2
open PySem PySem.Spec PyProof.Rows
section
variable {X:Cx}
end
section
variable {X:Cx} {tg:Expr}
end
section
variable {X:Cx}
end
def WQ (tk tv:TE):TE:=fun σ H Q=>∀ p,H p = none -> Qr [(tk,tv)] σ (upd H p (.dT [])) fun ps H2=>∃ (x y:V) (kk:List Key) (b:Addr),ps = [(x,y)] /\ H2 p = some (.dT []) /\ x = .ref b /\ H2 b = some (.tup (kk.map kV)) /\ Q (.ref p) (upd H2 p (.dT [(kk,y)]))
theorem XJ {X:Cx} {pos:Pos} {k v:Expr} {tk tv:TE} (hu:X.A.units + 1 < cLine) (hk:PE X k tk) (hv:PE X v tv):PE X (.Dict [some k] [v] pos) (WQ tk tv):=by
  intro pins s σ H Q I q
  have hn:=I.hok.fresh (Nat.le_refl s.heap.objs.size)
  have I1:=I.laid (a:=s.heap.objs.size) (o:=.dT []) (h':=s.heap.push { cls:=.type "dict",data:=.dict #[] }) (t':=s.toks) (fun _ _ q=>Heap.get?_push_of_some _ q) (Nat.le_refl _) (Z9 s.heap I.big)
  refine wpAny_Dict_any rfl rfl (by simp) (show 1 <= 15 by decide) (thn (VI (pos:=pos) hk hv W9 pins _ σ _ _ I1 (q _ hn)) fun ws s2 ⟨ps,H2,I2,rel,x,y,kk,b,ep,e,ex,eb,q2⟩=>?_)
  subst ep ex
  cases rel with
  | @cons _ w0 _ _ h t=>
    cases t
    obtain ⟨u,r⟩:=w0
    obtain ⟨ru,rr⟩:=h
    cases (show u = Value.ref b from ru)
    obtain ⟨z,hd,xs,rx,dd⟩:=Wr I2.hok e
    cases rx
    unfold storeAll
    rw [List.forIn_cons]
    have hu':X.A.units < cLine:=Nat.lt_of_succ_lt hu
    refine wpAny_bind (wpAny_bind (wpAny_dictSet_heap (hsz:=Nat.zero_le _) (knd:=tupleKind (zE X.prog X.w)) hu' (y4 I2.hok eb) dd fun h' dd' hs=>wpAny_pure ?_))
    dsimp only
    rw [List.forIn_nil]
    refine wpAny_pure ⟨.ref s.heap.objs.size,_,?_,rfl,q2⟩
    obtain ⟨q,es,ep,hq,h2,h3,h4,_,h5⟩:=dd'
    refine Zd I2 (by rw [e];exact True.intro) hs ⟨q,hq⟩ ⟨?_,hd,_,(KT.put (kvs:=[]) (xs:=[]) .nil kk eb rr).keeps fun c ys ec=>?_,q,es,ep,hq,h2,h3,h4,h5⟩
    · rw [sizeLine_eq];exact (by decide:1 <= 16777216)
    · rw [zu (V2 ec e (fun z=>nomatch z))]
      exact ec
section
variable {X:Cx}
inductive vv (K:PySem.W.Frag) (xs:List V) (H:Hp) (Q:VK):Prop
  | mk (p:Addr) (ns:List Int) (_:xs = [.ref p]) (_:SqL K H p (ns.map V.int)) (_:ns ≠ []) (_:∀ m:Int,m ∈ ns -> (∀ a ∈ ns,m <= a) -> Q (.int m) H):vv K xs H Q
theorem yk (hc:X.calm = true):qD X (.builtin "min") (vv X.K):=by
  intro pins s σ H xs us Q I r h
  obtain ⟨p,ns,rfl,hq,hne,q⟩:=h
  obtain ⟨u,rfl,ru⟩:=jK r
  cases (show u = _ from ru)
  obtain ⟨its,rv,pl,_⟩:=I.list hq
  have hl:=pl.isList
  have hpl:p ≠ s.heap.objs.size:=by
    obtain ⟨o,e,_⟩:=hl
    exact Nat.ne_of_lt (Heap.lt_size e)
  have hlen:its.length = ns.length:=by have:=rv.length;rw [List.length_map] at this;omega
  have h0:0 < ns.length:=List.length_pos_iff.mpr hne
  have hplt:p < s.heap.objs.size:=by
    obtain ⟨o,e,_⟩:=hl
    exact Heap.lt_size e
  refine call_min_walk (wpAny_pyIter_list hl ?_)
  have hval:∀ i v,its.toArray[i]? = some v -> ∃ t,v = Value.int (ns.getD i 0) t:=by
    intro i v hP
    have e1:its[i]? = some v:=by simpa using hP
    have hi:i < ns.length:=by
      have h1:=(List.getElem?_eq_some_iff.mp e1).1
      omega
    have e2:(ns.map V.int)[i]? = some (.int ns[i]):=by simp [hi]
    obtain ⟨u',eu,ru⟩:=rv.get e2
    rw [e1] at eu
    cases eu
    obtain ⟨t,rfl⟩:=ru
    exact ⟨t,by simp [hi]⟩
  refine ⟨s.heap.objs.size,_,_,_,_,_,fun i j=>decide (ns.getD i 0 < ns.getD j 0),rfl,Walks.list (prog:=X.prog) (w:=X.w) (A:=X.A.in1) (I.ok.hd hc) _ p hpl its.toArray,⟨⟨_,Heap.get?_push_size _ rfl,rfl,rfl⟩,hl.push _⟩,?_,?_,CmpOf.ints_lt (fun i=>ns.getD i 0) hval,fun v h' tk hP hk=>?_⟩
  · intro b hb
    show b < (s.heap.push _).objs.size
    rw [Heap.size_push]
    rcases List.mem_cons.mp hb with rfl | hb
    · exact Nat.lt_succ_self _
    · rcases List.mem_cons.mp hb with rfl | hb
      · exact Nat.lt_succ_of_lt hplt
      · cases hb
  · show 0 < its.toArray.size
    rw [List.size_toArray];omega
  · obtain ⟨t,rfl⟩:=hval _ v hP
    obtain ⟨h1,h2⟩:=argBest_lt (fun i=>ns.getD i 0) (its.toArray.size - 1)
    rw [List.size_toArray] at h1 h2 hP
    refine ⟨.int _,H,I.kept (old_kept hk),⟨t,rfl⟩,q _ ?_ fun a ha=>?_⟩
    · rw [List.size_toArray]
      have hb:argBest (fun i j=>decide (ns.getD i 0 < ns.getD j 0)) (its.length - 1) < ns.length:=by omega
      rw [List.getD_eq_getElem?_getD,List.getElem?_eq_getElem hb]
      exact List.getElem_mem _
    · rw [List.size_toArray]
      obtain ⟨j,hj,rfl⟩:=List.getElem_of_mem ha
      have:=h2 j (by omega)
      rw [show ns.getD j 0 = ns[j] by simp [hj]] at this
      exact this
end
section
variable {X:Cx}
variable {e st:Expr} {te:TE} {tk:TO} {pos p2:Pos}
end
end L2
namespace PySem
def RawD (h:Heap) (d:Addr) (es:Array DictEntry) (ep:Nat):Prop:=∃ o,h.get? d = some o /\ o.ExactDict /\ o.data = .dict es ep
theorem RawD.at {h h':Heap} {d:Addr} {es:Array DictEntry} {ep:Nat} (x:RawD h d es ep) (e:∀ o,h.get? d = some o -> h'.get? d = some o):RawD h' d es ep:=let ⟨o,a,b⟩:=x;⟨o,e _ a,b⟩
section
variable {prog:Program} {w:World} {A:Around} {E:Value -> Shared -> Prop} {s:Shared} {d it:Addr} {es:Array DictEntry} {ep i:Nat}
theorem VF {Q:Value -> Shared -> Prop} (hd:(d == sysModules) = false) (hm:RawD s.heap d es ep)
    (hQ:Q (.ref s.heap.objs.size) { s with heap:=s.heap.push { cls:=.type "dict_keyiterator",data:=.fields #[.ref d,.int 0 0,.int es.size 0,.int ep 0] } }):wpAny (model prog w) A (pyIter (.ref d)) Q E s:=by
  obtain ⟨o,ho,hc,hdat⟩:=hm
  have ty:s.TypeIs (.ref d) "dict" :=⟨o,ho,hc.1⟩
  refine wpAny_pyIter_slot ty F.slot_dict_iter (wpAny_call_entry F.slot_dict_iter ty F.entry_dict_iter ?go (F.args_dict_iter_1 _))
  unfold Builtin.«dict.__iter__» Builtin.Dict.dictSlotNone
  refine wpAny_bind (wpAny_bind (wpAny_notOrdered_dict ty ?go2));refine (wpAny_pure ?go3:wpAny _ _ (pure (Value.ref d)) _ _ s)
  refine (?go7:wpAny _ _ (Builtin.Dict.showsAll d >>= _) _ _ s);unfold Builtin.Dict.showsAll
  rw [if_neg (by rw [hd];exact Bool.false_ne_true)];refine wpAny_bind (wpAny_pure ?go5)
  refine wpAny_bind (wpAny_dictEntries ho hdat (wpAny_bind (wpAny_dictEpoch ho hdat (wpAny_bind (wpAny_newObj_type (wpAny_pure ⟨_,rfl, "dict_keyiterator",_,⟨_,Heap.get?_push_size _ rfl,rfl⟩,F.slot_dict_keyiterator_next.lookup,?go6⟩))))))
  simpa [rawInt] using hQ
theorem VG {e:DictEntry} {Q:Option Value -> Shared -> Prop} (hit:s.heap.IsKeyIter it d i es.size ep) (hm:RawD s.heap d es ep) (hx:es[i]? = some e)
    (hQ:∀ h',h'.IsKeyIter it d (i + 1) es.size ep -> Heap.SameBut it s.heap h' -> Q (some e.key) { s with heap:=h' }):wpAny (model prog w) A (pyNext (.ref it)) Q E s:=by
  obtain ⟨o,ho,hc,hd⟩:=id hit
  obtain ⟨od,hod,hcd,hdd⟩:=hm
  have ty:=hit.typeIs
  obtain ⟨lt,ee⟩:∃ h:i < es.size,es[i] = e:=Array.getElem?_eq_some_iff.mp hx
  unfold pyNext
  refine wpAny_bind (wpAny_attempt (wpAny_callSpecial?_slot (name:=Str.ofString "__next__") ty F.slot_dict_keyiterator_next (wpAny_call_entry F.slot_dict_keyiterator_next ty F.entry_dict_keyiterator_next ?a (F.args_dict_keyiterator_next_1 _))))
  refine wpAny_bind (wpAny_pure ?a1);refine wpAny_bind (wpAny_bind ?a2)
  first | refine wpAny_bind (wpAny_typeNameOfWhole_keyiter ty (wpAny_pure ?a3)) | refine wpAny_bind (wpAny_typeNameOf_keyiter ty (wpAny_pure ?a3))
  refine wpAny_bind (wpAny_fieldsOf ho hd ?a4)
  simp only [show Builtin.Dict_items.ownsTuple "dict_keyiterator" = false by decide,Bool.false_eq_true,if_false]
  refine (?a5:wpAny _ _ (if (Value.ref d == Value.none) = true then _ else _) _ _ s)
  rw [if_neg (show ¬ ((Value.ref d == Value.none) = true) from Bool.false_ne_true)];refine wpAny_bind (wpAny_pure (wpAny_bind (wpAny_dictEntries hod hdd ?a6)))
  rw [if_neg (by simp)];refine wpAny_bind (wpAny_pure (wpAny_bind (wpAny_dictEpoch hod hdd ?a7)))
  rw [if_neg (by simp)];refine wpAny_pure ?a8
  simp only [show ¬ ((i:Int) < 0) from by omega,if_false,Int.toNat_natCast,Array.getElem?_eq_getElem lt];refine wpAny_bind ?a9
  first | refine wpAny_bind (wpAny_typeNameOfWhole_keyiter ty (wpAny_pure ?b1)) | refine wpAny_bind (wpAny_typeNameOf_keyiter ty (wpAny_pure ?b1))
  refine wpAny_bind (wpAny_isOneOf_keyiter ty ?b2);refine (?b3:wpAny _ _ (setField (.ref it) 1 (rawInt ((i:Int) + 1)) >>= _) _ _ s)
  have hit':(s.heap.update it (Obj.mapFields (·.setIfInBounds 1 (rawInt ((i:Int) + 1))))).IsKeyIter it d (i + 1) es.size ep:=
    ⟨_,Heap.get?_update_self _ ho (Obj.isFreed_of_fields (Obj.data_mapFields hd _)),(Obj.cls_mapFields ..).trans hc,(by rw [Obj.data_mapFields hd];simp [rawInt])⟩
  refine wpAny_bind (wpAny_setField ho hd (by simp) (wpAny_bind (wpAny_holding (wpAny_bind (wpAny_isOneOf_keyiter (s:={ s with heap:=s.heap.update it (Obj.mapFields (·.setIfInBounds 1 (rawInt ((i:Int) + 1)))) }) hit'.typeIs ?b4)))))
  refine (?b5:wpAny _ _ (pure es[i].key) _ _ _)
  rw [ee];exact wpAny_pure (wpAny_pure ⟨_,rfl,wpAny_pure (hQ _ hit' (Heap.SameBut.update ..))⟩)
theorem W3 {Q:Option Value -> Shared -> Prop} (hh:A.handled = none) (hit:s.heap.IsKeyIter it d i es.size ep) (hm:RawD s.heap d es ep) (hx:es.size <= i)
    (hQ:∀ h',Heap.ExtBut it s.heap h' -> Q none { s with heap:=h' }):wpAny (model prog w) A (pyNext (.ref it)) Q E s:=by
  obtain ⟨o,ho,hc,hd⟩:=id hit
  obtain ⟨od,hod,hcd,hdd⟩:=hm
  have ty:=hit.typeIs
  unfold pyNext
  refine wpAny_bind (wpAny_attempt (wpAny_callSpecial?_slot (name:=Str.ofString "__next__") ty F.slot_dict_keyiterator_next (wpAny_call_entry F.slot_dict_keyiterator_next ty F.entry_dict_keyiterator_next ?a (F.args_dict_keyiterator_next_1 _))))
  refine wpAny_bind (wpAny_pure ?a1);refine wpAny_bind (wpAny_bind ?a2)
  first | refine wpAny_bind (wpAny_typeNameOfWhole_keyiter ty (wpAny_pure ?a3)) | refine wpAny_bind (wpAny_typeNameOf_keyiter ty (wpAny_pure ?a3))
  refine wpAny_bind (wpAny_fieldsOf ho hd ?a4)
  simp only [show Builtin.Dict_items.ownsTuple "dict_keyiterator" = false by decide,Bool.false_eq_true,if_false]
  refine (?a5:wpAny _ _ (if (Value.ref d == Value.none) = true then _ else _) _ _ s)
  rw [if_neg (show ¬ ((Value.ref d == Value.none) = true) from Bool.false_ne_true)];refine wpAny_bind (wpAny_pure (wpAny_bind (wpAny_dictEntries hod hdd ?a6)))
  rw [if_neg (by simp)];refine wpAny_bind (wpAny_pure (wpAny_bind (wpAny_dictEpoch hod hdd ?a7)))
  rw [if_neg (by simp)];refine wpAny_pure ?a8
  simp only [show ¬ ((i:Int) < 0) from by omega,if_false,Int.toNat_natCast,Array.getElem?_eq_none hx];refine wpAny_bind ?a9
  first | refine wpAny_bind (wpAny_typeNameOfWhole_keyiter ty (wpAny_pure ?b1)) | refine wpAny_bind (wpAny_typeNameOf_keyiter ty (wpAny_pure ?b1))
  refine (?b3:wpAny _ _ (setField (.ref it) 0 .none >>= _) _ _ s);refine wpAny_bind (wpAny_setField ho hd (by simp) ?b4)
  refine (?b5:wpAny _ _ (newExc (.type "StopIteration") [] >>= _) _ _ _);refine wpAny_bind ?b6
  simp only [newExc,newTuple];refine wpAny_bind (wpAny_newObj_type ?b7 (by size_fits))
  refine wpAny_bind (m:=firstArgMember _ _) (wpAny_of_eq (a:=Value.none) (by first | rfl | (simp only [firstArgMember];rfl)) (wpAny_newObj_type ?b8 (by size_fits)))
  simp only [raiseNew];refine wpAny_bind (wpAny_handled ?b9)
  rw [show A.in1.handled = none from hh];refine wpAny_bind (wpAny_pure (wpAny_throw ?c1))
  exact wpAny_bind (wpAny_isInstance (T:= "StopIteration") (b:=true) ⟨_,Heap.get?_push_size _ rfl,rfl⟩ isSubtype_stop (wpAny_pure (hQ _ (((Heap.SameBut.update ..).extBut.push _).push _))))
end
end PySem
namespace L2
open PySem PySem.Spec PyProof.Rows
theorem We {H:Hp}:∀ {kvs:List (List Key × V)} {xs:List (List Key × Addr × Value)},KT H kvs xs -> ∀ {i:Nat} {k:List Key} {v:V},kvs[i]? = some (k,v) -> ∃ b u,xs[i]? = some (k,b,u) /\ H b = some (.tup (k.map kV))
  | _,_,.nil,_,_,_,h=>by simp at h
  | _,_,.cons (a:=p) (b:=q) r t,0,k,v,h=>by
    rw [List.getElem?_cons_zero] at h ⊢
    cases h
    obtain ⟨k',b,u⟩:=q
    obtain ⟨r1,r2,r3⟩:=r
    cases r1
    exact ⟨b,u,rfl,r2⟩
  | _,_,.cons r t,i + 1,k,v,h=>by
    rw [List.getElem?_cons_succ] at h ⊢
    exact We t h
section
variable {X:Cx} {tg:Expr}
end
section
variable {prog:Program} {w:World} {A:Around} {R:Result -> Shared -> Prop} {s:Shared}
abbrev dc2 (kx vx tg1 iter1:Expr) (ifs1:List Expr) (tg iter:Expr) (ifs:List Expr) (scope:Scope) (pos:Pos):Expr:=.DictComp kx vx [⟨tg1,iter1,ifs1,0⟩,⟨tg,iter,ifs,0⟩] scope pos
end
section
variable {X:Cx} {kx vx tg1 iter1:Expr} {ifs1:List Expr} {tg iter:Expr} {ifs:List Expr} {scope:Scope} {pos:Pos} {wi wi1:TI} {g g1:TG} {tf tf1:TT} {tk tv:TE}
end
section
variable {X:Cx} {kx vx tg1 iter1:Expr} {ifs1:List Expr} {tg iter:Expr} {ifs:List Expr} {scope:Scope} {pos:Pos} {wi wi1:TI} {g g1:TG} {tf tf1:TT} {tk tv:TE}
end
abbrev qy (X:Cx) (N':List Str) (scope:Scope) (x:Str) (C:Addr) (s:Shared) (H:Hp) (ex:List Addr):Cx where
  prog:=X.prog
  w:=X.w
  K:=X.K
  mg:=X.mg
  base:=X.base
  A:=X.A
  N:=N'
  s₀:=s
  H₀:=H
  env:=compEnvC scope ((x,C + 1) :: qd X.env.cells scope.names []) C X.env
  outer:=X.stack
  stack:=X.stack
  ex:=ex
  fn:=fun y=>y == x
  calm:=X.calm
  pn:=[]
  xe:=fun _ _=>False
def Zi (sn on:List (Str × NameKind)) (N:List Str) (x:Str) (fr:List Str) (js:List Nat):Bool:=
  (sn.filter fun y=>y.2 == .cell) == [(x,.cell)] && sn.lookup x == some .cell && decide ([x] ++ fr).Nodup && sn.all (fun y=>(y.2 != .local || sn.lookup y.1 == some .local) && (y.2 != .free || (on.lookup y.1 == some .cell || on.lookup y.1 == some .free))) && fr.length == js.length
    && (fr.zip js).all fun p=>sn.lookup p.1 == some .free && N[p.2]? == some p.1
structure BlkOkC (sn on:List (Str × NameKind)) (N:List Str) (x:Str) (fr:List Str) (js:List Nat):Prop where
  one:(sn.filter fun y=>y.2 == .cell) = [(x,.cell)]
  lk:sn.lookup x = some .cell
  nd:([x] ++ fr).Nodup
  loc:∀ y ∈ sn,y.2 = NameKind.local -> sn.lookup y.1 = some .local
  free:∀ y ∈ sn,y.2 = NameKind.free -> on.lookup y.1 = some .cell \/ on.lookup y.1 = some .free
  len:fr.length = js.length
  fr:∀ (k:Nat) (x:Str),fr[k]? = some x -> sn.lookup x = some .free /\ ∃ j:Nat,js[k]? = some j /\ N[j]? = some x
theorem BlkOkC.is {sn on:List (Str × NameKind)} {N:List Str} {x:Str} {fr:List Str} {js:List Nat} (B:BlkOkC sn on N x fr js) {y:Str × NameKind} (h:y ∈ sn) (e:y.2 = .cell):y.1 = x:=by
  have:y ∈ sn.filter fun y=>y.2 == .cell:=List.mem_filter.mpr ⟨h,by rw [e];rfl⟩
  rw [B.one,List.mem_singleton] at this
  rw [this]
theorem yp {sn on:List (Str × NameKind)} {N:List Str} {x:Str} {fr:List Str} {js:List Nat} (h:Zi sn on N x fr js = true):BlkOkC sn on N x fr js:=by
  unfold Zi at h
  simp only [Bool.and_eq_true,List.all_eq_true,beq_iff_eq,decide_eq_true_eq] at h
  obtain ⟨⟨⟨⟨⟨h0,h1⟩,hn⟩,h2⟩,h3⟩,h4⟩:=h
  refine ⟨h0,h1,hn,fun y hy e=>?_,fun y hy e=>?_,h3,fun k x e=>?_⟩
  · have:=(h2 y hy).1
    simp only [Bool.or_eq_true,bne_iff_ne,beq_iff_eq] at this
    exact this.resolve_left fun z=>z e
  · have:=(h2 y hy).2
    simp only [Bool.or_eq_true,bne_iff_ne,beq_iff_eq] at this
    exact this.resolve_left fun z=>z e
  · have hk:k < fr.length:=(List.getElem?_eq_some_iff.mp e).1
    have hj:k < js.length:=by omega
    have hm:(x,js[k]) ∈ fr.zip js:=by
      refine List.mem_of_getElem? (i:=k) ?_
      rw [List.getElem?_zip_eq_some]
      exact ⟨e,by simp [hj]⟩
    have:=h4 _ hm
    exact ⟨this.1,js[k],by simp [hj],this.2⟩
theorem wn:∀ {names:List (Str × NameKind)} (n:Nat) (acc:List (Str × Addr)) (h:Heap),(names.filter fun y=>y.2 == .cell) = [] -> cellsFrom n names acc = acc /\ pushCells h names = h
  | [],_,_,_,_=>⟨rfl,rfl⟩
  | (a,k) :: r,n,acc,h,e=>by
    by_cases q:(k == NameKind.cell) = true
    · rw [List.filter_cons,if_pos (show ((a,k).2 == NameKind.cell) = true from q)] at e
      cases e
    · rw [List.filter_cons,if_neg (show ¬ ((a,k).2 == NameKind.cell) = true from q)] at e
      unfold cellsFrom pushCells
      rw [if_neg q,if_neg q]
      exact wn n acc h e
theorem yh {x:Str}:∀ {names:List (Str × NameKind)} (n:Nat) (acc:List (Str × Addr)) (h:Heap),(names.filter fun y=>y.2 == .cell) = [(x,.cell)] -> cellsFrom n names acc = (x,n) :: acc /\ pushCells h names = h.push { cls:=.type "cell",data:=.cell none }
  | [],_,_,_,e=>by cases e
  | (a,k) :: r,n,acc,h,e=>by
    by_cases q:(k == NameKind.cell) = true
    · rw [List.filter_cons,if_pos (show ((a,k).2 == NameKind.cell) = true from q)] at e
      injection e with e1 e2
      cases e1
      unfold cellsFrom pushCells
      rw [if_pos q,if_pos q]
      exact wn _ _ _ e2
    · rw [List.filter_cons,if_neg (show ¬ ((a,k).2 == NameKind.cell) = true from q)] at e
      unfold cellsFrom pushCells
      rw [if_neg q,if_neg q]
      exact yh n acc h e
theorem QM {M:Model} {A:Around} {E:Value -> Shared -> Prop} {s:Shared} {scope:Scope} {globals:Addr} {cl:List (Str × Addr)} {qual:Str} {env:Env} {x:Str} {Q:Env -> Shared -> Prop} (one:(scope.names.filter fun y=>y.2 == .cell) = [(x,.cell)])
    (hQ:Q { scope:=scope,locals:=s.heap.objs.size,globals:=globals,cells:=(x,s.heap.objs.size + 1) :: cl,qual:=qual,func:=none,code:=env.code,frame:=env.frame,builtins:=env.builtins } { s with heap:=(s.heap.push { cls:=.type "dict",data:=.dict #[] }).push { cls:=.type "cell",data:=.cell none } }) :
    wpAny M A (newFunctionEnv scope globals cl [] qual none .none (some env)) Q E s:=by
  simp only [newFunctionEnv,Option.isSome_some,if_true]
  refine wpAny_bind (wpAny_alloc (wpAny_bind (wpAny_layCells _ (fun name kind cells=>by cases hkc:kind == NameKind.cell <;> simp [hkc]) _ _ _ _ ?_)))
  obtain ⟨e1,e2⟩:=yh (names:=scope.names) (x:=x) (s.heap.push { cls:=.type "dict",data:=.dict #[] }).objs.size cl (s.heap.push { cls:=.type "dict",data:=.dict #[] }) one
  rw [e1,e2,Heap.size_push]
  exact wpAny_bind (wpAny_pure (wpAny_pure hQ))
theorem xk {env:Env} {x:Str}:∀ {names:List (Str × NameKind)},names.lookup x = some .cell -> (names.map fun (n,k)=>if (k == NameKind.free && env.scope.kind == .function && env.kindOf n == some .cell) then (n,NameKind.cell) else (n,k)).lookup x = some .cell
  | [],h=>by simp at h
  | (n,k) :: r,h=>by
    show List.lookup x ((if (k == NameKind.free && env.scope.kind == .function && env.kindOf n == some .cell) = true then (n,NameKind.cell) else (n,k)) :: _) = some NameKind.cell
    by_cases hx:(x == n) = true
    · rw [List.lookup_cons,hx] at h
      cases (Option.some.inj h)
      split <;> simp [List.lookup_cons,hx]
    · have hx':(x == n) = false:=by simpa using hx
      rw [List.lookup_cons,hx'] at h
      split
      · rw [List.lookup_cons,hx'];exact xk h
      · rw [List.lookup_cons,hx'];exact xk h
section
variable {X:Cx} {elt tg iter:Expr} {ifs:List Expr} {scope:Scope} {pos:Pos} {wi:TI} {g:TG} {tf:TT} {te:TE} {x:Str}
theorem QT {pins:List (Addr × Obj)} {σ:St} {H:Hp} {s:Shared} {fp:List Addr} (fr:List Str) (js:List Nat) (I:Inv X pins σ H s) (B:BlkOkC scope.names X.env.scope.names X.N x fr js) (hk:scope.kind = .function)
    (f2:∀ b ∈ fp,qT X pins H b) (fl:∀ b ∈ fp,b < s.heap.objs.size) {D C:Addr} (hD:D = s.heap.objs.size) {h3 h1:Heap} (e3:h3 = s.heap.push { cls:=.type "list",dict:=none,data:=.seq ([]:List Value).toArray }) (hC:C = h3.objs.size)
    {m:Str -> Option Value} (hns:h1.Ns C m) (hcell:h1.IsCell (C + 1) none) (k4:∀ b o,h3.get? b = some o -> h1.get? b = some o) {t4:Nat} :
    Inv (qy X ([x] ++ fr) scope x C { s with heap:=h3 } H (D :: fp)) [] (upS 1 js σ) H { s with heap:=h1,toks:=t4 }:=by
  have k3:∀ b o,s.heap.get? b = some o -> h3.get? b = some o:=fun b o e=>by rw [e3];exact Heap.get?_push_of_some _ e
  have I3:Inv X pins σ H { s with heap:=h3 }:=I.kept (t':=s.toks) k3
  have hz:h3.objs.size = s.heap.objs.size + 1:=by rw [e3,Heap.size_push]
  have hasF:∀ y ∈ scope.names,y.2 = NameKind.free -> ∃ c,X.env.cells.lookup y.1 = some c:=fun y hy e=>I.ok.has y.1 (B.free y hy e)
  have cellLt:∀ x c,X.env.cells.lookup x = some c -> c < s.heap.objs.size:=fun x c e=>by
    obtain ⟨v,q⟩:=I.cell x c e
    exact q.lt
  have clt:∀ y c,(qd X.env.cells scope.names []).lookup y = some c -> c < C:=fun y c e=>by
    have:=cellLt y c (zH e hasF)
    rw [hC,hz];exact Nat.lt_succ_of_lt this
  have look:∀ y c,((x,C + 1) :: qd X.env.cells scope.names []).lookup y = some c -> (y = x /\ c = C + 1) \/ (y ≠ x /\ (qd X.env.cells scope.names []).lookup y = some c):=fun y c e=>by
    rw [List.lookup_cons] at e
    by_cases q:(y == x) = true
    · rw [q] at e
      exact .inl ⟨by simpa using q,(Option.some.inj e).symm⟩
    · rw [(Bool.not_eq_true _).mp q] at e
      exact .inr ⟨fun z=>q (by simpa using z),e⟩
  refine ⟨⟨I.ok.mod,hk,I.ok.glob,I.ok.blt,Nat.le_of_eq hC.symm,fun y1 y2 c e1 e2=>?_,fun y hy=>?_,fun y c hf e=>?_,fun hc=>I.ok.hd hc,I.ok.frames,.inl rfl,fun b hb=>?_,I3.bs,Nat.le_trans I.ok.bsz I3.sz,fun b o e hb=>?_,fun b hb hf=>?_,I3.stack,I3.stkFree⟩,
    rfl,I.bare,Un.kept k4,⟨m,hns,fun i y v e1 e2 e3'=>?_⟩,fun y c e=>?_,?_,fun y c e=>?_,fun p hp=>absurd (show p ∈ ([]:List (Addr × Obj)) from hp) (by simp),I3.hok.kept k4,?_⟩
  · rcases look _ _ e1 with ⟨a1,a2⟩ | ⟨a1,a2⟩ <;> rcases look _ _ e2 with ⟨b1,b2⟩ | ⟨b1,b2⟩
    · rw [a1,b1]
    · have:=clt _ _ b2
      rw [a2] at this
      exact absurd this (Nat.not_lt.mpr (Nat.le_succ _))
    · have:=clt _ _ a2
      rw [b2] at this
      exact absurd this (Nat.not_lt.mpr (Nat.le_succ _))
    · exact I.ok.inj _ _ c (zH a2 hasF) (zH b2 hasF)
  · by_cases q:y = x
    · subst q
      exact ⟨C + 1,by show List.lookup y ((y,C + 1) :: _) = _;simp [List.lookup_cons]⟩
    obtain ⟨k,e,z⟩:∃ k,scope.names.lookup y = some k /\ (k = .free):=by
      rcases hy with hx | hx
      · obtain ⟨k,e,z⟩:=jO hx
        rcases z with z | z
        · subst z;exact absurd (B.is (PySem.mem_of_lookup e) rfl) q
        · exact ⟨k,e,z.1⟩
      · obtain ⟨k,e,z⟩:=jO hx
        rcases z with z | z
        · subst z;exact ⟨_,e,rfl⟩
        · exact ⟨k,e,z.1⟩
    subst z
    refine ⟨(X.env.cells.lookup y).getD 0,?_⟩
    show List.lookup y ((x,C + 1) :: _) = _
    rw [List.lookup_cons,show (y == x) = false from by simpa using q]
    exact j5 e
  · rcases look _ _ e with ⟨a1,a2⟩ | ⟨a1,a2⟩
    · rw [a2]
      show h3.objs.size <= C + 1
      rw [hC];exact Nat.le_succ _
    · exact absurd (by simpa using hf) a1
  · have ncell:∀ b,b < C -> ∀ y c,((x,C + 1) :: qd X.env.cells scope.names []).lookup y = some c -> (∀ y c,X.env.cells.lookup y = some c -> c ≠ b) -> c ≠ b:=fun b hb y c e h=>by
      rcases look _ _ e with ⟨a1,a2⟩ | ⟨a1,a2⟩
      · rw [a2];exact Nat.ne_of_gt (Nat.lt_succ_of_lt hb)
      · exact h y c (zH a2 hasF)
    rcases List.mem_cons.mp hb with z | hb
    · subst z
      refine ⟨by rw [hD,hC,hz];exact Nat.ne_of_lt (Nat.lt_succ_self _),fun y c e=>ncell _ (by rw [hD,hC,hz];exact Nat.lt_succ_self _) y c e fun y c e=>?_⟩
      have:=cellLt y c e
      rw [hD];exact Nat.ne_of_lt this
    · have hlt:b < C:=by rw [hC,hz];exact Nat.lt_succ_of_lt (fl b hb)
      exact ⟨Nat.ne_of_lt hlt,fun y c e=>ncell _ hlt y c e fun y c e=>(f2 b hb).2.2.2.2.1 y c e⟩
  · rcases List.mem_cons.mp hb with z | hb
    · have:=Heap.lt_size (I.bk b o e)
      rw [z,hD] at this
      exact Nat.lt_irrefl _ this
    · rcases (f2 b hb).2.2.2.1 with z | z
      · exact I.ok.noex b o e z
      · exact absurd (Nat.lt_of_lt_of_le (Heap.lt_size (I.ok.bs b o e).1) z) (Nat.lt_irrefl _)
  · have hf':=List.mem_cons.mp (I.stkSub b hf)
    rcases List.mem_cons.mp hb with z | hb
    · rcases hf' with y | y
      · have:=I.lt
        rw [<- y,z,hD] at this
        exact Nat.lt_irrefl _ this
      · exact I.nofs (a:=b) (by rw [z,hD];exact Nat.le_refl _) y
    · rcases hf' with y | y
      · exact (f2 b hb).2.1 y
      · exact (f2 b hb).2.2.1 y
  · obtain ⟨hn,_,j,ej,es⟩:=jL e2
    have ex:fr[i - 1]? = some y:=by
      rw [List.getElem?_append_right (show ([x]:List Str).length <= i from hn)] at e1
      exact e1
    obtain ⟨hfx,j',ej',eN⟩:=B.fr _ y ex
    have:j' = j:=by rw [ej] at ej';exact (Option.some.inj ej').symm
    subst this
    have hkx:=B.free _ (PySem.mem_of_lookup hfx) rfl
    obtain ⟨m0,_,hl⟩:=I.loc
    obtain ⟨u,r,l⟩:=hl j' y v eN es (by rcases hkx with z | z;exact .inr (.inl z);exact .inr (.inr z))
    refine ⟨u,r,.inr ?_⟩
    have yx:y ≠ x:=fun z=>by
      have:=B.lk
      rw [<- z,hfx] at this
      cases this
    rcases l with ⟨kl,_⟩ | ⟨_,c,ec,o,eo,ed⟩
    · have kl':X.env.scope.names.lookup y = some .local:=kl
      rcases hkx with z | z
      · exact absurd (z.symm.trans kl') (by decide)
      · exact absurd (z.symm.trans kl') (by decide)
    · obtain ⟨k',e',z⟩:=xj (env:=X.env) hfx
      have eq:((x,C + 1) :: qd X.env.cells scope.names []).lookup y = some c:=by
        rw [List.lookup_cons,show (y == x) = false from by simpa using yx]
        show (qd X.env.cells scope.names []).lookup y = some c
        rw [j5 hfx,ec];rfl
      refine ⟨?_,c,eq,o,k4 c o (k3 c o eo),ed⟩
      rcases z with z | z
      · subst z;exact .inl e'
      · subst z;exact .inr e'
  · rcases look _ _ e with ⟨a1,a2⟩ | ⟨a1,a2⟩
    · rw [a2];exact ⟨none,hcell⟩
    · obtain ⟨v,o,eo,ed⟩:=I.cell y c (zH a2 hasF)
      exact ⟨v,o,k4 c o (k3 c o eo),ed⟩
  · exact I3.hok.fresh (Nat.le_of_eq hC.symm)
  · rcases look _ _ e with ⟨a1,a2⟩ | ⟨a1,a2⟩
    · rw [a2]
      exact I3.hok.fresh (by show h3.objs.size <= C + 1;rw [hC];exact Nat.le_succ _)
    · exact I.freeC y c (zH a2 hasF)
  · rw [QY,<- B.len]
    show _ = ([x] ++ fr).length
    rw [List.length_append];rfl
theorem zat (fr:List Str) (js:List Nat) (hc:X.calm = true) (hk:scope.kind = .function) (hb:Zi scope.names X.env.scope.names X.N x fr js = true) (hi:PI X tg iter wi)
    (hg:∀ C s H ex,PG (qy X ([x] ++ fr) scope x C s H ex) tg g) (hf:∀ C s H ex,PF (qy X ([x] ++ fr) scope x C s H ex) ifs tf) (he:∀ C s H ex,PE (qy X ([x] ++ fr) scope x C s H ex) elt te)
    (hs:∀ x,foldedSetIterable iter X.env x = pure x:=by intro _;rfl):PE X (.ListComp elt [⟨tg,iter,ifs,0⟩] scope pos) (tLC wi 1 js g tf te):=by
  intro pins s σ H Q I h
  have B:=yp hb
  have hasF:∀ y ∈ scope.names,y.2 = NameKind.free -> ∃ c,X.env.cells.lookup y.1 = some c:=fun y hy e=>I.ok.has y.1 (B.free y hy e)
  rw [eval_ListComp]
  refine wpAny_comprehension_free (use:=none) rfl hs (Zf hasF) hk (fun y hy e=>B.loc y hy e) (thn (hi pins s σ H _ I h) fun v s1 h1=>thn h1 fun itv s2 h2=>?_)
  obtain ⟨it,fp,tn,J,H2,e,I2,T,st2,f2,W,⟨m0,w0⟩,turn⟩:=h2
  subst e
  have fl:∀ b ∈ fp,b < s2.heap.objs.size:=fun b hb=>let ⟨o,e,_⟩:=T.obj _ _ st2 b hb;Heap.lt_size e
  refine wpAny_newObj_type (QM B.one ?_)
  dsimp only
  generalize e3:s2.heap.push { cls:=.type "list",dict:=none,data:=.seq ([]:List Value).toArray } = h3
  have hns:((h3.push { cls:=.type "dict",data:=.dict #[] }).push { cls:=.type "cell",data:=.cell none }).Ns h3.objs.size (fun _=>none):=(Heap.Ns.new h3 (.type "dict")).keeps fun b o e=>Heap.get?_push_of_some _ e
  have hcell:((h3.push { cls:=.type "dict",data:=.dict #[] }).push { cls:=.type "cell",data:=.cell none }).IsCell (h3.objs.size + 1) none:=⟨_,by have:=Heap.get?_push_size (h3.push { cls:=.type "dict",data:=.dict #[] }) (o:={ cls:=.type "cell",data:=.cell none }) rfl;rwa [Heap.size_push] at this,rfl⟩
  have k4:∀ b o,h3.get? b = some o -> ((h3.push { cls:=.type "dict",data:=.dict #[] }).push { cls:=.type "cell",data:=.cell none }).get? b = some o:=fun b o e=>Heap.get?_push_of_some _ (Heap.get?_push_of_some _ e)
  generalize (h3.push { cls:=.type "dict",data:=.dict #[] }).push { cls:=.type "cell",data:=.cell none } = h1 at hns hcell k4
  have k3:∀ b o,s2.heap.get? b = some o -> h3.get? b = some o:=fun b o e=>by rw [<- e3];exact Heap.get?_push_of_some _ e
  have I4:Inv (qy X ([x] ++ fr) scope x h3.objs.size { s2 with heap:=h3 } H2 (s2.heap.objs.size :: fp)) [] (upS 1 js σ) H2 { s2 with heap:=h1 }:=
    QT fr js I2 B hk f2 fl rfl e3.symm rfl hns hcell k4
  have I3:Inv X pins σ H2 { s2 with heap:=h3 }:=I2.kept (t':=s2.toks) k3
  have hz:h3.objs.size = s2.heap.objs.size + 1:=by rw [<- e3,Heap.size_push]
  have hDl:s2.heap.objs.size ≠ h3.objs.size:=by rw [hz];exact Nat.ne_of_lt (Nat.lt_succ_self _)
  have hacc:h1.get? s2.heap.objs.size = some { cls:=.type "list",data:=.seq ([]:List Value).toArray }:=k4 _ _ (by rw [<- e3];exact Heap.get?_push_size _ rfl)
  generalize eD:s2.heap.objs.size = D at *
  generalize eC:h3.objs.size = C at *
  have fD:∀ b ∈ fp,D ≠ b:=fun b hb=>Nat.ne_of_gt (fl b hb)
  have look:∀ y c,((x,C + 1) :: qd X.env.cells scope.names []).lookup y = some c -> c = C + 1 \/ X.env.cells.lookup y = some c:=fun y c e=>by
    rw [List.lookup_cons] at e
    by_cases q:(y == x) = true
    · rw [q] at e
      exact .inl (Option.some.inj e).symm
    · rw [(Bool.not_eq_true _).mp q] at e
      exact .inr (zH e hasF)
  have hx:∀ y c,((x,C + 1) :: qd X.env.cells scope.names []).lookup y = some c -> c ≠ D:=fun y c e=>by
    rcases look y c e with z | z
    · rw [z,hz];exact Nat.ne_of_gt (Nat.lt_succ_of_lt (Nat.lt_succ_self _))
    · obtain ⟨v,q⟩:=I2.cell y c z
      rw [<- eD];exact Nat.ne_of_lt q.lt
  have hx2:∀ b ∈ fp,∀ y c,((x,C + 1) :: qd X.env.cells scope.names []).lookup y = some c -> c ≠ b:=fun b hb y c e=>by
    rcases look y c e with z | z
    · rw [z,hz];exact Nat.ne_of_gt (Nat.lt_succ_of_lt (Nat.lt_succ_of_lt (fl b hb)))
    · exact (f2 b hb).2.2.2.2.1 y c z
  have nfs:∀ b ∈ D :: fp,b ∉ frs X.stack:=I4.ok.exfs
  have fpB:∀ {pins':List (Addr × Obj)} {H':Hp} {b:Addr},b ∈ fp -> H' b = none -> (∀ p ∈ pins',p.1 ≠ b) -> qT (qy X ([x] ++ fr) scope x C { s2 with heap:=h3 } H2 (D :: fp)) pins' H' b:=fun {pins' H' b} hb hn hp=>
    ⟨hn,(I4.ok.exf b (List.mem_cons_of_mem _ hb)).1,nfs b (List.mem_cons_of_mem _ hb),.inl (List.mem_cons_of_mem _ hb),fun x c e=>hx2 b hb x c e,fun p h=>hp p (by simpa using h)⟩
  have fpD:∀ {pins':List (Addr × Obj)} {H':Hp},H' D = none -> (∀ p ∈ pins',p.1 ≠ D) -> qT (qy X ([x] ++ fr) scope x C { s2 with heap:=h3 } H2 (D :: fp)) pins' H' D:=fun {pins' H'} hn hp=>
    ⟨hn,hDl,nfs D List.mem_cons_self,.inl List.mem_cons_self,fun x c e=>hx x c e,fun p h=>hp p (by simpa using h)⟩
  have loop:∀ s4:Shared,s4 = { s2 with heap:=h1 } ->
      codeAny (model X.prog X.w) X.A (.compLoop (.ListComp elt [⟨tg,iter,ifs,0⟩] scope pos) 0 (.ref it) (.ref D) (compEnvC scope ((x,C + 1) :: qd X.env.cells scope.names []) C X.env))
        (compPost (model X.prog X.w) X.A X.xe none (EP X pins σ Q) (.ref D) C) s4:=by
    intro s4 e4
    refine wu (fun n s'=>∃ i ys its H',∃ z:Nat,Inv (qy X ([x] ++ fr) scope x C { s2 with heap:=h3 } H2 (D :: fp)) [] (upS 1 js σ) H' s' /\ tn i s'.heap /\ (∀ b ∈ fp,H' b = none) /\ H' D = none /\
      s'.heap.get? D = some { cls:=.type "list",data:=.seq (its:List Value).toArray z } /\ Vals ys its /\ W i n ys H') ?_ m0 ?_
    · rintro n s5 ⟨i,ys,its,H5,z5,I5,st5,fr5,hD5,ho5,rv5,w5⟩
      have I5':=I5.pinned (fp:=[D]) (fun b hb=>by rw [List.mem_singleton.mp hb];exact fpD hD5 (fun p hp=>absurd hp (by simp))) (fun b hb=>by
        rw [List.mem_singleton.mp hb];exact ⟨_,ho5,fun v q=>nomatch q⟩)
      have pD:∀ p ∈ [] ++ zG [D] s5.heap,p.1 = D:=fun p hp=>by
        rw [List.nil_append] at hp
        exact List.mem_singleton.mp (j3 hp).1
      have mD:(D,({ cls:=.type "list",data:=.seq its.toArray z5 }:Obj)) ∈ [] ++ zG [D] s5.heap:=by
        rw [List.nil_append];exact qo (List.mem_singleton.mpr rfl) ho5
      have fp5:∀ {H':Hp},(∀ b ∈ fp,H' b = none) -> ∀ b ∈ fp,qT (qy X ([x] ++ fr) scope x C { s2 with heap:=h3 } H2 (D :: fp)) ([] ++ zG [D] s5.heap) H' b:=fun hn b hb=>fpB hb (hn b hb) fun p hp=>by
        rw [pD p hp];exact fD b hb
      rcases turn i n ys H5 w5 with ⟨stop,hlen,q⟩ | ⟨go,N,hN,step⟩
      · refine thn (T.done (qy X ([x] ++ fr) scope x C { s2 with heap:=h3 } H2 (D :: fp)) rfl rfl rfl hc i _ s5 _ H5 _ I5' (fp5 fr5) st5 stop) fun r s6 ⟨hr,I6⟩=>?_
        subst hr
        obtain ⟨m6,hn6,_⟩:=I6.loc
        refine ⟨m6,hn6,fun h7 hs7=>?_⟩
        obtain ⟨o6,nD6,_⟩:=I6.pin (D,_) (List.mem_append_right _ mD)
        have k7:∀ b o,b ≠ C -> s6.heap.get? b = some o -> h7.get? b = some o:=fun b o hb e=>hs7.extBut b o hb e
        refine ⟨.ref D,upd H5 D (.lst ys),?_,rfl,q D nD6⟩
        refine I3.call' (s':={ s6 with heap:=h7 }) (ch:=D :: fp) I6.os (xr (Qo I6.base (Nat.le_of_eq eC) k7) List.mem_cons_self (I2.hok.fresh ?_)) (j4 (y9 I6.hok I6.free k7) nD6 ⟨hlen,its,z5,rv5,k7 D _ hDl o6⟩) I6.bare fun b hb=>?_
        · rw [<- eD];exact Nat.le_refl _
        · rcases List.mem_cons.mp hb with y | hb
          · subst y
            refine ⟨.inr (by rw [<- eD];exact I2.sz),by rw [<- eD];exact Nat.ne_of_gt I2.lt,fun x c e=>?_,fun p hp=>?_⟩
            · obtain ⟨v,q⟩:=I2.cell x c e
              rw [<- eD];exact Nat.ne_of_lt q.lt
            · rw [<- eD];exact Nat.ne_of_lt (Heap.lt_size (I2.pin p hp).1)
          · obtain ⟨_,g1,_,g3,g4,g5⟩:=f2 b hb
            exact ⟨g3,g1,g4,g5⟩
      · refine thn (T.item (qy X ([x] ++ fr) scope x C { s2 with heap:=h3 } H2 (D :: fp)) rfl rfl rfl hc i _ s5 _ H5 _ I5' (fp5 fr5) st5 go) fun r s6 ⟨u,hr,h6⟩=>?_
        subst hr
        refine thn h6 fun _ s7 ⟨x7,H7,I7,r7,y7,st7,fr7⟩=>?_
        have I7':=I7.pinned (fp5 fr7) (T.obj _ _ st7)
        refine thn (hg _ _ _ _ _ s7 _ H7 x7 u _ I7' r7 (step x7 H7 y7)) fun _ s8 ⟨σ8,H8,I8,hd8,q8⟩=>?_
        refine thn (hf _ _ _ _ _ s8 σ8 H8 _ I8 q8) fun ok s9 ⟨H9,I9,q9⟩=>?_
        have weak:∀ {H':Hp} {s':Shared},Inv (qy X ([x] ++ fr) scope x C { s2 with heap:=h3 } H2 (D :: fp)) (([] ++ zG [D] s5.heap) ++ zG fp s7.heap) σ8 H' s' ->
            Inv (qy X ([x] ++ fr) scope x C { s2 with heap:=h3 } H2 (D :: fp)) [] (upS 1 js σ) H' s':=fun {H' s'} J=>by
          refine (J.unpinned).unpinned.weak (I5.len.trans J.len.symm) fun k v e=>?_
          obtain ⟨hn,e1,_⟩:=jL e
          rw [<- hd8,List.getElem?_drop] at e1
          rw [<- e1]
          congr 1
          omega
        have mF:∀ b ∈ fp,∀ o,s7.heap.get? b = some o -> (b,o) ∈ ([] ++ zG [D] s5.heap) ++ zG fp s7.heap:=fun b hb o e=>List.mem_append_right _ (qo hb e)
        have mD':=List.mem_append_left (zG fp s7.heap) mD
        have frB:∀ {H':Hp} {s':Shared},Inv (qy X ([x] ++ fr) scope x C { s2 with heap:=h3 } H2 (D :: fp)) (([] ++ zG [D] s5.heap) ++ zG fp s7.heap) σ8 H' s' -> ∀ b ∈ fp,H' b = none:=fun {H' s'} J b hb=>by
          obtain ⟨o,e,_⟩:=T.obj _ _ st7 b hb
          exact (J.pin (b,o) (List.mem_append_right _ (mF b hb o e))).2.1
        cases ok with
        | false=>
          have q9':N ys H9:=by simpa using q9
          obtain ⟨m',hm,w'⟩:=hN _ _ q9'
          obtain ⟨o9,nD9,_⟩:=I9.pin (D,_) (List.mem_append_right _ mD')
          exact ⟨m',hm,i + 1,ys,its,H9,z5,weak I9,T.keep _ _ _ st7 fun b hb o e=>(I9.pin (b,o) (List.mem_append_right _ (mF b hb o e))).1,frB I9,nD9,o9,rv5,w'⟩
        | true=>
          have q9':te σ8 H9 fun y H6=>ys.length < sizeLine /\ N (ys ++ [y]) H6:=by simpa using q9
          refine thn (he _ _ _ _ _ s9 σ8 H9 _ I9 q9') fun yv s10 ⟨y,H10,I10,r10,hlt,w10⟩=>?_
          obtain ⟨m',hm,w'⟩:=hN _ _ w10
          obtain ⟨o10,nD10,_⟩:=I10.pin (D,_) (List.mem_append_right _ mD')
          refine wpAny_list_append_plain (l:=D) (items:=its.toArray) (hsz:=by rw [List.size_toArray,<- rv5.length];exact Nat.le_of_lt hlt) ⟨_,o10⟩ fun h11 hl11 hs11=>?_
          obtain ⟨z11,e11⟩:=hl11
          refine ⟨m',hm,i + 1,ys ++ [y],its ++ [yv],H10,z11,?_,T.keep _ _ _ st7 fun b hb o e=>hs11.extBut b o (Ne.symm (fD b hb)) (I10.pin (b,o) (List.mem_append_right _ (mF b hb o e))).1,frB I10,nD10,?_,rv5.append (.cons r10 .nil),w'⟩
          · exact (weak I10).turned (t':=s10.toks) (it:=D) (fun b o hb e=>hs11.extBut b o hb e) nD10 hDl (.inl List.mem_cons_self) (fun x c e=>hx x c e) fun p hp=>absurd (show p ∈ ([]:List (Addr × Obj)) from hp) (by simp)
          · rw [e11];simp
    · subst e4
      exact ⟨0,[],[],H2,0,I4,T.keep _ _ _ st2 fun b hb o e=>k4 b o (k3 b o e),fun b hb=>(f2 b hb).1,I2.hok.fresh (by rw [<- eD];exact Nat.le_refl _),hacc,.nil,w0⟩
  exact codeAny_compStart_list (loop _ rfl) (T.self X.A 0 _ _ _ (T.keep _ _ _ st2 fun b hb o e=>k4 b o (k3 b o e)) (loop _ rfl))
theorem zas {px:Pos} (fr:List Str) (js:List Nat) (hc:X.calm = true) (hk:scope.kind = .function) (hb:Zi scope.names X.env.scope.names X.N x fr js = true) (hi:PI X (.Name x px) iter wi)
    (hf:∀ C s H ex,PF (qy X ([x] ++ fr) scope x C s H ex) ifs tf) (he:∀ C s H ex,PE (qy X ([x] ++ fr) scope x C s H ex) elt te)
    (hs:∀ x,foldedSetIterable iter X.env x = pure x:=by intro _;rfl):PE X (.ListComp elt [⟨.Name x px,iter,ifs,0⟩] scope pos) (tLC wi 1 js (vf 0) tf te):=by
  have B:=yp hb
  refine zat fr js hc hk hb hi (fun C s H ex=>?_) hf he hs
  have lk:(compEnvC scope ((x,C + 1) :: qd X.env.cells scope.names []) C X.env).scope.names.lookup x = some .cell:=xk B.lk
  exact zB (X:=qy X ([x] ++ fr) scope x C s H ex) B.nd rfl (.inr lk) (.inl (by show (x == x) = true;simp))
end
end L2
namespace L2
end L2
namespace L2
open PySem PySem.W PySem.Spec PyProof.Rows
abbrev bmV:List Value:=[.type "ValueError",.type "Exception",.type "BaseException",.type "object"]
def zbz (K:Frag) (C:Addr) (ini:Option Value):Bool:=match K.lookup C with
  | some ⟨.type "type",_,.cls cd,sl⟩=>(match cd.mro with
    | .ref C' :: bm=>(match sl.toList with
      | [_,_,_,_,some (.builtin n),_]=>C' == C && (n == "ValueError.__new__" && (!cd.hasDel && (tailIn K bmV bm && (nsOkIn K cd.ns && nsIn K cd.ns "__init__" == some ini))))
      | _=>false)
    | _=>false)
  | _=>false
structure Xc (h:Heap) (C:Addr) (ini:Option Value):Prop where
  is:∃ (bm:List Value) (N:Addr) (nm qn:Str) (bs:List Value) (hd:Bool) (sn:List Str) (sub:List Value) (ab:Bool) (col:Option Bool) (dd:Option Addr) (k0 k1 k2 k3 k5:Option Value) (mN:Str -> Option Value),
    h.get? C = some (excClassObj nm qn C N bs bm hd sn sub ab col dd k0 k1 k2 k3 k5 "ValueError.__new__") /\ h.Ns N mN /\ mN "__init__" = ini /\ OwnTail h bmV bm
end L2
namespace L2
open PySem PySem.W PySem.Spec PyProof.Rows
section
variable {P:Program} {w:World} {H:Hp} {h h':Heap} {a:Addr} {o:HO}
theorem ObjOk.has (x:ObjOk P w H h a o):∃ u,h.get? a = some u:=by
  cases o with
  | lst xs=>obtain ⟨_,_,_,_,e⟩:=x;exact ⟨_,e⟩
  | tup xs=>obtain ⟨_,_,_,⟨u,e,_⟩,_⟩:=x;exact ⟨u,e⟩
  | dK kvs=>obtain ⟨_,_,_,_,u,_,_,e,_⟩:=x;exact ⟨u,e⟩
  | dT kvs=>obtain ⟨_,_,_,_,u,_,_,e,_⟩:=x;exact ⟨u,e⟩
  | set S n=>obtain ⟨u,_,_,_,e,_⟩:=x;exact ⟨u,e⟩
  | ins C dx fs=>obtain ⟨_,_,_,e,_⟩:=x;exact ⟨_,e⟩
  | own y=>obtain ⟨u,e⟩:=x;exact ⟨u,e⟩
  | xd fs=>obtain ⟨_,⟨u,_,_,e,_⟩,_⟩:=x;exact ⟨u,e⟩
  | rng lo hi=>obtain ⟨_,_,_,e⟩:=x;exact ⟨_,e⟩
  | frz ob u=>obtain ⟨e,_⟩:=x;exact ⟨_,e⟩
  | tbl ps=>exact ⟨_,show h.get? a = some _ from x⟩
  | met f y=>exact ⟨_,show h.get? a = some _ from x⟩
  | ext φ=>obtain ⟨_,⟨u,e⟩,_⟩:=x;exact ⟨u,e⟩
theorem HOk.none_of (x:HOk P w H h) (e:h.get? a = none):H a = none:=by
  cases q:H a with
  | none=>rfl
  | some u=>obtain ⟨z,ez⟩:=(x a u q).has;rw [e] at ez;cases ez
end
section
variable {X:Cx} {pins:List (Addr × Obj)} {σ:St} {H:Hp} {s:Shared} {h':Heap}
theorem Inv.laidN {a:Addr} {o:HO} {t':Nat} (I:Inv X pins σ H s) (k:∀ b u,s.heap.get? b = some u -> h'.get? b = some u) (hn:s.heap.get? a = none) (new:ObjOk X.prog X.w (upd H a o) h' a o) :
    Inv X pins σ (upd H a o) { s with heap:=h',toks:=t' }:=by
  have hH:=I.hok.none_of hn
  have ne:∀ b u,s.heap.get? b = some u -> b ≠ a:=fun b u q z=>by rw [z,hn] at q;cases q
  have neH:∀ b u,H b = some u -> b ≠ a:=fun b u q z=>by rw [z,hH] at q;cases q
  refine I.un ⟨fun b u q _ _ _=>k b u q,fun b u q _ _ _=>⟨u.slots,k b u q⟩,fun b u q n _=>by rw [zu (ne b u q)];exact n,fun b u q _=>⟨u,k b u q⟩,
    fun b xs q=>by rw [zu (neH b _ q)];exact q,fun b u xs q=>by rw [zu (neH b _ q)];exact q,fun b ps q=>⟨#[],by rw [zu (neH b _ q),q];simp⟩⟩ ?_
  intro b u e
  by_cases hb:b = a
  · subst hb;rw [zf] at e;cases e;exact new
  · rw [zu hb] at e
    exact (I.hok b u e).stay (fun c v _ q=>k c v q) (fun c q=>by rw [zu (neH c _ q)];exact q) fun c xs q=>by rw [zu (neH c _ q)];exact q
end
section
variable {prog:Program} {w:World} {A:Around} {E:Value -> Shared -> Prop} {h:Heap} {g:Array GenState} {d:Drawn} {t:Nat} {os:OsState} {C:Addr}
end
section
variable {prog:Program} {w:World} {A:Around} {E:Value -> Shared -> Prop} {h:Heap} {g:Array GenState} {d:Drawn} {t:Nat} {os:OsState}
variable {nm q:Str} {C N:Addr} {bs bm:List Value} {hdct:Bool} {sn:List Str} {sub:List Value} {ab:Bool} {col:Option Bool} {dd:Option Addr} {k0 k1 k2 k3 k5:Option Value}
end
end L2
namespace L2
open PySem PySem.W PySem.Spec PyProof.Rows
structure XK2 (K:Frag) (C:Addr) (ini:Option Value):Prop where
  cls:zbz K C ini = true
  sa:findIn K (.ref C) "__setattr__" = some (some (.builtin "object.__setattr__"))
  ga:findIn K (.ref C) "__getattribute__" = some (some (.builtin "BaseException.__getattribute__"))
  gh:findIn K (.ref C) "__getattr__" = some none
  ob:mroIn K C (.type "object") = some true
  be:mroIn K C (.type "BaseException") = some true
  hd:hasDictIn K C = true
section
variable {prog:Program} {w:World} {A:Around} {E:Value -> Shared -> Prop} {h:Heap} {g:Array GenState} {d:Drawn} {t:Nat} {os:OsState} {K:Frag} {C e t0:Addr} {ini:Option Value} {f:Str} {v:Value}
end
end L2
namespace L2
open PySem PySem.W PySem.Spec PyProof.Rows
section
variable {prog:Program} {w:World} {A:Around} {E:Value -> Shared -> Prop} {h:Heap} {g:Array GenState} {d:Drawn} {t:Nat} {os:OsState} {K:Frag} {C e t0 dx:Addr} {od:Option Addr} {ini:Option Value} {f:Str} {v:Value} {mA:Str -> Option Value}
end
end L2
namespace L2
open PySem PySem.W PySem.Spec PyProof.Rows
structure XKc (K:Frag) (C:Addr):Prop where
  lk:findIn K (.ref C) "__class__" = some (some (.builtin "object.__class__"))
  gt:specialIn K (.builtin "object.__class__") "__get__" = some (some (.builtin "getset_descriptor.__get__"))
  tk:takesIn K (.builtin "object.__class__") = some true
section
variable {prog:Program} {w:World} {A:Around} {E:Value -> Shared -> Prop} {h:Heap} {g:Array GenState} {d:Drawn} {t:Nat} {os:OsState} {K:Frag} {C C' e t0:Addr} {dx:Option Addr} {ini:Option Value} {od:Option Obj}
end
end L2
namespace L2
open PySem PySem.W PySem.Spec PyProof.Rows
structure XOk (K:Frag) (C:Addr) (ini:Option Value):Prop where
  k:XK2 K C ini
  c:XKc K C
  kp:keepIn K (.ref C) = true
  ty:typeIn K (.ref C) = some (.type "type")
  cd:∃ cd,clsIn K C = some cd
  ve:mroIn K C (.type "ValueError") = some true
section
variable {X:Cx} {CX:CXT} {k:Nat} {f C:Addr} {fd:FuncData} {ps:List Str} {ds:List Value} {dvs:List V} {sp:Sp} {E:XK} {x m:Str} {p pos apos:Pos} {e o value:Expr} {es:List Expr} {t:TA} {ta tv:TE} {ini:Option Value}
end
end L2
namespace L2
open PySem PySem.W PySem.Spec PyProof.Rows
section
variable {X:Cx}
end
structure Xs (K:Frag) (mg:Str -> Option Value) (x:Str) (C:Addr) (ini:Option Value):Prop where
  ok:XOk K C ini
  gl:mg x = some (.ref C)
structure XsI (P:Program) (w:World) (K:Frag) (mg:Str -> Option Value) (base:Heap) (x:Str) (C f:Addr) (k:Nat) (ps:List Str) (sp:Sp):Prop extends Xs K mg x C (some (.ref f)) where
  ex:∃ fd oF,qC P w K mg base CX0 k f fd ps sp /\ K.lookup f = some oF /\ oF.cls = .type "function" /\ Binds K fd ps []
section
variable {X:Cx} {x:Str} {k:Nat} {C f:Addr} {ps:List Str} {sp:Sp} {p pos:Pos} {e:Expr} {es:List Expr} {t:TA}
end
end L2
namespace L2
open PySem PySem.Spec PyProof.Rows
theorem xM:∀ {us:List Value} {ns:List Str},StrsAre us ns -> Vals (ns.map V.str) us
  | _,_,.nil=>.nil
  | _,_,.cons n t r=>.cons ⟨t,rfl⟩ (xM r)
theorem wR:∀ {ns:List Str} {us:List Value},Vals (ns.map V.str) us -> StrsAre us ns
  | [],_,r=>by cases r;exact .nil
  | n :: ns,_,r=>by
    cases r with
    | cons h t=>obtain ⟨tk,rfl⟩:=h;exact .cons n tk (wR t)
section
variable {X:Cx}
inductive jV (K:PySem.W.Frag) (xs:List V) (H:Hp) (Q:VK):Prop
  | mk (a:Addr) (ns:List Str) (_:xs = [.ref a]) (_:SqL K H a (ns.map V.str)) (_:ns.length < 64) (_:∀ (p:Addr) (ms:List Str),H p = none -> ms.Perm ns -> sortedS ms = true -> Q (.ref p) (upd H p (.lst (ms.map V.str)))):jV K xs H Q
theorem Zg:qD X (.builtin "sorted") (jV X.K):=by
  intro pins s σ H xs us Q I r h
  obtain ⟨a,ns,rfl,hx,hl,q⟩:=h
  obtain ⟨u,rfl,ru⟩:=Vals.one r
  cases (show u = Value.ref a from ru)
  obtain ⟨its,r',pl,hz⟩:=I.list hx
  have len:=r'.length
  rw [List.length_map] at len
  refine sorted_strs pl.isList (wR r') (by omega) fun out ms a1 a2 a3=>?_
  obtain ⟨e,he⟩:=sortedAll_at s.heap its out
  have hn:H (s.heap.objs.size + 1) = none:=I.hok.fresh (Nat.le_succ _)
  refine ⟨.ref (s.heap.objs.size + 1),_,I.laid (a:=s.heap.objs.size + 1) (o:=.lst (ms.map V.str)) (t':=s.toks) (fun _ _=>sortedAll_old) (Nat.le_succ _) ⟨?_,out.toList,e,xM a1,?_⟩,rfl,q _ ms hn a2 a3⟩
  · rw [List.length_map,a2.length_eq,sizeLine_eq];omega
  · rw [he]
end
section
variable {prog:Program} {w:World} {κ:Type} [DecidableEq κ] {knd:PySem.KeyKind prog w κ} {A:Around} {E:Value -> Shared -> Prop} {s:Shared}
end
section
variable {prog:Program} {w:World} {κ:Type} [DecidableEq κ] {knd:PySem.KeyKind prog w κ}
end
section
variable {X:Cx} {td ty tx:TE} {o e f:Expr} {apos cpos:Pos}
end
theorem zbj {P:Program} {w:World} {k:Key} {u:Value} (h:(zE P w).is k u = true):RelV (kV k) u:=by
  rw [QN] at h
  rcases zY h with ⟨i,t,rfl,rfl⟩ | ⟨x,t,rfl,rfl⟩
  · exact ⟨t,rfl⟩
  · exact ⟨t,rfl⟩
theorem QW:∀ {xs:List V} {us:List Value},xs.length = us.length -> (∀ (j:Nat) u,us[j]? = some u -> ∃ x,xs[j]? = some x /\ RelV x u) -> Vals xs us
  | [],[],_,_=>.nil
  | [],_ :: _,h,_=>by simp at h
  | _ :: _,[],h,_=>by simp at h
  | x :: xs,u :: us,h,f=>by
    refine .cons ?_ (QW (by simpa using h) fun j v e=>?_)
    · obtain ⟨y,e1,r⟩:=f 0 u rfl
      cases e1
      exact r
    · obtain ⟨y,e1,r⟩:=f (j + 1) v (by simpa using e)
      exact ⟨y,by simpa using e1,r⟩
section
variable {X:Cx}
end
section
variable {X:Cx} {td ty:TE} {o e:Expr} {apos cpos:Pos}
end
section
variable {X:Cx}
end
section
variable {X:Cx} {tg:Expr}
end
section
variable {X:Cx} {tg:Expr}
end
open Sem (wp)
theorem yX:typeLookup (.type "list") "keys" = pure none:=by rw [typeLookup_type,builtinLookup_eq_fast];kernel_rfl
theorem yY:typeLookup (.type "list") "__getattr__" = pure none:=by rw [typeLookup_type,builtinLookup_eq_fast];kernel_rfl
theorem xO:isSubtype (.type "AttributeError") (.type "AttributeError") = pure true:=by rw [isSubtype_type];kernel_rfl
section
variable {prog:Program} {w:World} {A:Around} {E:Value -> Shared -> Prop} {s:Shared}
theorem QD {α:Type} {M:Model} {o:Value} {name msg:Str} {Q:α -> Shared -> Prop} (hh:A.handled = none) (hm:msg.length <= sizeLine)
   (hq:∀ h' t' e,(∀ b p,s.heap.get? b = some p -> h'.get? b = some p) -> (∃ ob,h'.get? e = some ob /\ ob.cls = .type "AttributeError") -> E (.ref e) { s with heap:=h',toks:=t' }) :
    wpAny M A (raiseAttrError o name msg:Sem α) Q E s:=by
  unfold raiseAttrError newExc newTuple
  refine wpAny_bind (wpAny_mkStr (wpAny_bind (wpAny_bind (wpAny_newObj_type (wpAny_bind (m:=firstArgMember _ _) (wpAny_of_eq (a:=Value.none) (by simp only [firstArgMember];rfl) (wpAny_newObj_type ?_)))))) hm)
  refine wpAny_bind (wpAny_mkText (wpAny_bind (show wpAny _ _ (noteAttr _ _ _) _ _ _ from ?_)))
  unfold noteAttr
  dsimp only
  unfold lacksNameAndObj
  refine wpAny_bind (wpAny_bind (wpAny_isInstance (T:= "AttributeError") ⟨_,Heap.get?_push_size _ rfl,rfl⟩ xO ?_))
  refine wpAny_bind (wpAny_load (Heap.get?_push_size _ rfl) ?_)
  refine wpAny_pure ?_
  refine wpAny_bind (wpAny_rule (wpAny_bind (wpAny_typeOf (T:= "AttributeError") ⟨_,Heap.get?_push_size _ rfl,rfl⟩ ?_)))
  refine wpAny_layMembers (Heap.get?_push_size _ rfl) rfl ?_
  unfold raiseNew;refine wpAny_bind (wpAny_handled ?_);rw [hh];refine wpAny_bind (wpAny_pure (wpAny_throw ?_))
  refine hq _ _ _ (fun b p e=>?_) ⟨_,Heap.get?_update_self _ (Heap.get?_push_size _ rfl) (Obj.isFreed_of_fields (Obj.data_mapFields rfl _)),Obj.cls_mapFields _ _⟩
  rw [Heap.get?_update_other _ _ (Nat.ne_of_gt (Nat.lt_of_lt_of_le (Heap.lt_size e) (by simp)))]
  exact Heap.get?_push_of_some _ (Heap.get?_push_of_some _ e)
end
section
variable {prog:Program} {w:World} {A:Around} {E:Value -> Shared -> Prop} {h:Heap} {g:Array GenState} {d:Drawn} {t:Nat} {os:OsState} {a:Addr} {n:Nat} {its:Array Value}
theorem vC {tk:Tok} {Q:Fin -> Shared -> Prop} (hh:A.handled = none) (hx:h.get? a = some { cls:=.type "list",data:=.seq its n })
   (hq:∀ h' t' e,(∀ b p,h.get? b = some p -> h'.get? b = some p) -> (∃ ob,h'.get? e = some ob /\ ob.cls = .type "AttributeError") -> E (.ref e) ⟨h',g,d,t',os⟩) :
    wpAny (model prog w) A (Builtin.«object.__getattribute__» ⟨[.ref a,.str "keys" tk],[]⟩) Q E ⟨h,g,d,t,os⟩:=by
  have hT:(⟨h,g,d,t,os⟩:Shared).TypeIs (.ref a) "list" :=⟨_,hx,rfl⟩
  have f4:=yX
  repeat (any_goals (first | assumption | wp_step))
  refine QD hh ?_ hq
  rw [sizeLine_eq]
  decide +kernel
theorem vZ {tk:Tok} {R:Result -> Shared -> Prop} (hh:A.handled = none) (hx:h.get? a = some { cls:=.type "list",data:=.seq its n })
   (hq:∀ h' t' e,(∀ b p,h.get? b = some p -> h'.get? b = some p) -> (∃ ob,h'.get? e = some ob /\ ob.cls = .type "AttributeError") -> R (.error (.ref e)) ⟨h',g,d,t',os⟩) :
    codeAny (model prog w) A (.call (.builtin "list.__getattribute__") ⟨[.ref a,.str "keys" tk],[]⟩) R ⟨h,g,d,t,os⟩:=
  codeAny_call_builtin F.slot_list_getattribute.plain F.entry_list_ga (F.slot_list_getattribute.check _ _ _ _ _ _ _ _ (show (⟨h,g,d,t,os⟩:Shared).TypeIs (.ref a) "list" from ⟨_,hx,rfl⟩) (F.args_list_getattribute_2 _ _) (vC hh hx hq))
theorem y3 {tk:Tok} {Q:Value -> Shared -> Prop} (hh:A.handled = none) (hx:h.get? a = some { cls:=.type "list",data:=.seq its n })
   (hq:∀ h' t' e,(∀ b p,h.get? b = some p -> h'.get? b = some p) -> (∃ ob,h'.get? e = some ob /\ ob.cls = .type "AttributeError") -> E (.ref e) ⟨h',g,d,t',os⟩):wpAny (model prog w) A (getAttrBy (.ref a) (.str "keys" tk) false) Q E ⟨h,g,d,t,os⟩:=by
  have hT:(⟨h,g,d,t,os⟩:Shared).TypeIs (.ref a) "list" :=⟨_,hx,rfl⟩
  have f2:=F.slot_list_getattribute.lookup
  have f3:=F.slot_list_getattribute.bind (.ref a)
  repeat (any_goals (first | assumption | wp_step))
  refine vZ hh hx fun h' t' e k ⟨ob,ho,hc⟩=>?_
  dsimp only
  unfold getattributeRaised
  refine wpAny_bind (wpAny_isInstance (T:= "AttributeError") ⟨_,ho,hc⟩ xO ?_)
  rw [if_pos rfl]
  unfold hookBehind
  refine wpAny_bind ?_
  rw [if_neg (by decide)]
  refine wpAny_of_eq yY ?_
  unfold hookOrError attributeErrorLeaves
  dsimp only
  rw [if_pos (show (!false) = true from rfl)]
  first
    | exact wpAny_throw (hq h' t' e k ⟨ob,ho,hc⟩)
    | exact wpAny_bind (wpAny_throw (hq h' t' e k ⟨ob,ho,hc⟩))
theorem v0 {Q:Option Value -> Shared -> Prop} (hh:A.handled = none) (hx:h.get? a = some { cls:=.type "list",data:=.seq its n })
   (hq:∀ h' t',(∀ b p,h.get? b = some p -> h'.get? b = some p) -> Q none ⟨h',g,d,t',os⟩):wpAny (model prog w) A (getAttr? (.ref a) "keys") Q E ⟨h,g,d,t,os⟩:=by
  unfold getAttr? getAttrBy?
  refine wpAny_bind (wpAny_mkText (wpAny_bind (wpAny_attempt (y3 hh hx fun h' t' e k ⟨ob,ho,hc⟩=>?_))))
  dsimp only
  refine wpAny_bind (wpAny_isInstance (T:= "AttributeError") ⟨_,ho,hc⟩ xO ?_)
  rw [if_pos rfl]
  exact wpAny_pure (hq h' t' k)
end
end L2
namespace L2
open PySem PySem.Spec PyProof.Rows
theorem xc:entryFor table "dict.update.loop" = some Builtin.«dict.update.loop»:=entryFor_of_tree (by kernel_rfl)
theorem qP:plainId "dict.update.loop" = true:=by decide +kernel
theorem ZX {K:Type} [DecidableEq K] (kvs more:List (K × Value)) (i:Nat) (kv:K × Value) (h:more[i]? = some kv):merged (stored kvs kv.1 kv.2) (more.drop (i + 1)) = merged kvs (more.drop i):=by
  obtain ⟨h1,h2⟩:=List.getElem?_eq_some_iff.mp h
  rw [List.drop_eq_getElem_cons h1,h2]
  rfl
section
variable {prog:Program} {w:World} {K:Type} [DecidableEq K] {knd:KeyKind prog w K} {A:Around} {R:Result -> Shared -> Prop} {it l D:Addr} {items:Array Value} {pairs:List (K × Value)} {res:Value}
theorem Yz (hh:A.handled = none) (hil:l ≠ it) (hlD:l ≠ D) (hiD:it ≠ D) (hlen:pairs.length = items.size) :
    ∀ (m:Nat) (s:Shared) (i:Nat) (kvs:List (K × Value)),items.size - i = m -> i <= items.size -> s.heap.IsListIter it l i -> s.heap.IsList l items -> s.heap.DictOf knd D kvs -> kvs.length + m <= sizeLine ->
      (∀ (j:Nat) (u:Value),items[j]? = some u -> ∃ (T:Addr) (k:K) (key v:Value),u = .ref T /\ T ≠ it /\ T ≠ D /\ IsTup s.heap T #[key,v] /\ knd.is k key = true /\ pairs[j]? = some (k,v)) ->
      (∀ h' tk,h'.DictOf knd D (merged kvs (pairs.drop i)) -> (∀ b o,b ≠ it -> b ≠ D -> s.heap.get? b = some o -> h'.get? b = some o) -> R (.ok (.ret res)) { s with heap:=h',toks:=tk }) ->
      codeAny (model prog w) A (.builtin "dict.update.loop" ⟨[.ref D,.ref it,.int i 0,res],[]⟩) R s:=by
  intro m
  induction m with
  | zero=>
    intro s i kvs hm hi ii il dd hz ht q
    have hend:items[i]? = none:=by simp;omega
    refine codeAny_builtin xc ?_
    rw [Around.under_plainId qP _]
    show wpAny _ A.in1 (pyNext (.ref it) >>= _) _ _ s
    refine wpAny_bind (wpAny_pyNext_list_end hh ii il hend fun h' hx=>?_)
    show wpAny _ _ (Builtin.Dict.addKeywords D [] >>= _) _ _ _
    refine wpAny_bind (wpAny_pure (wpAny_pure ?_))
    have e0:merged kvs (pairs.drop i) = kvs:=by rw [List.drop_eq_nil_of_le (by omega)];rfl
    have:=q h' s.toks (by rw [e0];exact dd.extBut hx (Ne.symm hiD)) (fun b o hb _ e=>?_)
    · exact this
    · exact hx b o hb e
  | succ m ih=>
    intro s i kvs hm hi ii il dd hz ht q
    have hlt:i < items.size:=by omega
    obtain ⟨u,hu⟩:∃ u,items[i]? = some u:=⟨_,Array.getElem?_eq_getElem hlt⟩
    obtain ⟨T,k,key,v,rfl,nT,nD,tT,kk,ep⟩:=ht i u hu
    refine codeAny_builtin xc ?_
    rw [Around.under_plainId qP _]
    show wpAny _ A.in1 (pyNext (.ref it) >>= _) _ _ s
    refine wpAny_bind (wpAny_pyNext_list_item ii il hu fun h1 i1 s1=>?_)
    dsimp only
    refine wpAny_bind (wpAny_holding (wpAny_bind ?_))
    obtain ⟨oT,eT,cT,nn,dT⟩:=tT
    have k1:∀ b o,b ≠ it -> s.heap.get? b = some o -> h1.get? b = some o:=fun b o hb e=>(s1.2 b hb).trans e
    have hT1:({ s with heap:=h1 }:Shared).TypeIs (.ref T) "tuple" :=⟨_,k1 _ _ nT eT,cT⟩
    show wpAny _ _ (tryCatch (Builtin.Dict.pairItems (.ref T)) _) _ _ _
    refine wpAny_tryCatch ?_
    unfold Builtin.Dict.pairItems
    refine wpAny_bind (wpAny_typeOf hT1 ?_)
    rw [if_pos (show (Value.type "tuple" == Value.type "list" || Value.type "tuple" == Value.type "tuple") = true by decide)]
    refine wpAny_bind (wpAny_seqItems (k1 _ _ nT eT) dT (wpAny_pure ?_))
    show wpAny _ _ (holding [key,v] (dictSet D key v)) _ _ _
    refine wpAny_holding (wpAny_dictSet_pairs kk (dd.sameBut s1 (Ne.symm hiD)) (hsz:=by omega) fun h2 d2 s2=>?_)
    refine wpAny_pure ⟨plainId_quiet qP _,?_⟩
    have k2:∀ b o,b ≠ it -> b ≠ D -> s.heap.get? b = some o -> h2.get? b = some o:=fun b o hb hb' e=>(s2.2 b hb').trans (k1 b o hb e)
    have lst:(stored kvs k v).length <= kvs.length + 1:=stored_length_le kvs k v
    have:=ih { s with heap:=h2,toks:=s.toks + 1 } (i + 1) (stored kvs k v) (by omega) hlt (i1.at fun o e=>(s2.2 it hiD).trans e) (il.at fun o e=>k2 l o hil hlD e) d2 (by omega)
      (fun j u hj=>by
        obtain ⟨T',k',key',v',z1,z2,z3,z4,z5,z6⟩:=ht j u hj
        obtain ⟨o',e',r'⟩:=z4
        exact ⟨T',k',key',v',z1,z2,z3,⟨o',k2 _ _ z2 z3 e',r'⟩,z5,z6⟩)
      (fun h' tk d' kp=>q h' tk (by rw [<- ZX kvs pairs i (k,v) ep];exact d') fun b o hb hb' e=>kp b o hb hb' (k2 b o hb hb' e))
    exact this
end
def zaS:Obj:={ cls:=.type "dict",data:=.dict #[] }
theorem wB:(Value.type "list" != Value.type "dict") = true:=by decide
section
variable {prog:Program} {w:World} {K:Type} [DecidableEq K] {knd:KeyKind prog w K} {A:Around} {E:Value -> Shared -> Prop} {s:Shared}
theorem vE {l:Addr} {items:Array Value} {n:Nat} {pairs:List (K × Value)} {Q:Value -> Shared -> Prop} (hh:A.handled = none) (hl:s.heap.get? l = some { cls:=.type "list",data:=.seq items n }) (hlen:pairs.length = items.size) (hsz:items.size <= sizeLine)
    (ht:∀ (j:Nat) (u:Value),items[j]? = some u -> ∃ (T:Addr) (k:K) (key v:Value),u = .ref T /\ IsTup s.heap T #[key,v] /\ knd.is k key = true /\ pairs[j]? = some (k,v))
    (h:∀ h' tk,h'.DictOf knd s.heap.objs.size (merged [] pairs) -> (∀ b o,s.heap.get? b = some o -> h'.get? b = some o) -> Q (.ref s.heap.objs.size) { s with heap:=h',toks:=tk }) :
    wpAny (model prog w) A (call (.type "dict") [.ref l]) Q E s:=by
  have dk:(s.heap.push zaS).DictOf knd s.heap.objs.size []:=.new s.heap
  have hl':=Heap.get?_push_of_some zaS hl
  refine callType_codes (Q₁:=fun u s1=>u = .ref s.heap.objs.size /\ s1 = { s with heap:=s.heap.push zaS }) F.kt_called_dict (F.kt_typeCall_dict_1 _) F.entry_dict_init (kt_code_dict_new _ ⟨rfl,rfl⟩) fun u s1 e=>?_
  obtain ⟨eu,es⟩:=e
  subst eu es
  refine ⟨dk.typeIs,F.args_dict_init_2 _ _,?_⟩
  show wpAny _ _ (Builtin.Dict.selfAndRest _ _ >>= fun x=>Builtin.Dict.updateCommon _ _ x.1 x.2 _) _ _ _
  refine wpAny_bind (wpAny_bind (wpAny_notOrdered_dict dk.typeIs ?_))
  refine wpAny_pure (show wpAny _ _ (Builtin.Dict.updateFrom "dict.__init__" s.heap.objs.size (.ref l) [] .none) _ _ _ from ?_)
  refine wpAny_bind (wpAny_typeOf (T:= "list") ⟨_,hl',rfl⟩ ?_)
  rw [if_pos wB]
  refine wpAny_bind (v0 hh hl' fun h1 t1 k1=>?_)
  rw [if_pos (show (none:Option Value).isNone = true from rfl)]
  refine wpAny_bind (wpAny_rule (wpAny_bind (wpAny_pyIter_list ⟨_,k1 _ _ hl',rfl,n,rfl⟩ ?_)))
  have dD:=dk.keep k1
  have ltl:=Heap.lt_size hl
  obtain ⟨oD,_,_,eD,_⟩:=id dD
  have ltD:=Heap.lt_size eD
  have kk:∀ b o,s.heap.get? b = some o -> (h1.push { cls:=.type "list_iterator",data:=.fields #[.ref l,.int 0 0] }).get? b = some o:=fun b o e=>Heap.get?_push_of_some _ (k1 _ _ (Heap.get?_push_of_some _ e))
  have lt1:∀ b o,s.heap.get? b = some o -> b < h1.objs.size:=fun b o e=>Heap.lt_size (k1 _ _ (Heap.get?_push_of_some _ e))
  refine wpAny_pure ⟨plainId_quiet qP _,?_⟩
  refine Yz (knd:=knd) (s:=⟨h1.push { cls:=.type "list_iterator",data:=.fields #[.ref l,.int 0 0] },s.gens,s.drawn,t1,s.os⟩) (l:=l) (it:=h1.objs.size) (D:=s.heap.objs.size) (items:=items) (pairs:=pairs) (A:=A.in1) (res:=.none) hh (Nat.ne_of_lt (lt1 _ _ hl)) (Nat.ne_of_lt ltl) (Nat.ne_of_gt ltD) hlen items.size 0 [] rfl (Nat.zero_le _) ⟨_,Heap.get?_push_size _ rfl,rfl,rfl⟩ ⟨_,kk _ _ hl,rfl,n,rfl⟩ (dD.push _) (by simpa using hsz) (fun j u hj=>?_) (fun h' tk d' kp=>?_)
  · obtain ⟨T,k,key,v,rfl,⟨o,e,r⟩,z,y⟩:=ht j u hj
    exact ⟨T,k,key,v,rfl,Nat.ne_of_lt (lt1 _ _ e),Nat.ne_of_lt (Heap.lt_size e),⟨o,kk _ _ e,r⟩,z,y⟩
  · exact ⟨rfl,h h' tk (by simpa using d') fun b o e=>kp b o (Nat.ne_of_lt (lt1 _ _ e)) (Nat.ne_of_lt (Heap.lt_size e)) (kk _ _ e)⟩
end
def PrsL (H:Hp) (xs:List V) (kps:List (Key × V)):Prop:=xs.length = kps.length /\ ∀ (j:Nat) (x:V),xs[j]? = some x -> ∃ (T:Addr) (k:Key) (v:V),x = .ref T /\ H T = some (.tup [kV k,v]) /\ kps[j]? = some (k,v)
theorem PrsL.nil {H:Hp}:PrsL H [] []:=⟨rfl,fun j x e=>by simp at e⟩
theorem PrsL.same {H H':Hp} {xs:List V} {kps:List (Key × V)} (h:PrsL H xs kps) (s:Same H H'):PrsL H' xs kps:=⟨h.1,fun j x e=>let ⟨T,k,v,a,b,c⟩:=h.2 j x e;⟨T,k,v,a,s _ _ b,c⟩⟩
theorem Y0:∀ {kps:List (Key × V)} {ps:List (Key × Value)},kps.length = ps.length -> (∀ (j:Nat) p,ps[j]? = some p -> ∃ q,kps[j]? = some q /\ q.1 = p.1 /\ RelV q.2 p.2) -> KV kps ps
  | [],[],_,_=>.nil
  | [],_ :: _,h,_=>by simp at h
  | _ :: _,[],h,_=>by simp at h
  | x :: xs,u :: us,h,f=>by
    refine .cons ?_ (Y0 (by simpa using h) fun j v e=>?_)
    · obtain ⟨y,e1,r⟩:=f 0 u rfl
      cases e1
      exact r
    · obtain ⟨y,e1,r⟩:=f (j + 1) v (by simpa using e)
      exact ⟨y,by simpa using e1,r⟩
theorem vh {α β:Type}:∀ (P:Nat -> α -> β -> Prop) (l:List α),(∀ j u,l[j]? = some u -> ∃ b,P j u b) -> ∃ bs:List β,bs.length = l.length /\ ∀ j u,l[j]? = some u -> ∃ b,bs[j]? = some b /\ P j u b
  | _,[],_=>⟨[],rfl,fun j u e=>by simp at e⟩
  | P,x :: l,f=>by
    obtain ⟨b,hb⟩:=f 0 x rfl
    obtain ⟨bs,h1,h2⟩:=vh (fun j=>P (j + 1)) l fun j u e=>f (j + 1) u (by simpa using e)
    refine ⟨b :: bs,by simp [h1],fun j u e=>?_⟩
    cases j with
    | zero=>simp at e;subst e;exact ⟨b,rfl,hb⟩
    | succ j=>
      obtain ⟨c,h3,h4⟩:=h2 j u (by simpa using e)
      exact ⟨c,by simpa using h3,h4⟩
theorem Vals.at:∀ {xs:List V} {us:List Value} {i:Nat} {u:Value},Vals xs us -> us[i]? = some u -> ∃ x,xs[i]? = some x /\ RelV x u:=fun {xs us i u} r e=>by
  have l:=Vals.length r
  have h:=(List.getElem?_eq_some_iff.mp e).1
  obtain ⟨v,e1,r1⟩:=r.get (i:=i) (x:=xs[i]'(by omega)) (List.getElem?_eq_getElem _)
  rw [e] at e1
  cases e1
  exact ⟨_,List.getElem?_eq_getElem _,r1⟩
section
variable {X:Cx}
inductive xL (xs:List V) (H:Hp) (Q:VK):Prop
  | mk (a:Addr) (ys:List V) (kps:List (Key × V)) (_:xs = [.ref a]) (_:H a = some (.lst ys)) (_:PrsL H ys kps) (_:∀ p,H p = none -> Q (.ref p) (upd H p (.dK (qH [] kps)))):xL xs H Q
theorem QQ (hh:X.A.handled = none):qD X (.type "dict") (xL):=by
  intro pins s σ H xs us Q I r h
  obtain ⟨a,ys,kps,rfl,hx,pr,q⟩:=h
  obtain ⟨u,rfl,ru⟩:=Vals.one r
  cases (show u = Value.ref a from ru)
  obtain ⟨zz,its,n,rel,hl⟩:=(show ObjOk X.prog X.w H s.heap a (.lst ys) from I.hok a _ hx)
  have ln:=rel.length
  have kn:=pr.1
  have at_:∀ (j:Nat) (u:Value),its[j]? = some u -> ∃ (T:Addr) (k:Key) (key v:Value) (y:V),u = .ref T /\ IsTup s.heap T #[key,v] /\ (zE X.prog X.w).is k key = true /\ kps[j]? = some (k,y) /\ RelV y v:=fun j u hj=>by
    obtain ⟨x,ex,rx⟩:=Vals.at rel hj
    obtain ⟨T,k,v,rfl,eT,ek⟩:=pr.2 j x ex
    cases (show u = Value.ref T from rx)
    obtain ⟨_,ts,rt,it,_⟩:=(show ObjOk X.prog X.w H s.heap T (.tup [kV k,v]) from I.hok T _ eT)
    obtain ⟨u1,u2,rfl,r1,r2⟩:=Vals.two rt
    exact ⟨T,k,u1,u2,v,rfl,it,jT r1,ek,r2⟩
  obtain ⟨ps,lp,hp⟩:=vh (fun j u (p:Key × Value)=>∃ (T:Addr) (key:Value) (y:V),u = .ref T /\ IsTup s.heap T #[key,p.2] /\ (zE X.prog X.w).is p.1 key = true /\ kps[j]? = some (p.1,y) /\ RelV y p.2) its fun j u e=>by
    obtain ⟨T,k,key,v,y,a,b,c,d,f⟩:=at_ j u e
    exact ⟨(k,v),T,key,y,a,b,c,d,f⟩
  have kv:KV kps ps:=Y0 (by omega) fun j p e=>by
    have hj:=(List.getElem?_eq_some_iff.mp e).1
    obtain ⟨b,e1,T,key,y,_,_,_,e2,r2⟩:=hp j _ (List.getElem?_eq_getElem (by omega))
    rw [e] at e1
    cases e1
    exact ⟨_,e2,rfl,r2⟩
  have mg:(qH [] kps).length <= sizeLine:=by
    have:=j8 kps []
    rw [List.length_nil] at this
    omega
  have hn:H s.heap.objs.size = none:=I.hok.fresh (Nat.le_refl _)
  refine vE (knd:=zE X.prog X.w) (pairs:=ps) (items:=its.toArray) hh hl (by simp [lp]) (by simp;omega) (fun j u e=>?_) fun h' tk d' kp=>?_
  · rw [List.getElem?_toArray] at e
    obtain ⟨p,e1,T,key,y,a,b,c,d,f⟩:=hp j u e
    exact ⟨T,p.1,key,p.2,a,b,c,e1⟩
  · have ns:(s.heap.objs.size == sysModules) = false:=beq_eq_false_iff_ne.mpr (Nat.ne_of_gt I.big)
    exact ⟨.ref s.heap.objs.size,_,I.laid (a:=s.heap.objs.size) (o:=.dK (qH [] kps)) (t':=tk) kp (Nat.le_refl _) (Wt mg ns (KV.merge kv .nil) d'),rfl,q _ hn⟩
end
section
variable {X:Cx}
end
section
variable {X:Cx} {elt tg iter:Expr} {ifs:List Expr} {scope:Scope} {pos:Pos} {wi:TI} {g:TG} {tf:TT} {te:TE} {x:Str}
variable {y:Str} {px py tp:Pos} {kk:Nat}
end
def Up (xs:Array Nat):Prop:=xs.toList.Pairwise (· < ·)
theorem Up.lt {xs:Array Nat} (h:Up xs) {i j:Nat} {a b:Nat} (hi:xs[i]? = some a) (hj:xs[j]? = some b) (hij:i < j):a < b:=by
  have h1:=Array.getElem?_eq_some_iff.mp hi
  have h2:=Array.getElem?_eq_some_iff.mp hj
  obtain ⟨l1,e1⟩:=h1
  obtain ⟨l2,e2⟩:=h2
  have:=List.pairwise_iff_getElem.mp h i j (by simpa using l1) (by simpa using l2) hij
  simpa [e1,e2] using this
theorem wx (xs:Array Nat) (j:Nat):∀ (fuel lo hi:Nat),hi - lo <= fuel -> lo <= hi -> hi <= xs.size -> Up xs -> (∀ i a,i < lo -> xs[i]? = some a -> a < j) -> (∀ i a,hi <= i -> xs[i]? = some a -> j <= a) ->
    SetTable.below.go xs j fuel lo hi <= xs.size /\ (∀ i a,i < SetTable.below.go xs j fuel lo hi -> xs[i]? = some a -> a < j) /\ ∀ i a,SetTable.below.go xs j fuel lo hi <= i -> xs[i]? = some a -> j <= a
  | 0,lo,hi,h1,h2,h3,u,a1,a2=>by
    have e:hi = lo:=by omega
    subst e
    exact ⟨h3,a1,a2⟩
  | fuel + 1,lo,hi,h1,h2,h3,u,a1,a2=>by
    unfold SetTable.below.go
    by_cases c:lo < hi
    · rw [if_pos c]
      dsimp only
      have hm:(lo + hi) / 2 < xs.size:=by omega
      have em:xs[(lo + hi) / 2]? = some (xs[(lo + hi) / 2]'hm):=Array.getElem?_eq_getElem hm
      have eg:xs.getD ((lo + hi) / 2) j = xs[(lo + hi) / 2]'hm:=by rw [Array.getD_eq_getD_getElem?,em];rfl
      rw [eg]
      by_cases d:xs[(lo + hi) / 2]'hm < j
      · rw [if_pos d]
        refine wx xs j fuel _ hi (by omega) (by omega) h3 u (fun i a hi' e=>?_) a2
        by_cases q:i = (lo + hi) / 2
        · subst q;rw [em] at e;cases e;exact d
        · have:=u.lt e em (by omega)
          omega
      · rw [if_neg d]
        refine wx xs j fuel lo _ (by omega) (by omega) (by omega) u a1 fun i a hi' e=>?_
        by_cases q:i = (lo + hi) / 2
        · subst q;rw [em] at e;cases e;omega
        · have:=u.lt em e (by omega)
          omega
    · rw [if_neg c]
      have e:hi = lo:=by omega
      subst e
      exact ⟨h3,a1,a2⟩
theorem Qj {xs:Array Nat} (u:Up xs) (j:Nat):SetTable.below xs j <= xs.size /\ (∀ i a,i < SetTable.below xs j -> xs[i]? = some a -> a < j) /\ ∀ i a,SetTable.below xs j <= i -> xs[i]? = some a -> j <= a:=by
  unfold SetTable.below
  exact wx xs j xs.size 0 xs.size (by omega) (Nat.zero_le _) (Nat.le_refl _) u (fun i a h=>absurd h (Nat.not_lt_zero _)) fun i a h e=>absurd (Array.getElem?_eq_some_iff.mp e).1 (by omega)
theorem Qk {xs:Array Nat} (u:Up xs) {i:Nat} {j:Nat} (hi:i <= xs.size) (h1:∀ k a,k < i -> xs[k]? = some a -> a < j) (h2:∀ k a,i <= k -> xs[k]? = some a -> j <= a):SetTable.below xs j = i:=by
  obtain ⟨b1,b2,b3⟩:=Qj u j
  by_cases c:SetTable.below xs j < i
  · have hl:SetTable.below xs j < xs.size:=by omega
    have e:=Array.getElem?_eq_getElem hl
    have:=h1 _ _ c e
    have:=b3 _ _ (Nat.le_refl _) e
    omega
  · by_cases d:i < SetTable.below xs j
    · have hl:i < xs.size:=by omega
      have e:=Array.getElem?_eq_getElem hl
      have:=b2 _ _ d e
      have:=h2 _ _ (Nat.le_refl _) e
      omega
    · omega
theorem Xv {xs:Array Nat} (u:Up xs) {j:Nat} (hn:xs[SetTable.below xs j]? ≠ some j):Up (SetTable.insertAt xs (SetTable.below xs j) j):=by
  obtain ⟨b1,b2,b3⟩:=Qj u j
  unfold Up SetTable.insertAt
  generalize SetTable.below xs j = p at *
  have el:((xs.extract 0 p).push j ++ xs.extract p xs.size).toList = xs.toList.take p ++ (j :: xs.toList.drop p):=by
    simp [Array.toList_extract,List.extract_eq_drop_take]
    exact List.take_of_length_le (by simp)
  rw [el,List.pairwise_append]
  have u':xs.toList.Pairwise (· < ·):=u
  refine ⟨u'.sublist (List.take_sublist _ _),List.pairwise_cons.mpr ⟨fun a ha=>?_,u'.sublist (List.drop_sublist _ _)⟩,fun a ha b hb=>?_⟩
  · obtain ⟨k,hk,e⟩:=List.mem_drop_iff_getElem.mp ha
    have e':xs[k + p]? = some a:=by rw [<- Array.getElem?_toList,List.getElem?_eq_some_iff];exact ⟨by omega,by rw [<- e];congr 1;omega⟩
    have:=b3 (k + p) a (by omega) e'
    by_cases q:k = 0
    · subst q
      rw [Nat.zero_add] at e'
      exact Nat.lt_of_le_of_ne this fun z=>hn (by rw [e',z])
    · have hp:p < xs.size:=by rw [Array.length_toList] at hk;omega
      have:=b3 p _ (Nat.le_refl _) (Array.getElem?_eq_getElem hp)
      have:=u.lt (Array.getElem?_eq_getElem hp) e' (by omega)
      omega
  · obtain ⟨k,hk,e⟩:=List.mem_take_iff_getElem.mp ha
    have e':xs[k]? = some a:=by rw [<- Array.getElem?_toList,List.getElem?_eq_some_iff];exact ⟨by omega,e⟩
    have ha':=b2 k a (by omega) e'
    rcases List.mem_cons.mp hb with z | z
    · rw [z];exact ha'
    · obtain ⟨k2,hk2,e2⟩:=List.mem_drop_iff_getElem.mp z
      have e2':xs[k2 + p]? = some b:=by rw [<- Array.getElem?_toList,List.getElem?_eq_some_iff];exact ⟨by omega,by rw [<- e2];congr 1;omega⟩
      have:=b3 (k2 + p) b (by omega) e2'
      omega
structure TabOk (b:Bool) (t:SetTable):Prop where
  up:Up t.place
  no:t.dummies = #[]
  led:t.led = b
theorem Z2 (j:Nat):SetTable.has #[] j = false:=by
  unfold SetTable.has
  rw [show (#[]:Array Nat)[SetTable.below #[] j]? = none from Array.getElem?_eq_none (by simp)]
  rfl
theorem XB {t:SetTable} (h:t.dummies = #[]) (j:Nat):(t.slot j = .empty /\ t.place[SetTable.below t.place j]? ≠ some j) \/ ∃ i,t.slot j = .live i:=by
  unfold SetTable.slot
  rw [h,Z2]
  dsimp only
  by_cases c:(t.place[SetTable.below t.place j]? == some j) = true
  · rw [if_pos c]
    exact .inr ⟨_,rfl⟩
  · rw [if_neg c,if_neg Bool.false_ne_true]
    exact .inl ⟨rfl,fun z=>c (by rw [z];simp)⟩
theorem wJ (t:SetTable) (p:SetTable.Probe):(t.advance p).dummy = p.dummy:=by
  unfold SetTable.advance
  split
  · rfl
  · rfl
theorem x8 {t:SetTable} (hd:t.dummies = #[]) {f:Nat -> Int} {h:Int}:∀ (fuel:Nat) (p:SetTable.Probe) (j:Nat) (d:Option Nat),SetTable.probe.go t f h fuel p = some (.empty j d) -> t.place[SetTable.below t.place j]? ≠ some j /\ d = p.dummy
  | 0,p,j,d,e=>by unfold SetTable.probe.go at e;cases e
  | fuel + 1,p,j,d,e=>by
    unfold SetTable.probe.go at e
    rcases XB hd p.j with ⟨c1,c2⟩ | ⟨i,c⟩
    · rw [c1] at e
      cases e
      exact ⟨c2,rfl⟩
    · rw [c] at e
      dsimp only at e
      split at e
      · cases e
      · have:=x8 hd fuel _ j d e
        rw [wJ] at this
        exact this
theorem Yw {t:SetTable} (hd:t.dummies = #[]) {h:Int} {s:Nat} {w:Bool} (e:t.freeSlot h = some (s,w)):t.place[SetTable.below t.place s]? ≠ some s:=by
  unfold SetTable.freeSlot SetTable.probe at e
  split at e
  · rename_i j d q
    obtain ⟨h1,h2⟩:=x8 hd _ _ _ _ q
    cases (show d = none from h2)
    cases e
    exact h1
  · cases e
theorem Vj (n:Nat):Up (Array.range n):=by
  unfold Up
  rw [Array.toList_range]
  exact List.pairwise_lt_range
theorem TabOk.stand {b:Bool} {t:SetTable} (h:TabOk b t) (n:Nat):TabOk b (t.standIn n):=⟨Vj n,rfl,h.led⟩
theorem TabOk.plain {b p:Bool} {t:SetTable} (h:TabOk b t):TabOk b { t with plain:=p }:=⟨h.up,h.no,h.led⟩
theorem TabOk.or {b:Bool} {t:SetTable} (h:TabOk b t) (n:Nat):TabOk b (t.orStandIn n):=by
  unfold SetTable.orStandIn
  split
  · exact h
  · exact h.stand n
theorem TabOk.layNew {b:Bool} {t:SetTable} (h:TabOk b t) (es:Array (Int × Value)) (k:Int) (x:Value):TabOk b (layNew t es k x).2.1:=by
  unfold PySem.layNew
  split
  · rename_i slot w e
    have hp:TabOk b (t.put slot).1:=⟨Xv h.up (Yw h.no e),by
      show (if SetTable.has t.dummies slot = true then _ else t.dummies) = #[]
      rw [h.no,Z2]
      rfl,h.led⟩
    exact hp.or _
  · exact h.stand _
theorem WL {α:Type} (m:Nat) (f:Nat -> Option α):(((List.range m).filterMap fun j=>(f j).map (j,·)).map (·.1)).Pairwise (· < ·):=by
  have hs:∀ l:List Nat,((l.filterMap fun j=>(f j).map (j,·)).map (·.1)).Sublist l:=fun l=>by
    induction l with
    | nil=>exact .slnil
    | cons x l ih=>
      rw [List.filterMap_cons]
      cases f x with
      | none=>exact ih.cons _
      | some y=>exact ih.cons₂ _
  exact List.Pairwise.sublist (hs _) List.pairwise_lt_range
theorem TabOk.relay {b:Bool} {t:SetTable} (h:TabOk b t) (es:Array (Int × Value)) (n:Nat):TabOk b (relayAll t es n).2.1:=by
  unfold relayAll
  split
  · rename_i t' order e
    dsimp only
    split
    · unfold SetTable.relaid SetTable.laid at e
      obtain ⟨owner,_,e2⟩:=Option.bind_eq_some_iff.mp e
      cases e2
      refine ⟨?_,rfl,h.led⟩
      exact WL _ fun j=>owner.getD j none
    · exact h.stand _
  · exact h.stand _
theorem TabOk.fresh (b:Bool):TabOk b (.fresh 0 0 b):=⟨List.Pairwise.nil,rfl,rfl⟩
theorem XV {α:Type} {l:List α} {x:α} (h:l.Nodup) (hx:x ∉ l):(l ++ [x]).Nodup:=by
  rw [List.nodup_append]
  exact ⟨h,by simp,fun a ha b hb e=>hx (by rw [List.mem_singleton] at hb;rw [<- hb,<- e];exact ha)⟩
theorem x9 {α β:Type} {R:α -> β -> Prop} {ys ys':List β} (p:ys'.Perm ys):∀ {xs:List α},Paired R xs ys -> ∃ xs',xs'.Perm xs /\ Paired R xs' ys':=by
  induction p with
  | nil=>intro xs h;exact ⟨xs,.refl _,h⟩
  | cons y _ ih=>
    intro xs h
    cases h with
    | cons r t=>
      obtain ⟨xs',p',h'⟩:=ih t
      exact ⟨_ :: xs',p'.cons _,.cons r h'⟩
  | swap y z l=>
    intro xs h
    cases h with
    | cons r t=>
      cases t with
      | cons r2 t2=>exact ⟨_,.swap _ _ _,.cons r2 (.cons r t2)⟩
  | trans _ _ ih1 ih2=>
    intro xs h
    obtain ⟨x1,p1,h1⟩:=ih2 h
    obtain ⟨x2,p2,h2⟩:=ih1 h1
    exact ⟨x2,p2.trans p1,h2⟩
theorem vT {α β:Type} {R:α -> β -> Prop} {x:α} {y:β} (r:R x y):∀ {xs:List α} {ys:List β},Paired R xs ys -> Paired R (xs ++ [x]) (ys ++ [y])
  | _,_,.nil=>.cons r .nil
  | _,_,.cons h t=>.cons h (vT r t)
theorem vR {α β:Type} {R:α -> β -> Prop}:∀ {xs:List α} {ys:List β},Paired R xs ys -> (∀ x ∈ xs,∃ y ∈ ys,R x y) /\ ∀ y ∈ ys,∃ x ∈ xs,R x y
  | _,_,.nil=>⟨fun x h=>(nomatch h),fun y h=>(nomatch h)⟩
  | _,_,.cons h t=>by
    obtain ⟨a,b⟩:=vR t
    refine ⟨fun x hx=>?_,fun y hy=>?_⟩
    · rcases List.mem_cons.mp hx with z | z
      · rw [z];exact ⟨_,List.mem_cons_self,h⟩
      · obtain ⟨y,hy,r⟩:=a x z
        exact ⟨y,List.mem_cons_of_mem _ hy,r⟩
    · rcases List.mem_cons.mp hy with z | z
      · rw [z];exact ⟨_,List.mem_cons_self,h⟩
      · obtain ⟨x,hx,r⟩:=b y z
        exact ⟨x,List.mem_cons_of_mem _ hx,r⟩
section
variable {prog:Program} {w:World} {K:Type} [DecidableEq K] (knd:KeyKind prog w K)
def ElX (es:List (Int × Value)) (ks:List K):Prop:=ElemsOf knd es /\ ∃ ks',ks'.Perm ks /\ Paired (fun k (e:Int × Value)=>knd.is k e.2 = true) ks' es
def ObX (b:Bool) (o:Obj) (ks:List K):Prop:=∃ es ep t,o.ExactSet /\ o.data = .set es ep t /\ ElX knd es.toList ks /\ ks.Nodup /\ es.size < scanBound /\ t.fits es.size = true /\ TabOk b t
def SetX (b:Bool) (h:Heap) (a:Addr) (ks:List K):Prop:=∃ o,h.get? a = some o /\ ObX knd b o ks
variable {knd}
theorem ElX.perm {es es':List (Int × Value)} {ks:List K} (h:ElX knd es ks) (p:es'.Perm es):ElX knd es' ks:=by
  obtain ⟨h1,ks',p',pr⟩:=h
  obtain ⟨ks2,p2,pr2⟩:=x9 p pr
  exact ⟨h1.perm p,ks2,p2.trans p',pr2⟩
theorem ElX.len {es:List (Int × Value)} {ks:List K} (h:ElX knd es ks):es.length = ks.length:=by
  obtain ⟨_,ks',p',pr⟩:=h
  rw [<- p'.length_eq]
  exact (Paired.length pr).symm
theorem ElX.mem {es:List (Int × Value)} {ks:List K} (h:ElX knd es ks) (k:K):k ∈ ks ↔ ∃ e ∈ es,knd.is k e.2 = true:=by
  obtain ⟨_,ks',p',pr⟩:=h
  obtain ⟨a,b⟩:=vR pr
  rw [<- p'.mem_iff]
  refine ⟨a k,fun ⟨e,he,r⟩=>?_⟩
  obtain ⟨k',hk,r'⟩:=b e he
  rwa [knd.inj _ _ _ r r']
theorem ElX.snoc {es:List (Int × Value)} {ks:List K} (h:ElX knd es ks) {k:K} {x:Value} (hk:knd.is k x = true) (hx:x.scannable = true):ElX knd (es ++ [(knd.hash k,x)]) (ks ++ [k]):=by
  obtain ⟨h1,ks',p',pr⟩:=h
  exact ⟨h1.push hk hx,ks' ++ [k],p'.append_right _,vT (R:=fun k (e:Int × Value)=>knd.is k e.2 = true) hk pr⟩
theorem SetX.at {b:Bool} {h h':Heap} {a:Addr} {ks:List K} (x:SetX knd b h a ks) (k:∀ o,h.get? a = some o -> h'.get? a = some o):SetX knd b h' a ks:=let ⟨o,e,r⟩:=x;⟨o,k o e,r⟩
variable {A:Around} {E:Value -> Shared -> Prop} {s:Shared}
theorem zbc {b:Bool} {h:Heap} {a:Addr} {o:Obj} {es:Array (Int × Value)} {ep:Nat} {t:SetTable} (ho:h.get? a = some o) (hex:o.ExactSet) (hd:o.data = .set es ep t) {es':Array (Int × Value)} {t':SetTable} {ks:List K} (el:ElX knd es'.toList ks) (nd:ks.Nodup)
    (hb:es'.size < scanBound) (hf:t'.fits es'.size = true) (tb:TabOk b t'):∃ o',(h.update a (Obj.putSet es' t')).get? a = some o' /\ o'.ExactSet /\ o'.data = .set es' (ep + 1) t' /\ ObX knd b o' ks:=by
  have g:=Heap.get?_update_self (Obj.putSet es' t') ho (by rw [putSet_of es' t' hd];rfl)
  rw [putSet_of es' t' hd] at g
  exact ⟨_,g,hex,rfl,es',ep + 1,t',hex,rfl,el,nd,hb,hf,tb⟩
theorem YK {b:Bool} {g:Bool -> Sem Unit} (hg:∀ (c:Bool) (s1:Shared) (Q':Unit -> Shared -> Prop),Q' () s1 -> wpAny (model prog w) A (g c) Q' E s1) {a:Addr} {o:Obj} {es:Array (Int × Value)} {ep:Nat} {t:SetTable} (ho:s.heap.get? a = some o) (hex:o.ExactSet)
    (hd:o.data = .set es ep t) {es1:Array (Int × Value)} {t2:SetTable} {ks:List K} (el:ElX knd es1.toList ks) (nd:ks.Nodup) (hb:es1.size < scanBound) (hf:t2.fits es1.size = true) (tb:TabOk b t2) {wasDummy:Bool} {R:Option Bool -> Shared -> Prop}
    (h:∀ h',Heap.SameBut a s.heap h' -> SetX knd b h' a ks -> R (some true) { s with heap:=h' }) :
    wpAny (model prog w) A (storeSet a es1 t2 >>= fun _=>if (!wasDummy && t2.tooFull) = true then g (relayAll t2 es1 (SetTable.grown es1.size)).2.2 >>= fun _=>storeSet a (relayAll t2 es1 (SetTable.grown es1.size)).1 (relayAll t2 es1 (SetTable.grown es1.size)).2.1 >>= fun _=>pure (some true) else pure (some true)) R E s:=by
  obtain ⟨o1,g1,x1,d1,ob1⟩:=zbc ho hex hd el nd hb hf tb
  have sb:=Heap.SameBut.update s.heap a (Obj.putSet es1 t2)
  refine wpAny_bind (wpAny_storeSet_of ho hd ?_ (fits_of_scanBound hb))
  split
  · have pm:=relayAll_perm t2 es1 (SetTable.grown es1.size)
    have ft:=relayAll_fits t2 es1 (SetTable.grown es1.size)
    have tr:=tb.relay es1 (SetTable.grown es1.size)
    have sz:(relayAll t2 es1 (SetTable.grown es1.size)).1.size = es1.size:=by have:=pm.length_eq;rwa [Array.length_toList,Array.length_toList] at this
    obtain ⟨o2,g2,x2,d2,ob2⟩:=zbc g1 x1 d1 (el.perm pm) nd (by rw [sz];exact hb) ft tr
    exact wpAny_bind (hg _ _ _ (wpAny_bind (wpAny_storeSet_of g1 d1 (wpAny_pure (h _ (sb.trans (Heap.SameBut.update _ a _)) ⟨o2,g2,ob2⟩)) (fits_of_scanBound (by rw [sz];exact hb)))))
  · exact wpAny_pure (h _ sb ⟨o1,g1,ob1⟩)
theorem zbQ {b:Bool} {a:Addr} {ks:List K} {k:K} {x:Value} {Q:Bool -> Shared -> Prop} (hkey:knd.is k x = true) (hsc:x.scannable = true) (hS:SetX knd b s.heap a ks) (hroom:ks.length + 1 < scanBound)
    (h:∀ h' c,Heap.SameBut a s.heap h' -> SetX knd b h' a (if k ∈ ks then ks else ks ++ [k]) -> Q c { s with heap:=h' }):wpAny (model prog w) A (setAddHashed a x (knd.hash k)) Q E s:=by
  obtain ⟨o,ho,es,ep,t,hex,hd,el,nd,hb,hf,tb⟩:=hS
  have ln:=el.len
  rw [Array.length_toList] at ln
  unfold setAddHashed setAddHashedIn;refine wpAny_holding (wpAny_bind (wpAny_setState_of ho hd hf ?_));dsimp only
  rw [byScan_of hsc hb el.1,if_pos rfl]
  unfold setAddByScan
  refine wpAny_bind (wpAny_bind (wpAny_rule (wpAny_bind (wpAny_setScan_of hkey ho hd hf el.1 ?_))))
  cases hr:List.findIdx? (fun e=>knd.is k e.2) es.toList with
  | some j=>
    obtain ⟨hj,hpj,_⟩:=List.findIdx?_eq_some_iff_getElem.mp hr
    have hk:k ∈ ks:=(el.mem k).mpr ⟨_,List.getElem_mem hj,hpj⟩
    have:=h s.heap false (Heap.SameBut.refl a s.heap) (by rw [if_pos hk];exact ⟨o,ho,es,ep,t,hex,hd,el,nd,hb,hf,tb⟩)
    exact wpAny_pure (wpAny_pure this)
  | none=>
    have hk:k ∉ ks:=fun z=>by
      obtain ⟨e,he,r⟩:=(el.mem k).mp z
      have:=List.findIdx?_eq_none_iff.mp hr e he
      rw [r] at this
      cases this
    rw [if_neg hk] at h
    have gw:∀ (c:Bool) (s1:Shared) (Q':Unit -> Shared -> Prop),Q' () s1 -> wpAny (model prog w) A (match c with | true=>rule "set.scan.the-table-gave-way" | false=>pure ()) Q' E s1:=fun c s1 Q' hq=>by
      cases c
      · exact wpAny_pure hq
      · exact wpAny_rule hq
    have pm:=layNew_perm t es (knd.hash k) x
    have ft:=layNew_fits t es (knd.hash k) x
    have tn:=tb.layNew es (knd.hash k) x
    generalize layNew t es (knd.hash k) x = L at pm ft tn
    obtain ⟨es1,t1,wd,gave⟩:=L
    dsimp only at pm ft tn ⊢
    rw [Array.toList_push] at pm
    have el1:ElX knd es1.toList (ks ++ [k]):=(el.snoc hkey hsc).perm pm
    have l1:=el1.len
    rw [Array.length_toList,List.length_append] at l1
    have hb1:es1.size < scanBound:=by rw [l1];exact hroom
    have nd1:(ks ++ [k]).Nodup:=XV nd hk
    refine wpAny_bind (gw _ _ _ ?_)
    split
    · rw [hashByValue_scannable 8 hsc]
      refine wpAny_bind (wpAny_pure (YK gw ho hex hd el1 nd1 hb1 ?_ ?_ fun h' sb sx=>wpAny_pure (h h' true sb sx)))
      · split
        · exact ft
        · exact SetTable.fits_plain_off ft
      · split
        · exact tn
        · exact tn.plain
    · exact wpAny_bind (wpAny_pure (YK gw ho hex hd el1 nd1 hb1 ft tn fun h' sb sx=>wpAny_pure (h h' true sb sx)))
end
def yZ (w:World):Bool:=!w.params.followText "set-order"
def xR (w:World):Obj:={ cls:=.type "set",dict:=none,data:=.set #[] 0 (.fresh 0 0 (yZ w)) }
section
variable {K:Type} [DecidableEq K]
def xH (ks:List K) (k:K):List K:=if k ∈ ks then ks else ks ++ [k]
def jq (ks js:List K):List K:=js.foldl xH ks
theorem yy (ks:List K) (k:K):(xH ks k).length <= ks.length + 1:=by
  unfold xH
  split
  · omega
  · rw [List.length_append];exact Nat.le_refl _
theorem Zw:∀ (js ks:List K),(jq ks js).length <= ks.length + js.length
  | [],ks=>Nat.le_refl _
  | j :: js,ks=>by
    have h1:=Zw js (xH ks j)
    have h2:=yy ks j
    show (jq (xH ks j) js).length <= _
    rw [List.length_cons]
    omega
theorem Zv:∀ {js ks:List K} {x:K},x ∈ jq ks js ↔ x ∈ ks \/ x ∈ js
  | [],ks,x=>by simp [jq]
  | j :: js,ks,x=>by
    show x ∈ jq (xH ks j) js ↔ _
    rw [Zv,List.mem_cons]
    unfold xH
    split
    · rename_i h
      constructor
      · rintro (z | z)
        · exact .inl z
        · exact .inr (.inr z)
      · rintro (z | z | z)
        · exact .inl z
        · rw [z];exact .inl h
        · exact .inr z
    · rw [List.mem_append,List.mem_singleton,or_assoc]
theorem Xw {ks js:List K} {i:Nat} {k:K} (h:js[i]? = some k):jq (xH ks k) (js.drop (i + 1)) = jq ks (js.drop i):=by
  obtain ⟨h1,h2⟩:=List.getElem?_eq_some_iff.mp h
  rw [List.drop_eq_getElem_cons h1,h2]
  rfl
variable {prog:Program} {w:World} {knd:KeyKind prog w K} {A:Around} {R:Result -> Shared -> Prop} {it l S:Addr} {items:Array Value} {keys:List K} {b:Bool}
theorem WW (hh:A.handled = none) (hil:l ≠ it) (hlS:l ≠ S) (hiS:it ≠ S) (hlen:keys.length = items.size) (hat:∀ (j:Nat) (u:Value),items[j]? = some u -> ∃ k,keys[j]? = some k /\ knd.is k u = true /\ u.scannable = true) :
    ∀ (m:Nat) (s:Shared) (i:Nat) (ks:List K),items.size - i = m -> i <= items.size -> s.heap.IsListIter it l i -> s.heap.IsList l items -> SetX knd b s.heap S ks -> ks.length + m + 1 < scanBound ->
      (∀ h' tk,SetX knd b h' S (jq ks (keys.drop i)) -> (∀ c o,c ≠ it -> c ≠ S -> s.heap.get? c = some o -> h'.get? c = some o) -> R (.ok (.ret .none)) { s with heap:=h',toks:=tk }) ->
      codeAny (model prog w) A (.builtin "set.update.loop" ⟨[.ref S,.ref it],[]⟩) R s:=by
  intro m
  induction m with
  | zero=>
    intro s i ks hm hi ii il sx hz q
    have hend:items[i]? = none:=by simp;omega
    refine codeAny_builtin PyProof.Rows.F.entry_set_update_loop ?_
    rw [Around.under_plainId PyProof.Rows.F.plain_set_update_loop _]
    refine wpAny_bind (wpAny_pyNext_list_end hh ii il hend fun h' hx=>wpAny_pure ?_)
    have e0:jq ks (keys.drop i) = ks:=by rw [List.drop_eq_nil_of_le (by omega)];rfl
    exact q h' s.toks (by rw [e0];exact sx.at fun o e=>hx S o (Ne.symm hiS) e) fun c o hc _ e=>hx c o hc e
  | succ m ih=>
    intro s i ks hm hi ii il sx hz q
    have hlt:i < items.size:=by omega
    obtain ⟨u,hu⟩:∃ u,items[i]? = some u:=⟨_,Array.getElem?_eq_getElem hlt⟩
    obtain ⟨k,ek,kk,sc⟩:=hat i u hu
    refine codeAny_builtin PyProof.Rows.F.entry_set_update_loop ?_
    rw [Around.under_plainId PyProof.Rows.F.plain_set_update_loop _]
    refine wpAny_bind (wpAny_pyNext_list_item ii il hu fun h1 i1 s1=>?_)
    have k1:∀ c o,c ≠ it -> s.heap.get? c = some o -> h1.get? c = some o:=fun c o hc e=>(s1.2 c hc).trans e
    refine wpAny_bind (wpAny_holding (show wpAny _ _ (setAdd S u) _ _ _ from wpAny_holding (wpAny_bind (knd.pyHash kk ?_))))
    refine zbQ (s:={ s with heap:=h1,toks:=s.toks + 1 }) kk sc (sx.at fun o e=>k1 S o (Ne.symm hiS) e) (by omega) fun h2 c sb sx2=>?_
    have k2:∀ c o,c ≠ it -> c ≠ S -> s.heap.get? c = some o -> h2.get? c = some o:=fun c o hc hc' e=>(sb.2 c hc').trans (k1 c o hc e)
    have lk:=yy ks k
    refine wpAny_pure ⟨plainId_quiet PyProof.Rows.F.plain_set_update_loop _,?_⟩
    refine ih { s with heap:=h2,toks:=s.toks + 1 } (i + 1) (xH ks k) (by omega) hlt (i1.at fun o e=>(sb.2 it hiS).trans e) (il.at fun o e=>k2 l o hil hlS e) sx2 (by omega) fun h' tk sx' kp=>?_
    exact q h' tk (by rw [<- Xw ek];exact sx') fun c o hc hc' e=>kp c o hc hc' (k2 c o hc hc' e)
end
section
variable {prog:Program} {w:World} {A:Around} {E:Value -> Shared -> Prop} {s:Shared}
theorem WM {T newId initId:String} {args:List Value} {Q Q1:Value -> Shared -> Prop} (ft:TypeCalled T newId initId) (hct:checkTypeCall T ⟨args,[]⟩ = pure ())
    (hnew:codeAny (model prog w) A.in1 (.call (.builtin newId) ⟨.type T :: args,[]⟩) (wants Q1 E) s)
    (hnext:∀ u s1,Q1 u s1 -> s1.TypeIs u T /\ codeAny (model prog w) A.in1 (.call (.builtin initId) ⟨u :: args,[]⟩) (wants (fun r s2=>r = .none /\ Q u s2) E) s1) :
    wpAny (model prog w) A (call (.type T) args) Q E s:=by
  obtain ⟨c,tl,m1⟩:=ft.mro
  have m2:=ft.made
  have m3:=ft.sub
  have m4:=ft.notType
  have m5:=ft.canCreate
  refine wpAny_call (codeAny_of_tree (show wpAny _ _ (callAny (.type T) _) _ _ _ from wpAny_pure ⟨Code.quiet_builtin _ (by decide +kernel),codeAny_builtin F.entry_type_call ?_⟩))
  rw [Around.under_plain (weight_type_call_type T args []) rfl]
  repeat' (first | assumption | wp_step)
  refine codeAny_mono hnew fun r s1 hr=>?_
  match r,hr with
  | .error e,hr=>exact hr
  | .ok (.ret u),hr=>
    obtain ⟨ty,ci⟩:=hnext _ _ hr
    have m6:=ft.init.lookup
    have m7:=ft.init.bind u
    repeat' (first | assumption | wp_step)
    refine codeAny_mono ci fun r2 s2 hr2=>?_
    match r2,hr2 with
    | .error e,hr2=>exact hr2
    | .ok (.ret v),⟨ev,hq⟩=>
      subst ev
      repeat' (first | assumption | wp_step)
theorem V1 (x:Value) {Q1:Value -> Shared -> Prop} (h:Q1 (.ref s.heap.objs.size) { s with heap:=s.heap.push (xR w) }) :
    codeAny (model prog w) A (.call (.builtin "set.__new__") ⟨[.type "set",x],[]⟩) (wants Q1 E) s:=by
  refine codeAny_call_builtin F.plain_set_new F.entry_set_new (wpAny_of_eq (F.newCall_set_1 x) ?_)
  unfold Builtin.«set.__new__» Builtin.Frozenset.newClass
  have m1:=sub_set_self
  obtain ⟨hp,g,d,tk,os⟩:=s
  dsimp only
  wp_walk
  refine wpAny_askSetting (wpAny_pure ?_)
  simp only [newObj]
  exact wpAny_bind (wpAny_alloc (wpAny_pure (wpAny_pure h)))
end
section
variable {prog:Program} {w:World} {K:Type} [DecidableEq K] {knd:KeyKind prog w K} {A:Around} {E:Value -> Shared -> Prop} {s:Shared}
theorem Vs (h:Heap):SetX knd (yZ w) (h.push (xR w)) h.objs.size []:=
  ⟨xR w,Heap.get?_push_size _ rfl,#[],0,_,⟨rfl,rfl,rfl⟩,rfl,⟨fun e he=>by simp at he,[],.refl _,.nil⟩,List.nodup_nil,by decide,rfl,TabOk.fresh _⟩
theorem X7 {l:Addr} {items:Array Value} {n:Nat} {keys:List K} {Q:Value -> Shared -> Prop} (hh:A.handled = none) (hl:s.heap.get? l = some { cls:=.type "list",data:=.seq items n }) (hlen:keys.length = items.size) (hb:items.size + 1 < scanBound)
    (hat:∀ (j:Nat) (u:Value),items[j]? = some u -> ∃ k,keys[j]? = some k /\ knd.is k u = true /\ u.scannable = true)
    (h:∀ h' tk,SetX knd (yZ w) h' s.heap.objs.size (jq [] keys) -> (∀ c o,s.heap.get? c = some o -> h'.get? c = some o) -> Q (.ref s.heap.objs.size) { s with heap:=h',toks:=tk }) :
    wpAny (model prog w) A (call (.type "set") [.ref l]) Q E s:=by
  refine WM (Q1:=fun u s1=>u = .ref s.heap.objs.size /\ s1 = { s with heap:=s.heap.push (xR w) }) F.called_set (F.typeCall_set_1 (.ref l)) (V1 (.ref l) ⟨rfl,rfl⟩) fun u s1 e=>?_
  obtain ⟨eu,es⟩:=e
  subst eu es
  have hS:(s.heap.push (xR w)).get? s.heap.objs.size = some (xR w):=Heap.get?_push_size _ rfl
  have hT:Shared.TypeIs { s with heap:=s.heap.push (xR w) } (.ref s.heap.objs.size) "set" :=⟨_,hS,rfl⟩
  have hl1:=Heap.get?_push_of_some (xR w) hl
  refine ⟨hT,codeAny_call_builtin F.called_set.init.plain F.entry_set_init (check_set_init_1 hT ?_)⟩
  have m1:=F.sub_list_set
  have m2:=F.sub_list_frozenset
  have m3:(Value.type "list" == Value.type "dict") = false:=by decide
  have hlS:l < s.heap.objs.size:=Heap.lt_size hl
  unfold xR at hS hT hl1
  unfold Builtin.«set.__init__» noKeywords Builtin.Frozenset.updateFrom xR
  generalize hPI:pyIter = PI
  wp_walk
  subst hPI
  refine wpAny_pyIter_list ⟨_,hl1,rfl,n,rfl⟩ (wpAny_bind (wpAny_runValue ?_))
  have hh3:A.in1.in1.in1.handled = none:=by simp [hh]
  have sz:(s.heap.push (xR w)).objs.size = s.heap.objs.size + 1:=Heap.size_push ..
  have lt1:∀ c o,s.heap.get? c = some o -> c < s.heap.objs.size:=fun c o e=>Heap.lt_size e
  refine WW (knd:=knd) (b:=yZ w) (A:=A.in1.in1) (S:=s.heap.objs.size) (it:=(s.heap.push (xR w)).objs.size) (l:=l) (items:=items) (keys:=keys) hh3 (by rw [sz];exact Nat.ne_of_lt (Nat.lt_succ_of_lt hlS)) (Nat.ne_of_lt hlS) (by rw [sz];exact Nat.ne_of_gt (Nat.lt_succ_self _)) hlen hat items.size
    ⟨(s.heap.push (xR w)).push { cls:=.type "list_iterator",data:=.fields #[.ref l,.int 0 0] },s.gens,s.drawn,s.toks,s.os⟩ 0 [] rfl (Nat.zero_le _) ⟨_,Heap.get?_push_size _ rfl,rfl,rfl⟩ ⟨_,Heap.get?_push_of_some _ hl1,rfl,n,rfl⟩ ((Vs s.heap).at fun o e=>Heap.get?_push_of_some _ e) (by rw [List.length_nil];omega) fun h' tk sx kp=>?_
  refine wpAny_pure (wpAny_pure ⟨rfl,h h' tk (by simpa using sx) fun c o e=>?_⟩)
  have:=lt1 c o e
  exact kp c o (by rw [sz];exact Nat.ne_of_lt (Nat.lt_succ_of_lt this)) (Nat.ne_of_lt this) (Heap.get?_push_of_some _ (Heap.get?_push_of_some _ e))
end
theorem qe:Slot "set_iterator" "__next__" "set_iterator.__next__" :=
  .of (owner:= "set_iterator") (n:= "__next__") (by rw [typeLookup_type,builtinLookup_eq_fast];kernel_rfl) (by decide +kernel) (by decide +kernel) (by decide +kernel)
    (by first | exact .inl (by decide +kernel) | exact .inr (by decide +kernel)) (by rw [isSubtype_type];kernel_rfl)
theorem j9:entryFor table "set_iterator.__next__" = some Builtin.«set_iterator.__next__»:=entryFor_of_tree (by kernel_rfl)
theorem xG (x:Value):argsOk "set_iterator.__next__" ⟨[x],[]⟩:=by unfold argsOk;kernel_rfl
theorem slot_set_iter:Slot "set" (Str.ofString "__iter__") "set.__iter__" :=PySem.F.slot_set_iter
theorem wk:entryFor table "set.__iter__" = some Builtin.«frozenset.__iter__»:=
  entryFor_alias (id':= "frozenset.__iter__") (by kernel_rfl) (by first | rfl | decide +kernel) (by decide +kernel) (by kernel_rfl)
theorem wI (x:Value):argsOk "set.__iter__" ⟨[x],[]⟩:=by unfold argsOk;kernel_rfl
theorem xn {α:Type}:∀ (l:List α) (i:Nat) (h:i < l.length),(l[i] :: l.eraseIdx i).Perm l
  | x :: l,0,_=>.refl _
  | x :: l,i + 1,h=>by
    have:=xn l i (by simpa using h)
    exact (List.Perm.swap _ _ _).trans (this.cons x)
section
variable {M:Model} {A:Around} {E:Value -> Shared -> Prop} {s:Shared}
theorem JS {src:Source} {n:Nat} {Q:Nat -> Shared -> Prop} (hn:0 < n) (h:∀ i,i < n -> Q i { s with drawn:=s.drawn.bump src }):wpAny M A (choose src n) Q E s:=fun Γ p hΓ=>
  ⟨Nat.ne_of_gt hn,h _ (Nat.mod_lt _ hn)⟩
theorem Zr {α:Type}:∀ (n:Nat) (xs:List α) (s:Shared) {Q:List α -> Shared -> Prop},xs.length <= n -> (∀ d ys,ys.Perm xs -> Q ys { s with drawn:=d }) -> wpAny M A (drawOrder n xs) Q E s
  | 0,xs,s,Q,hl,h=>by
    cases xs with
    | nil=>exact wpAny_pure (h s.drawn [] (.refl _))
    | cons x xs=>simp at hl
  | n + 1,[],s,Q,hl,h=>wpAny_pure (h s.drawn [] (.refl _))
  | n + 1,x :: xs,s,Q,hl,h=>by
    unfold drawOrder
    refine wpAny_bind (JS (by simp) fun i hi=>?_)
    rw [List.getElem?_eq_getElem hi]
    dsimp only
    refine wpAny_bind (Zr n ((x :: xs).eraseIdx i) _ ?_ fun d ys p=>wpAny_pure (h d _ ?_))
    · rw [List.length_eraseIdx]
      split <;> simp at * <;> omega
    · exact (p.cons _).trans (xn _ _ hi)
end
theorem Js {α:Type} (next:Nat -> Nat):∀ (fuel k:Nat) (left:List α) (out:Array α),left.length <= fuel -> (pickOrder.go next fuel k left out).toList.Perm (out.toList ++ left)
  | 0,k,left,out,h=>by
    cases left with
    | nil=>unfold pickOrder.go;simp
    | cons x xs=>simp at h
  | fuel + 1,k,left,out,h=>by
    unfold pickOrder.go
    cases left with
    | nil=>simp
    | cons x xs=>
      have hi:next k % (x :: xs).length < (x :: xs).length:=Nat.mod_lt _ (by simp)
      rw [List.getElem?_eq_getElem hi]
      dsimp only
      have h1:=Js next fuel (k + 1) ((x :: xs).eraseIdx (next k % (x :: xs).length)) (out.push ((x :: xs)[next k % (x :: xs).length]'hi)) (by rw [List.length_eraseIdx,if_pos hi];simp at h ⊢;omega)
      refine h1.trans ?_
      rw [Array.toList_push,List.append_assoc]
      exact List.Perm.append_left _ (xn _ _ hi)
theorem ya {α:Type} (next:Nat -> Nat) (xs:Array α):(pickOrder next xs).toList.Perm xs.toList:=by
  unfold pickOrder
  have:=Js next xs.size 0 xs.toList #[] (by simp)
  simpa using this
def siO (first:Value) (i:Nat) (src:Value) (n ep:Nat):Obj:={ cls:=.type "set_iterator",data:=.fields #[first,.int i 0,src,.int n 0,.int ep 0] }
section
variable {prog:Program} {w:World} {A:Around} {E:Value -> Shared -> Prop} {h:Heap} {g:Array GenState} {d:Drawn} {tk:Nat} {os:OsState} {it a:Addr} {o:Obj} {es:Array (Int × Value)} {ep:Nat} {t:SetTable} {i:Nat}
theorem ZH {sl:Nat} {x:Value} {nx:Nat} {Q:Fin -> Shared -> Prop} (hi:h.get? it = some (siO (.int sl 0) i (.ref a) es.size ep)) (ho:h.get? a = some o) (hd:o.data = .set es ep t) (hf:t.fits es.size = true)
    (hN:∀ (Q':Option (Value × Nat) -> Shared -> Prop),Q' (some (x,nx)) ⟨h,g,d,tk,os⟩ -> wpAny (model prog w) A (setNext a sl i ep) Q' E ⟨h,g,d,tk,os⟩)
    (hq:∀ h',h'.get? it = some (siO (.int nx 0) (i + 1) (.ref a) es.size ep) -> Heap.SameBut it h h' -> Q (.done (.ret x)) ⟨h',g,d,tk,os⟩) :
    wpAny (model prog w) A (Builtin.«set_iterator.__next__» ⟨[.ref it],[]⟩) Q E ⟨h,g,d,tk,os⟩:=by
  unfold siO at hi
  have hE:∀ {Q':Array (Int × Value) -> Shared -> Prop},Q' es ⟨h,g,d,tk,os⟩ -> wpAny (model prog w) A (setEntries a) Q' E ⟨h,g,d,tk,os⟩:=fun q=>wpAny_setEntries_of (s:=⟨h,g,d,tk,os⟩) ho hd hf q
  unfold Builtin.«set_iterator.__next__»
  generalize hSN:setNext = SN at hN
  generalize hSF:setField = SF
  repeat (any_goals (first | assumption | (with_reducible refine hE ?_) | wp_step))
  subst hSF
  have z1:((sl:Int)).toNat = sl:=Int.toNat_natCast _
  have z2:((i:Int)).toNat = i:=Int.toNat_natCast _
  have z3:((ep:Int)).toNat = ep:=Int.toNat_natCast _
  rw [z1,z2,z3]
  refine hN _ ?_
  refine wpAny_bind (wpAny_setField hi rfl (by show 0 < 5;decide) ?_)
  have g1:=Heap.get?_update_self (Obj.mapFields (·.setIfInBounds 0 (rawInt nx))) hi rfl
  refine wpAny_bind (wpAny_setField g1 rfl (by show 1 < 5;decide) (wpAny_pure (hq _ ?_ ?_)))
  · exact Heap.get?_update_self (Obj.mapFields (·.setIfInBounds 1 (rawInt ((i:Int) + 1)))) g1 rfl
  · exact (Heap.SameBut.update _ _ _).trans (Heap.SameBut.update _ _ _)
theorem xw {sl:Nat} {Q:Fin -> Shared -> Prop} (hh:A.handled = none) (hi:h.get? it = some (siO (.int sl 0) i (.ref a) es.size ep)) (ho:h.get? a = some o) (hd:o.data = .set es ep t) (hf:t.fits es.size = true)
    (hN:∀ (Q':Option (Value × Nat) -> Shared -> Prop),Q' none ⟨h,g,d,tk,os⟩ -> wpAny (model prog w) A (setNext a sl i ep) Q' E ⟨h,g,d,tk,os⟩)
    (hq:∀ h' e,Heap.ExtBut it h h' -> (∃ ob,h'.get? e = some ob /\ ob.cls = .type "StopIteration") -> E (.ref e) ⟨h',g,d,tk,os⟩) :
    wpAny (model prog w) A (Builtin.«set_iterator.__next__» ⟨[.ref it],[]⟩) Q E ⟨h,g,d,tk,os⟩:=by
  unfold siO at hi
  have hE:∀ {Q':Array (Int × Value) -> Shared -> Prop},Q' es ⟨h,g,d,tk,os⟩ -> wpAny (model prog w) A (setEntries a) Q' E ⟨h,g,d,tk,os⟩:=fun q=>wpAny_setEntries_of (s:=⟨h,g,d,tk,os⟩) ho hd hf q
  unfold Builtin.«set_iterator.__next__»
  generalize hSN:setNext = SN at hN
  generalize hSF:setField = SF
  repeat (any_goals (first | assumption | (with_reducible refine hE ?_) | wp_step))
  subst hSF
  have z1:((sl:Int)).toNat = sl:=Int.toNat_natCast _
  have z2:((i:Int)).toNat = i:=Int.toNat_natCast _
  have z3:((ep:Int)).toNat = ep:=Int.toNat_natCast _
  rw [z1,z2,z3]
  refine hN _ (wpAny_bind (wpAny_setField hi rfl (by show 2 < 5;decide) ?_))
  refine wpAny_bind (show wpAny _ _ (newExc (.type "StopIteration") []) _ _ _ from ?_)
  unfold newExc newTuple
  refine wpAny_bind (wpAny_newObj_type (wpAny_bind (m:=firstArgMember _ _) (wpAny_of_eq (a:=Value.none) (by first | rfl | (simp only [firstArgMember];rfl)) (wpAny_newObj_type ?_))))
  unfold raiseNew
  refine wpAny_bind (wpAny_handled ?_)
  rw [hh]
  refine wpAny_bind (wpAny_pure (wpAny_throw (hq _ _ (fun b p hb e=>?_) ⟨_,Heap.get?_push_size _ rfl,rfl⟩)))
  exact Heap.get?_push_of_some _ (Heap.get?_push_of_some _ ((Heap.get?_update_other _ _ (Ne.symm hb)).trans e))
end
section
variable {prog:Program} {w:World} {A:Around} {E:Value -> Shared -> Prop} {s:Shared} {a:Addr} {o:Obj} {es:Array (Int × Value)} {ep:Nat} {t:SetTable} {i sl:Nat}
theorem vG {Q:Bool -> Shared -> Prop} (h:Q (w.params.followText "set-order") s):wpAny (model prog w) A setsByText Q E s:=wpAny_bind (wpAny_askSetting (wpAny_pure h))
theorem yd {Q:Option (Value × Nat) -> Shared -> Prop} (hT:w.params.followText "set-order" = true) (ho:s.heap.get? a = some o) (hd:o.data = .set es ep t) (hf:t.fits es.size = true)
    (h:Q (((pickOrder (w.params.setOrder a ep) es)[i]?).map fun e=>(e.2,sl)) s):wpAny (model prog w) A (setNext a sl i ep) Q E s:=by
  unfold setNext
  refine wpAny_bind (wpAny_setState_of ho hd hf (wpAny_bind (vG ?_)))
  rw [hT,if_pos rfl,if_neg (by simp)]
  refine wpAny_bind ?_
  unfold setWalk
  refine wpAny_bind (wpAny_setState_of ho hd hf (wpAny_bind (vG ?_)))
  rw [hT,if_pos rfl]
  exact wpAny_bind (wpAny_askSetting (wpAny_pure (wpAny_pure h)))
theorem ZU {Q:Option (Value × Nat) -> Shared -> Prop} (hT:w.params.followText "set-order" = false) (hp:(!t.plain && decide (es.size > 1)) = false) (hl:t.led = true) (ho:s.heap.get? a = some o) (hd:o.data = .set es ep t) (hf:t.fits es.size = true)
    (h:Q (match es[SetTable.below t.place sl]?,t.place[SetTable.below t.place sl]? with | some (_,x),some j=>some (x,j + 1) | _,_=>none) s):wpAny (model prog w) A (setNext a sl i ep) Q E s:=by
  unfold setNext
  refine wpAny_bind (wpAny_setState_of ho hd hf (wpAny_bind (vG ?_)))
  rw [hT,if_neg Bool.false_ne_true]
  refine (show wpAny _ _ (if (!t.plain && decide (es.size > 1)) = true then _ else _) _ _ _ from ?_)
  rw [hp,if_neg Bool.false_ne_true]
  refine wpAny_bind (show wpAny _ _ (if (!t.led && !es.isEmpty) = true then unsupported "set:maker-not-led" else pure ()) _ _ _ from ?_)
  rw [hl]
  exact wpAny_pure (wpAny_pure h)
theorem QL {x:Value} {hs:Int} {p:Nat} {Q:Value -> Shared -> Prop} (ho:s.heap.get? a = some o) (hd:o.data = .set es ep t) (hf:t.fits es.size = true) (hx:es[p]? = some (hs,x)) (h:Q x s):wpAny (model prog w) A (setNextDrawn a p ep) Q E s:=by
  unfold setNextDrawn
  refine wpAny_bind (wpAny_setState_of ho hd hf ?_)
  dsimp only
  rw [if_neg (by simp),hx]
  exact wpAny_pure h
theorem Wf {Q:Bool -> Shared -> Prop} (ho:s.heap.get? a = some o) (hd:o.data = .set es ep t) (hf:t.fits es.size = true) (h:Q (!w.params.followText "set-order" && (!t.plain && decide (es.size > 1))) s):wpAny (model prog w) A (setDrawn a) Q E s:=by
  unfold setDrawn
  exact wpAny_bind (wpAny_setState_of ho hd hf (wpAny_bind (vG (wpAny_pure h))))
end
section
variable {prog:Program} {w:World} {A:Around} {E:Value -> Shared -> Prop} {h:Heap} {g:Array GenState} {d:Drawn} {tk:Nat} {os:OsState} {it a T:Addr} {o oT:Obj} {es:Array (Int × Value)} {ep:Nat} {t:SetTable} {i n c:Nat} {ps:Array Value}
theorem XC {x:Value} {hs:Int} {p:Nat} {Q:Fin -> Shared -> Prop} (hi:h.get? it = some (siO (.ref T) i (.ref a) es.size ep)) (ho:h.get? a = some o) (hd:o.data = .set es ep t) (hf:t.fits es.size = true) (hT:h.get? T = some oT) (hdT:oT.data = .seq ps c)
    (hp:ps[i]? = some (.int p 0)) (hx:es[p]? = some (hs,x)) (hq:∀ h',h'.get? it = some (siO (.ref T) (i + 1) (.ref a) es.size ep) -> Heap.SameBut it h h' -> Q (.done (.ret x)) ⟨h',g,d,tk,os⟩) :
    wpAny (model prog w) A (Builtin.«set_iterator.__next__» ⟨[.ref it],[]⟩) Q E ⟨h,g,d,tk,os⟩:=by
  unfold siO at hi
  have hE:∀ {Q':Array (Int × Value) -> Shared -> Prop},Q' es ⟨h,g,d,tk,os⟩ -> wpAny (model prog w) A (setEntries a) Q' E ⟨h,g,d,tk,os⟩:=fun q=>wpAny_setEntries_of (s:=⟨h,g,d,tk,os⟩) ho hd hf q
  have hS:∀ {Q':Option (Array Value) -> Shared -> Prop},Q' (some ps) ⟨h,g,d,tk,os⟩ -> wpAny (model prog w) A (seqItems? (.ref T)) Q' E ⟨h,g,d,tk,os⟩:=fun q=>wpAny_seqItems (s:=⟨h,g,d,tk,os⟩) hT hdT q
  unfold Builtin.«set_iterator.__next__»
  generalize hSN:setNextDrawn = SN
  generalize hSF:setField = SF
  repeat (any_goals (first | assumption | (with_reducible refine hE ?_) | (with_reducible refine hS ?_) | wp_step))
  subst hSF hSN
  have z2:((i:Int)).toNat = i:=Int.toNat_natCast _
  have z3:((ep:Int)).toNat = ep:=Int.toNat_natCast _
  rw [z2,z3,hp]
  refine wpAny_bind (show wpAny _ _ (setNextDrawn a ((p:Int)).toNat ep) _ _ _ from ?_)
  rw [Int.toNat_natCast]
  refine QL (s:=⟨h,g,d,tk,os⟩) ho hd hf hx (wpAny_bind (wpAny_setField hi rfl (by show 1 < 5;decide) (wpAny_pure (hq _ ?_ (Heap.SameBut.update _ _ _)))))
  exact Heap.get?_update_self (Obj.mapFields (·.setIfInBounds 1 (rawInt ((i:Int) + 1)))) hi rfl
theorem wD {Q:Fin -> Shared -> Prop} (hh:A.handled = none) (hi:h.get? it = some (siO (.ref T) i (.ref a) es.size ep)) (ho:h.get? a = some o) (hd:o.data = .set es ep t) (hf:t.fits es.size = true) (hT:h.get? T = some oT) (hdT:oT.data = .seq ps c)
    (hp:ps[i]? = none) (hq:∀ h' e,Heap.ExtBut it h h' -> (∃ ob,h'.get? e = some ob /\ ob.cls = .type "StopIteration") -> E (.ref e) ⟨h',g,d,tk,os⟩) :
    wpAny (model prog w) A (Builtin.«set_iterator.__next__» ⟨[.ref it],[]⟩) Q E ⟨h,g,d,tk,os⟩:=by
  unfold siO at hi
  have hE:∀ {Q':Array (Int × Value) -> Shared -> Prop},Q' es ⟨h,g,d,tk,os⟩ -> wpAny (model prog w) A (setEntries a) Q' E ⟨h,g,d,tk,os⟩:=fun q=>wpAny_setEntries_of (s:=⟨h,g,d,tk,os⟩) ho hd hf q
  have hS:∀ {Q':Option (Array Value) -> Shared -> Prop},Q' (some ps) ⟨h,g,d,tk,os⟩ -> wpAny (model prog w) A (seqItems? (.ref T)) Q' E ⟨h,g,d,tk,os⟩:=fun q=>wpAny_seqItems (s:=⟨h,g,d,tk,os⟩) hT hdT q
  unfold Builtin.«set_iterator.__next__»
  generalize hSN:setNextDrawn = SN
  generalize hSF:setField = SF
  repeat (any_goals (first | assumption | (with_reducible refine hE ?_) | (with_reducible refine hS ?_) | wp_step))
  subst hSF hSN
  have z2:((i:Int)).toNat = i:=Int.toNat_natCast _
  rw [z2,hp]
  refine wpAny_bind (wpAny_setField hi rfl (by show 0 < 5;decide) ?_)
  have g1:=Heap.get?_update_self (Obj.mapFields (·.setIfInBounds 0 (rawInt 0))) hi rfl
  refine wpAny_bind (wpAny_setField g1 rfl (by show 2 < 5;decide) ?_)
  refine wpAny_bind (show wpAny _ _ (newExc (.type "StopIteration") []) _ _ _ from ?_)
  unfold newExc newTuple
  refine wpAny_bind (wpAny_newObj_type (wpAny_bind (m:=firstArgMember _ _) (wpAny_of_eq (a:=Value.none) (by first | rfl | (simp only [firstArgMember];rfl)) (wpAny_newObj_type ?_))))
  unfold raiseNew
  refine wpAny_bind (wpAny_handled ?_)
  rw [hh]
  refine wpAny_bind (wpAny_pure (wpAny_throw (hq _ _ (fun b p hb e=>?_) ⟨_,Heap.get?_push_size _ rfl,rfl⟩)))
  exact Heap.get?_push_of_some _ (Heap.get?_push_of_some _ ((Heap.get?_update_other _ _ (Ne.symm hb)).trans ((Heap.get?_update_other _ _ (Ne.symm hb)).trans e)))
end
section
variable {prog:Program} {w:World} {A:Around} {E:Value -> Shared -> Prop} {s:Shared} {it:Addr} {oi:Obj}
theorem WZ {x:Value} {Q:Option Value -> Shared -> Prop} {N:Heap -> Prop} (hi:s.heap.get? it = some oi) (hc:oi.cls = .type "set_iterator")
    (he:∀ (Q':Fin -> Shared -> Prop) (E':Value -> Shared -> Prop),(∀ h',N h' -> Heap.SameBut it s.heap h' -> Q' (.done (.ret x)) { s with heap:=h' }) -> wpAny (model prog w) A.in1 (Builtin.«set_iterator.__next__» ⟨[.ref it],[]⟩) Q' E' s)
    (hq:∀ h',N h' -> Heap.SameBut it s.heap h' -> Q (some x) { s with heap:=h' }):wpAny (model prog w) A (pyNext (.ref it)) Q E s:=by
  unfold pyNext
  refine wpAny_bind (wpAny_attempt (wpAny_callSpecial?_slot (name:=Str.ofString "__next__") (T:= "set_iterator") ⟨_,hi,hc⟩ qe (wpAny_call_entry qe (T:= "set_iterator") ⟨_,hi,hc⟩ j9 (he _ _ fun h' n sb=>⟨x,rfl,wpAny_pure (hq h' n sb)⟩) (xG _))))
theorem WY {Q:Option Value -> Shared -> Prop} (hi:s.heap.get? it = some oi) (hc:oi.cls = .type "set_iterator")
    (he:∀ (Q':Fin -> Shared -> Prop) (E':Value -> Shared -> Prop),(∀ h' e,Heap.ExtBut it s.heap h' -> (∃ ob,h'.get? e = some ob /\ ob.cls = .type "StopIteration") -> E' (.ref e) { s with heap:=h' }) -> wpAny (model prog w) A.in1 (Builtin.«set_iterator.__next__» ⟨[.ref it],[]⟩) Q' E' s)
    (hq:∀ h',Heap.ExtBut it s.heap h' -> Q none { s with heap:=h' }):wpAny (model prog w) A (pyNext (.ref it)) Q E s:=by
  unfold pyNext
  refine wpAny_bind (wpAny_attempt (wpAny_callSpecial?_slot (name:=Str.ofString "__next__") (T:= "set_iterator") ⟨_,hi,hc⟩ qe (wpAny_call_entry qe (T:= "set_iterator") ⟨_,hi,hc⟩ j9 (he _ _ fun h' e xb ob=>?_) (xG _))))
  obtain ⟨ob,e1,e2⟩:=ob
  refine wpAny_bind (wpAny_isInstance (T:= "StopIteration") (b:=true) ⟨_,e1,e2⟩ isSubtype_stop ?_)
  exact wpAny_pure (hq h' xb)
end
theorem xv:Slot "set_iterator" "__iter__" "set_iterator.__iter__" :=
  .of (owner:= "set_iterator") (n:= "__iter__") (by rw [typeLookup_type,builtinLookup_eq_fast];kernel_rfl) (by decide +kernel) (by decide +kernel) (by decide +kernel)
    (by first | exact .inl (by decide +kernel) | exact .inr (by decide +kernel)) (by rw [isSubtype_type];kernel_rfl)
theorem wF:entryFor table "set_iterator.__iter__" = some Builtin.«dict_keyiterator.__iter__»:=
  entryFor_alias (id':= "dict_keyiterator.__iter__") (by kernel_rfl) (by first | rfl | decide +kernel) (by decide +kernel) (by kernel_rfl)
theorem Zl (x:Value):argsOk "set_iterator.__iter__" ⟨[x],[]⟩:=by unfold argsOk;kernel_rfl
section
variable {prog:Program} {w:World} {A:Around}
theorem vM {it:Addr} {fp:List Addr} {n:Nat} {P:Nat -> Value -> Prop} {St:Nat -> Heap -> Prop} (hf:it ∈ fp) (ho:∀ i h,St i h -> ∃ oi,h.get? it = some oi /\ oi.cls = .type "set_iterator")
    (hfr:∀ i h h',St i h -> (∀ b ∈ fp,∀ o,h.get? b = some o -> h'.get? b = some o) -> St i h')
    (hit:∀ i (s:Shared),i < n -> St i s.heap -> ∃ x,P i x /\ ∀ (Q':Fin -> Shared -> Prop) (E':Value -> Shared -> Prop),(∀ h',St (i + 1) h' -> Heap.SameBut it s.heap h' -> Q' (.done (.ret x)) { s with heap:=h' }) -> wpAny (model prog w) A.in1 (Builtin.«set_iterator.__next__» ⟨[.ref it],[]⟩) Q' E' s)
    (hen:∀ (s:Shared),St n s.heap -> ∀ (Q':Fin -> Shared -> Prop) (E':Value -> Shared -> Prop),(∀ h' e,Heap.ExtBut it s.heap h' -> (∃ ob,h'.get? e = some ob /\ ob.cls = .type "StopIteration") -> E' (.ref e) { s with heap:=h' }) -> wpAny (model prog w) A.in1 (Builtin.«set_iterator.__next__» ⟨[.ref it],[]⟩) Q' E' s) :
    Walks prog w A it fp [it] n P St where
  sub:=fun b hb=>by rw [List.mem_singleton.mp hb];exact hf
  frame:=hfr
  item:=fun i s Q E hi st hQ=>by
    obtain ⟨oi,e,c⟩:=ho i _ st
    obtain ⟨x,px,hx⟩:=hit i s hi st
    exact WZ e c hx fun h' st' sb=>hQ x h' s.toks px st' fun b o hb e=>(sb.2 b fun z=>hb (by rw [z];exact List.mem_singleton.mpr rfl)).trans e
  done:=fun s Q E st hQ=>by
    obtain ⟨oi,e,c⟩:=ho n _ st
    exact WY e c (hen s st) fun h' xb=>hQ h' s.toks fun b o hb e=>xb b o (fun z=>hb (by rw [z];exact List.mem_singleton.mpr rfl)) e
  self:=fun i s Q E st hQ=>by
    obtain ⟨oi,e,c⟩:=ho i _ st
    refine wpAny_pyIter_slot (T:= "set_iterator") ⟨_,e,c⟩ xv (wpAny_call_entry xv (T:= "set_iterator") ⟨_,e,c⟩ wF ?_ (Zl _))
    exact wpAny_pure ⟨_,rfl, "set_iterator",_,⟨_,e,c⟩,qe.lookup,hQ⟩
def xi (pl:Array Nat):Nat -> Nat
  | 0=>0
  | i + 1=>pl.getD i 0 + 1
theorem ww {pl:Array Nat} (u:Up pl) {i:Nat} (h:i <= pl.size):SetTable.below pl (xi pl i) = i:=by
  cases i with
  | zero=>exact Qk u (Nat.zero_le _) (fun k a hk=>absurd hk (Nat.not_lt_zero _)) fun k a _ _=>Nat.zero_le _
  | succ i=>
    have e:pl[i]? = some (pl[i]'(by omega)):=Array.getElem?_eq_getElem _
    have es:xi pl (i + 1) = pl[i]'(by omega) + 1:=by show pl.getD i 0 + 1 = _;rw [Array.getD_eq_getD_getElem?,e];rfl
    rw [es]
    refine Qk u h (fun k a hk ek=>?_) fun k a hk ek=>?_
    · by_cases q:k = i
      · subst q;rw [e] at ek;cases ek;omega
      · have:=u.lt ek e (by omega);omega
    · have:=u.lt e ek (by omega);omega
variable {it a T:Addr} {o oT:Obj} {es:Array (Int × Value)} {ep c:Nat} {t:SetTable}
theorem Xu (hh:A.handled = none) (hT:w.params.followText "set-order" = true) (hd:o.data = .set es ep t) (hf:t.fits es.size = true) :
    Walks prog w A it [it,a] [it] es.size (fun i v=>((pickOrder (w.params.setOrder a ep) es).toList.map (·.2))[i]? = some v) (fun i h=>h.get? it = some (siO (.int 0 0) i (.ref a) es.size ep) /\ h.get? a = some o):=by
  have ln:(pickOrder (w.params.setOrder a ep) es).size = es.size:=by have:=(ya (w.params.setOrder a ep) es).length_eq;rwa [Array.length_toList,Array.length_toList] at this
  refine vM (by simp) (fun i h st=>⟨_,st.1,rfl⟩) (fun i h h' st k=>⟨k it (by simp) _ st.1,k a (by simp) _ st.2⟩) (fun i s hi st=>?_) fun s st Q' E' hq=>?_
  · have e:(pickOrder (w.params.setOrder a ep) es)[i]? = some ((pickOrder (w.params.setOrder a ep) es)[i]'(by omega)):=Array.getElem?_eq_getElem _
    refine ⟨((pickOrder (w.params.setOrder a ep) es)[i]'(by omega)).2,by rw [List.getElem?_map,Array.getElem?_toList,e];rfl,fun Q' E' hq=>?_⟩
    obtain ⟨h,g,d,tk,os⟩:=s
    refine ZH (sl:=0) (nx:=0) st.1 st.2 hd hf (fun Q2 q2=>yd (s:=⟨h,g,d,tk,os⟩) hT st.2 hd hf (by rw [e];exact q2)) fun h' g1 sb=>hq h' ⟨g1,?_⟩ sb
    have ne:a ≠ it:=fun z=>by
      have h1:=st.1
      have h2:=st.2
      rw [z,h1] at h2
      cases h2
      cases hd
    exact (sb.2 a ne).trans st.2
  · have e:(pickOrder (w.params.setOrder a ep) es)[es.size]? = none:=Array.getElem?_eq_none (by omega)
    obtain ⟨h,g,d,tk,os⟩:=s
    exact xw (sl:=0) hh st.1 st.2 hd hf (fun Q2 q2=>yd (s:=⟨h,g,d,tk,os⟩) hT st.2 hd hf (by rw [e];exact q2)) fun h' e xb ob=>hq h' e xb ob
theorem Vi (hh:A.handled = none) (hT:w.params.followText "set-order" = false) (hp:(!t.plain && decide (es.size > 1)) = false) (hl:t.led = true) (u:Up t.place) (hd:o.data = .set es ep t) (hf:t.fits es.size = true) :
    Walks prog w A it [it,a] [it] es.size (fun i v=>(es.toList.map (·.2))[i]? = some v) (fun i h=>h.get? it = some (siO (.int (xi t.place i:Nat) 0) i (.ref a) es.size ep) /\ h.get? a = some o):=by
  have sz:t.place.size = es.size:=by
    simp only [SetTable.fits,Bool.and_eq_true,beq_iff_eq] at hf
    exact hf.1
  refine vM (by simp) (fun i h st=>⟨_,st.1,rfl⟩) (fun i h h' st k=>⟨k it (by simp) _ st.1,k a (by simp) _ st.2⟩) (fun i s hi st=>?_) fun s st Q' E' hq=>?_
  · have e:es[i]? = some (es[i]'hi):=Array.getElem?_eq_getElem _
    have ep':t.place[i]? = some (t.place[i]'(by omega)):=Array.getElem?_eq_getElem _
    have es1:xi t.place (i + 1) = t.place[i]'(by omega) + 1:=by show t.place.getD i 0 + 1 = _;rw [Array.getD_eq_getD_getElem?,ep'];rfl
    refine ⟨(es[i]'hi).2,by rw [List.getElem?_map,Array.getElem?_toList,e];rfl,fun Q' E' hq=>?_⟩
    obtain ⟨h,g,d,tk,os⟩:=s
    refine ZH (sl:=xi t.place i) (nx:=xi t.place (i + 1)) st.1 st.2 hd hf (fun Q2 q2=>ZU (s:=⟨h,g,d,tk,os⟩) hT hp hl st.2 hd hf ?_) fun h' g1 sb=>hq h' ⟨g1,?_⟩ sb
    · rw [ww u (by omega),e,ep']
      rw [es1] at q2
      exact q2
    · have ne:a ≠ it:=fun z=>by
        have h1:=st.1
        have h2:=st.2
        rw [z,h1] at h2
        cases h2
        cases hd
      exact (sb.2 a ne).trans st.2
  · obtain ⟨h,g,d,tk,os⟩:=s
    refine xw (sl:=xi t.place es.size) hh st.1 st.2 hd hf (fun Q2 q2=>ZU (s:=⟨h,g,d,tk,os⟩) hT hp hl st.2 hd hf ?_) fun h' e xb ob=>hq h' e xb ob
    rw [ww u (by omega),Array.getElem?_eq_none (xs:=es) (by omega)]
    exact q2
theorem Qm {ps:List Nat} (hh:A.handled = none) (hd:o.data = .set es ep t) (hf:t.fits es.size = true) (hT:oT.data = .seq (ps.map fun i:Nat=>Value.int i 0).toArray c) (pm:ps.Perm (List.range es.size)) :
    Walks prog w A it [it,a,T] [it] es.size (fun i v=>(ps.map fun j=>(es.getD j (0,.none)).2)[i]? = some v) (fun i h=>h.get? it = some (siO (.ref T) i (.ref a) es.size ep) /\ h.get? a = some o /\ h.get? T = some oT):=by
  have ln:ps.length = es.size:=by have:=pm.length_eq;rwa [List.length_range] at this
  have lt:∀ j ∈ ps,j < es.size:=fun j hj=>List.mem_range.mp (pm.mem_iff.mp hj)
  have ne:∀ (h:Heap) (i:Nat),h.get? it = some (siO (.ref T) i (.ref a) es.size ep) -> h.get? a = some o -> h.get? T = some oT -> a ≠ it /\ T ≠ it:=fun h i h1 h2 h3=>by
    refine ⟨fun z=>?_,fun z=>?_⟩
    · rw [z,h1] at h2;cases h2;cases hd
    · rw [z,h1] at h3;cases h3;cases hT
  refine vM (by simp) (fun i h st=>⟨_,st.1,rfl⟩) (fun i h h' st k=>⟨k it (by simp) _ st.1,k a (by simp) _ st.2.1,k T (by simp) _ st.2.2⟩) (fun i s hi st=>?_) fun s st Q' E' hq=>?_
  · have hi':i < ps.length:=by omega
    have hj:=lt _ (List.getElem_mem hi')
    have e:es[ps[i]]? = some (es[ps[i]]'hj):=Array.getElem?_eq_getElem _
    refine ⟨(es[ps[i]]'hj).2,?_,fun Q' E' hq=>?_⟩
    · rw [List.getElem?_map,List.getElem?_eq_getElem hi']
      show some (es.getD ps[i] (0,.none)).2 = some _
      rw [Array.getD_eq_getD_getElem?,e]
      rfl
    obtain ⟨h,g,d,tk,os⟩:=s
    obtain ⟨n1,n2⟩:=ne h i st.1 st.2.1 st.2.2
    refine XC (p:=ps[i]) st.1 st.2.1 hd hf st.2.2 hT (by simp [hi']) (hs:=(es[ps[i]]'hj).1) e fun h' g1 sb=>hq h' ⟨g1,(sb.2 a n1).trans st.2.1,(sb.2 T n2).trans st.2.2⟩ sb
  · obtain ⟨h,g,d,tk,os⟩:=s
    exact wD hh st.1 st.2.1 hd hf st.2.2 hT (by simp;omega) fun h' e xb ob=>hq h' e xb ob
end
section
variable {prog:Program} {w:World} {A:Around} {E:Value -> Shared -> Prop} {s:Shared} {a:Addr} {o:Obj} {es:Array (Int × Value)} {ep:Nat} {t:SetTable}
def zbx (prog:Program) (w:World) (s:Shared) (a:Addr) (es:Array (Int × Value)) (Q:Value -> Shared -> Prop):Prop:=
  ∀ (it:Addr) (fp:List Addr) (h':Heap) (d':Drawn) (ord:List Value) (St:Nat -> Heap -> Prop),s.heap.objs.size <= it -> (∀ A':Around,A'.handled = none -> Walks prog w A' it fp [it] es.size (fun i v=>ord[i]? = some v) St) -> St 0 h' ->
    (∀ c u,s.heap.get? c = some u -> h'.get? c = some u) -> (∀ c ∈ fp,c = a \/ s.heap.objs.size <= c) -> ord.Perm (es.toList.map (·.2)) -> Q (.ref it) { s with heap:=h',drawn:=d' }
theorem X0 {Q:Value -> Shared -> Prop} (ho:s.heap.get? a = some o) (hex:o.ExactSet) (hd:o.data = .set es ep t) (hf:t.fits es.size = true) (hb:es.size < scanBound) (tb:TabOk (yZ w) t) (h:zbx prog w s a es Q):wpAny (model prog w) A (pyIter (.ref a)) Q E s:=by
  have hT:s.TypeIs (.ref a) "set" :=⟨_,ho,hex.1⟩
  refine wpAny_pyIter_slot hT slot_set_iter (wpAny_call_entry slot_set_iter hT wk ?_ (wI _))
  have lt:=Heap.lt_size ho
  unfold Builtin.«frozenset.__iter__»
  refine wpAny_bind (show wpAny _ _ (pure a) _ _ _ from wpAny_pure ?_)
  refine wpAny_bind (show wpAny _ _ (setEntries a >>= fun x=>pure x.size) _ _ _ from wpAny_bind (wpAny_setEntries_of ho hd hf (wpAny_pure ?_)))
  refine wpAny_bind (Wf ho hd hf ?_)
  cases ft:w.params.followText "set-order" with
  | true=>
    refine wpAny_bind (wpAny_pure (wpAny_bind (wpAny_setEpoch_of ho hd hf (wpAny_bind (wpAny_newObj_type (wpAny_pure ⟨_,rfl, "set_iterator",_,⟨_,Heap.get?_push_size _ rfl,rfl⟩,qe.lookup,?_⟩))))))
    refine h s.heap.objs.size [s.heap.objs.size,a] _ s.drawn _ _ (Nat.le_refl _) (fun A' hh=>Xu hh ft hd hf) ⟨Heap.get?_push_size _ rfl,Heap.get?_push_of_some _ ho⟩ (fun c u e=>Heap.get?_push_of_some _ e) (fun c hc=>?_) ((ya _ es).map _)
    rcases List.mem_cons.mp hc with z | z
    · rw [z];exact .inr (Nat.le_refl _)
    · exact .inl (List.mem_singleton.mp z)
  | false=>
    have hl:t.led = true:=by rw [tb.led];unfold yZ;rw [ft];rfl
    cases hp:(!t.plain && decide (es.size > 1)) with
    | false=>
      refine wpAny_bind (wpAny_pure (wpAny_bind (wpAny_setEpoch_of ho hd hf (wpAny_bind (wpAny_newObj_type (wpAny_pure ⟨_,rfl, "set_iterator",_,⟨_,Heap.get?_push_size _ rfl,rfl⟩,qe.lookup,?_⟩))))))
      refine h s.heap.objs.size [s.heap.objs.size,a] _ s.drawn _ _ (Nat.le_refl _) (fun A' hh=>Vi hh ft hp hl tb.up hd hf) ⟨Heap.get?_push_size _ rfl,Heap.get?_push_of_some _ ho⟩ (fun c u e=>Heap.get?_push_of_some _ e) (fun c hc=>?_) (.refl _)
      rcases List.mem_cons.mp hc with z | z
      · rw [z];exact .inr (Nat.le_refl _)
      · exact .inl (List.mem_singleton.mp z)
    | true=>
      refine wpAny_bind (Zr _ _ s (by simp) fun d' ps pm=>?_)
      have ln:ps.length = es.size:=by have:=pm.length_eq;rwa [List.length_range] at this
      refine wpAny_bind (show wpAny _ _ (newObj (.type "tuple") (.seq (ps.map fun (i:Nat)=>rawInt i).toArray)) _ _ _ from wpAny_newObj_type ?_ (by show (ps.map fun (i:Nat)=>rawInt i).toArray.size <= sizeLine;rw [List.size_toArray,List.length_map,ln];exact fits_of_scanBound hb))
      have ho1:=Heap.get?_push_of_some { cls:=.type "tuple",data:=.seq (ps.map fun (i:Nat)=>rawInt i).toArray } ho
      refine wpAny_bind (wpAny_setEpoch_of ho1 hd hf (wpAny_bind (wpAny_newObj_type (wpAny_pure ⟨_,rfl, "set_iterator",_,⟨_,Heap.get?_push_size _ rfl,rfl⟩,qe.lookup,?_⟩))))
      refine h _ [_,a,s.heap.objs.size] _ d' _ _ ?_ (fun A' hh=>Qm (T:=s.heap.objs.size) (ps:=ps) hh hd hf (c:=0) (oT:={ cls:=.type "tuple",data:=.seq (ps.map fun (i:Nat)=>rawInt i).toArray }) rfl pm) ⟨Heap.get?_push_size _ rfl,Heap.get?_push_of_some _ ho1,Heap.get?_push_of_some _ (Heap.get?_push_size _ rfl)⟩ (fun c u e=>Heap.get?_push_of_some _ (Heap.get?_push_of_some _ e)) (fun c hc=>?_) ?_
      · rw [Heap.size_push];exact Nat.le_succ _
      · rcases List.mem_cons.mp hc with z | z
        · rw [z,Heap.size_push];exact .inr (Nat.le_succ _)
        · rcases List.mem_cons.mp z with z | z
          · exact .inl z
          · rw [List.mem_singleton.mp z];exact .inr (Nat.le_refl _)
      · have e:es.toList.map (·.2) = (List.range es.size).map fun j=>(es.getD j (0,.none)).2:=by
          refine List.ext_getElem (by simp) fun j h1 h2=>?_
          simp only [List.length_map,List.length_range,Array.length_toList] at h1
          simp [Array.getD_eq_getD_getElem?,h1]
        rw [e]
        exact pm.map _
end
section
variable {prog:Program} {w:World} {A:Around} {E:Value -> Shared -> Prop} {s:Shared} {a:Addr} {o:Obj} {es:Array (Int × Value)} {ep:Nat} {t:SetTable}
theorem Wg {Q:Bool -> Shared -> Prop} (hT:s.TypeIs (.ref a) "set") (h:Q false s):wpAny (model prog w) A (Builtin.List.listLengthHint (.ref a)) Q E s:=by
  unfold Builtin.List.listLengthHint
  refine wpAny_bind (wpAny_specialOf hT PySem.F.slot_set_len.lookup ?_)
  generalize e0:("set.__len__" : String) = id0
  wp_delta
  rw [show splitId id0 = some ("set", "__len__") from by subst e0;decide +kernel]
  subst e0
  refine wpAny_bind (wpAny_isInstance (T:= "set") (b:=true) hT (by rw [isSubtype_type];kernel_rfl) ?_)
  refine wpAny_ite_split (fun z=>absurd z (by decide)) fun _=>wpAny_ite_split (fun _=>wpAny_bind (wpAny_typeOf hT (wpAny_pure h))) fun z=>absurd (by decide +kernel) z
theorem YH {acc:Array Value} {ord:List Value} {n:Nat} (h:ItemsOf (fun i v=>ord[i]? = some v) acc n) (l:ord.length = n):acc.toList = ord:=by
  refine List.ext_getElem? fun i=>?_
  by_cases hi:i < acc.size
  · have e:=Array.getElem?_eq_getElem hi
    rw [Array.getElem?_toList,e]
    exact (h.2 i _ e).symm
  · rw [List.getElem?_eq_none (by rw [Array.length_toList];omega),List.getElem?_eq_none (by have:=h.1;omega)]
theorem Wn {R:Result -> Shared -> Prop} (hh:A.handled = none) (ho:s.heap.get? a = some o) (hex:o.ExactSet) (hd:o.data = .set es ep t) (hf:t.fits es.size = true) (hb:es.size < scanBound) (tb:TabOk (yZ w) t) (S:Addr) (hSa:S ≠ a) (res:Value) (c0:Nat)
    (hS:s.heap.get? S = some { cls:=.type "list",data:=.seq #[] c0 })
    (hR:∀ h' tk d' acc c',(∀ b u,b ≠ S -> s.heap.get? b = some u -> h'.get? b = some u) -> h'.get? S = some { cls:=.type "list",dict:=none,data:=.seq acc c',slots:=#[] } -> acc.toList.Perm (es.toList.map (·.2)) -> R (.ok (.ret res)) { s with heap:=h',toks:=tk,drawn:=d' }) :
    wpAny (model prog w) A.in1 (Builtin.List.listExtendWith (.ref S) (.ref a) res) (fun fin s'=>match fin with | .done f=>R (.ok f) s' | .again c'=>c'.quiet = true /\ codeAny (model prog w) A c' R s') (fun e s'=>R (.error e) s') s:=by
  have hn:=fits_of_scanBound hb
  have hT:s.TypeIs (.ref a) "set" :=⟨_,ho,hex.1⟩
  have ltS:=Heap.lt_size hS
  have nsr:Builtin.List.listSameRef (.ref S) (.ref a) = false:=by simp [Builtin.List.listSameRef,hSa]
  have nl:(Value.type "set" == Value.type "list") = false:=by decide
  have nt:(Value.type "set" == Value.type "tuple") = false:=by decide
  unfold Builtin.List.listExtendWith
  refine wpAny_bind (wpAny_typeOf hT ?_)
  simp only [nsr,nl,nt,Bool.or_false,Bool.false_eq_true,if_false]
  refine wpAny_bind (X0 ho hex hd hf hb tb fun it fp h1 d1 ord St hit W st k1 fpn pm=>?_)
  have lo:ord.length = es.size:=by have:=pm.length_eq;rwa [List.length_map,Array.length_toList] at this
  have hSf:S ∉ fp:=fun z=>by
    rcases fpn S z with q | q
    · exact hSa q
    · exact absurd ltS (Nat.not_lt.mpr q)
  have loop:∀ (h2:Heap) (c1 tk:Nat),St 0 h2 -> (∀ b u,b ≠ S -> s.heap.get? b = some u -> h2.get? b = some u) -> h2.get? S = some { cls:=.type "list",data:=.seq #[] c1 } ->
      codeAny (model prog w) A (.builtin "list.extend.loop" ⟨[.ref S,.ref it,res],[]⟩) R ⟨h2,s.gens,d1,tk,s.os⟩:=by
    intro h2 c1 tk st2 k2 hS2
    refine codeAny_extend_loopS (W A.in1 hh).toS hn S hSf res es.size 0 _ #[] c1 rfl (Nat.zero_le _) st2 hS2 (ItemsOf.nil _) fun s' acc c' hm hS' it'=>?_
    rw [Moved.eq_with hm]
    refine hR s'.heap s'.toks d1 acc c' (fun b u hb e=>hm.heap b u (fun z=>?_) (k2 b u hb e)) hS' (by rw [YH it' lo];exact pm)
    rcases List.mem_cons.mp z with q | q
    · exact hb q
    · rw [List.mem_singleton.mp q] at e
      exact absurd (Heap.lt_size e) (Nat.not_lt.mpr hit)
  have hS1:=k1 S _ hS
  have hT1:Shared.TypeIs ⟨h1,s.gens,d1,s.toks,s.os⟩ (.ref a) "set" :=⟨_,k1 a _ ho,hex.1⟩
  refine wpAny_bind (wpAny_holding (Wg hT1 ?_))
  refine wpAny_ite_split (fun _=>?_) (fun _=>wpAny_pure ⟨plainId_quiet PySem.F.plain_extend_loop _,loop h1 c0 _ st (fun b u _ e=>k1 b u e) hS1⟩)
  refine wpAny_bind (wpAny_rule (wpAny_bind (show wpAny _ _ (updateSeq S (·.push .none) >>= fun _=>updateSeq S (·.pop)) _ _ _ from wpAny_bind (wpAny_updateSeq hS1 rfl ?_))))
  have hS2:=Heap.get?_update_self (Obj.mapSeq (·.push Value.none)) hS1 rfl
  refine wpAny_updateSeq (hz:=by seq_fits) hS2 rfl ?_
  have hS3:=Heap.get?_update_self (Obj.mapSeq (·.pop)) hS2 rfl
  have oth:∀ b u,b ≠ S -> h1.get? b = some u -> ((h1.update S (Obj.mapSeq (·.push Value.none))).update S (Obj.mapSeq (·.pop))).get? b = some u:=fun b u hb e=>(Heap.get?_update_other _ _ (Ne.symm hb)).trans ((Heap.get?_update_other _ _ (Ne.symm hb)).trans e)
  refine wpAny_pure ⟨plainId_quiet PySem.F.plain_extend_loop _,loop _ _ _ ((W A.in1 hh).frame 0 _ _ st fun b hb u e=>oth b u (fun z=>hSf (z ▸ hb)) e) (fun b u hb e=>oth b u hb (k1 b u e)) hS3⟩
end
section
variable {prog:Program} {w:World} {A:Around} {E:Value -> Shared -> Prop} {s:Shared} {a:Addr} {o:Obj} {es:Array (Int × Value)} {ep:Nat} {t:SetTable}
theorem X6 {R:List Value -> Shared -> Prop} (hh:A.handled = none) (ho:s.heap.get? a = some o) (hex:o.ExactSet) (hd:o.data = .set es ep t) (hf:t.fits es.size = true) (hb:es.size < scanBound) (tb:TabOk (yZ w) t)
    (h:∀ h' tk d' vs,(∀ b u,s.heap.get? b = some u -> h'.get? b = some u) -> vs.Perm (es.toList.map (·.2)) -> R vs { s with heap:=h',toks:=tk,drawn:=d' }):wpAny (model prog w) A (collect (.ref a)) R E s:=by
  have lt:=Heap.lt_size ho
  unfold collect
  refine wpAny_bind (wpAny_runValue (codeAny_builtin PySem.F.entry_proto_collect ?_))
  rw [Around.under_plainId PySem.F.plain_proto_collect _]
  refine (show wpAny _ A.in1 (newList [] >>= fun l=>again (.builtin "list.__iadd__" ⟨[l,.ref a],[]⟩)) _ _ s from wpAny_bind (wpAny_newObj_type (wpAny_pure ⟨plainId_quiet PySem.F.plain_list_iadd _,codeAny_builtin PySem.F.entry_list_iadd ?_⟩)))
  rw [Around.under_plainId PySem.F.plain_list_iadd _]
  have hS:(s.heap.push { cls:=.type "list",data:=.seq ([]:List Value).toArray }).get? s.heap.objs.size = some { cls:=.type "list",data:=.seq #[] }:=Heap.get?_push_size _ rfl
  have key:=Wn (A:=A) (w:=w) (prog:=prog) (s:={ s with heap:=s.heap.push { cls:=.type "list",data:=.seq ([]:List Value).toArray } }) (a:=a)
    (R:=fun q s'=>∃ (h':Heap) (tk:Nat) (d':Drawn) (acc:Array Value) (c':Nat),q = .ok (.ret (.ref s.heap.objs.size)) /\ s' = { s with heap:=h',toks:=tk,drawn:=d' } /\ (∀ b u,s.heap.get? b = some u -> h'.get? b = some u) /\
      h'.get? s.heap.objs.size = some { cls:=.type "list",dict:=none,data:=.seq acc c',slots:=#[] } /\ acc.toList.Perm (es.toList.map (·.2)))
    hh (Heap.get?_push_of_some _ ho) hex hd hf hb tb s.heap.objs.size (Nat.ne_of_gt lt) (.ref s.heap.objs.size) 0 hS fun h' tk d' acc c' k e p=>⟨h',tk,d',acc,c',rfl,rfl,fun b u eb=>k b u (Nat.ne_of_lt (Heap.lt_size eb)) (Heap.get?_push_of_some _ eb),e,p⟩
  refine wpAny_mono key (fun fin s' x=>?_) fun e s' x=>?_
  · cases fin with
    | done f=>
      obtain ⟨h',tk,d',acc,c',e,rfl,k,eS,p⟩:=x
      cases e
      exact wpAny_bind (wpAny_load eS (wpAny_pure (h h' tk d' _ k p)))
    | again c1=>
      refine ⟨x.1,codeAny_mono x.2 fun q s2 y=>?_⟩
      obtain ⟨h',tk,d',acc,c',rfl,rfl,k,eS,p⟩:=y
      exact wpAny_bind (wpAny_load eS (wpAny_pure (h h' tk d' _ k p)))
  · obtain ⟨_,_,_,_,_,e',_⟩:=x
    cases e'
end
section
variable {X:Cx}
def xS (P:Program) (w:World) (p:Addr) (ks:List Key):HO:=.ext fun h=>SetX (zE P w) (yZ w) h p ks
inductive vt (P:Program) (w:World) (xs:List V) (H:Hp) (Q:VK):Prop
  | mk (a:Addr) (ks:List Key) (_:xs = [.ref a]) (_:H a = some (.lst (ks.map kV))) (_:ks.length <= 4000) (_:∀ p,H p = none -> Q (.ref p) (upd H p (xS P w p (jq [] ks)))):vt P w xs H Q
theorem qJ (hh:X.A.handled = none):qD X (.type "set") (vt X.prog X.w):=by
  intro pins s σ H xs us Q I r h
  obtain ⟨a,ks,rfl,hx,hl,q⟩:=h
  obtain ⟨u,rfl,ru⟩:=Vals.one r
  cases (show u = Value.ref a from ru)
  obtain ⟨zz,its,n,rel,hg⟩:=(show ObjOk X.prog X.w H s.heap a (.lst (ks.map kV)) from I.hok a _ hx)
  have ln:=rel.length
  rw [List.length_map] at ln
  have hn:H s.heap.objs.size = none:=I.hok.fresh (Nat.le_refl _)
  have sb:scanBound = 4096:=rfl
  refine X7 (knd:=zE X.prog X.w) (keys:=ks) hh hg (by simp [ln]) (by simp;omega) (fun j u e=>?_) fun h' tk sx k=>?_
  · rw [List.getElem?_toArray] at e
    obtain ⟨x,ex,rx⟩:=Vals.at rel e
    rw [List.getElem?_map] at ex
    obtain ⟨kk,ek,rfl⟩:=Option.map_eq_some_iff.mp ex
    refine ⟨kk,ek,jT rx,?_⟩
    cases kk with
    | inl i=>obtain ⟨t,rfl⟩:=rx;rfl
    | inr i=>obtain ⟨t,rfl⟩:=rx;rfl
  · refine ⟨.ref s.heap.objs.size,_,I.laid (a:=s.heap.objs.size) (o:=xS X.prog X.w s.heap.objs.size (jq [] ks)) (t':=tk) k (Nat.le_refl _) ⟨sx,?_,fun h1 h2 x e=>x.at e⟩,rfl,q _ hn⟩
    obtain ⟨o,e,_⟩:=sx
    exact ⟨o,e⟩
end
theorem Inv.drawn {X:Cx} {pins:List (Addr × Obj)} {σ:St} {H:Hp} {s:Shared} (I:Inv X pins σ H s) (d:Drawn):Inv X pins σ H { s with drawn:=d }:=
  I.call' (s':={ s with drawn:=d }) (ch:=[]) rfl Un.refl I.hok I.bare fun b hb=>(nomatch hb)
theorem vS {α β γ:Type} {R:α -> γ -> Prop} {f:β -> γ}:∀ {xs:List α} {ys:List β},Paired (fun x y=>R x (f y)) xs ys -> Paired R xs (ys.map f)
  | _,_,.nil=>.nil
  | _,_,.cons h t=>.cons h (vS t)
theorem VE:∀ {ks:List Key},(∀ k ∈ ks,∃ i,k = Sum.inr i) -> ∃ zs:List Str,ks = zs.map Sum.inr
  | [],_=>⟨[],rfl⟩
  | k :: ks,h=>by
    obtain ⟨i,e⟩:=h k (by simp)
    obtain ⟨zs,e2⟩:=VE (ks:=ks) fun k' hk=>h k' (List.mem_cons_of_mem _ hk)
    exact ⟨i :: zs,by rw [e,e2];rfl⟩
theorem x4 {P:Program} {w:World}:∀ {zs:List Str} {vs:List Value},Paired (fun k v=>(zE P w).is k v = true) (zs.map Sum.inr) vs -> StrsAre vs zs
  | [],vs,h=>by cases h;exact .nil
  | z :: zs,vs,h=>by
    cases h with
    | cons r t=>
      obtain ⟨tk,rfl⟩:=zbj r
      exact .cons z tk (x4 t)
theorem yU {α β:Type} {f:α -> β} {l:List α} (h:(l.map f).Nodup):l.Nodup:=by
  have h':l.Pairwise fun a b=>f a ≠ f b:=List.pairwise_map.mp h
  exact h'.imp fun n e=>n (by rw [e])
section
variable {X:Cx}
theorem XA {pins:List (Addr × Obj)} {σ:St} {H:Hp} {s:Shared} {a:Addr} {ks:List Key} {E:Value -> Shared -> Prop} {Q:Value -> Shared -> Prop} (hh:X.A.handled = none) (I:Inv X pins σ H s) (hx:H a = some (xS X.prog X.w a ks))
    (h:∀ (h':Heap) (tk:Nat) (d':Drawn) (vs:List Value) (ks':List Key),ks'.Perm ks -> ks.Nodup -> Paired (fun k v=>(zE X.prog X.w).is k v = true) ks' vs -> (∀ b u,s.heap.get? b = some u -> h'.get? b = some u) ->
      wpAny (model X.prog X.w) X.A.in1.in1 (Builtin.«list.sort» ⟨[.ref h'.objs.size],[]⟩) (fun fin s'=>∃ v,fin = .done (.ret v) /\ Q (.ref h'.objs.size) s') E { s with heap:=h'.push (seqObj "list" vs.toArray 0),toks:=tk,drawn:=d' }) (h64:ks.length < 64) :
    wpAny (model X.prog X.w) X.A (call (.builtin "sorted") [.ref a]) Q E s:=by
  obtain ⟨sx,_,_⟩:=(show ObjOk X.prog X.w H s.heap a (xS X.prog X.w a ks) from I.hok a _ hx)
  obtain ⟨o,ho,es,ep,t,hex,hd,el,nd,hb,hf,tb⟩:=sx
  have le:=el.len
  rw [Array.length_toList] at le
  obtain ⟨_,ks1,p1,pr⟩:=el
  have sz:sizeLine = 16777216:=sizeLine_eq
  refine Calls.call_function_entry kind_sorted plain_sorted entry_sorted (args_sorted1 _) ?_
  delta Builtin.«sorted»
  refine wpAny_bind (m:=checkCount "sorted" 1 1 _) (wpAny_pure (wpAny_bind (X6 hh ho hex hd hf hb tb fun h' tk d' vs keep pm=>?_)))
  obtain ⟨ks2,p2,pr2⟩:=x9 pm (vS (R:=fun k v=>(zE X.prog X.w).is k v = true) (f:=Prod.snd) pr)
  have lv:vs.length = es.size:=by have:=pm.length_eq;rwa [List.length_map,Array.length_toList] at this
  refine wpAny_bind (wpAny_newList ?_ (by omega))
  have at_:(h'.push (seqObj "list" vs.toArray 0)).get? h'.objs.size = some (seqObj "list" vs.toArray 0):=Heap.get?_push_size _ rfl
  refine wpAny_bind (wpAny_holding (wpAny_call_entry slot_list_sort ⟨_,at_,rfl⟩ entry_list_sort (wpAny_mono (h h' tk d' vs ks2 (p2.trans p1) nd pr2 keep) (fun fin s' x=>?_) fun _ _ e=>e) (args_list_sort _)))
  obtain ⟨v,ev,q⟩:=x
  exact ⟨v,ev,wpAny_pure ⟨_,rfl,q⟩⟩
theorem vc {pins:List (Addr × Obj)} {σ:St} {H:Hp} {s:Shared} {h':Heap} {vs:List Value} {out:Array Value} {zs:List V} {tk:Nat} {d':Drawn} (I:Inv X pins σ H s) (keep:∀ b u,s.heap.get? b = some u -> h'.get? b = some u) (rel:Vals zs out.toList) (hz:zs.length <= sizeLine) :
    Inv X pins σ (upd H h'.objs.size (.lst zs)) { s with heap:=sortedHeap (h'.push (seqObj "list" vs.toArray 0)) h'.objs.size vs out,toks:=tk,drawn:=d' } /\ H h'.objs.size = none:=by
  have at_:(h'.push (seqObj "list" vs.toArray 0)).get? h'.objs.size = some (seqObj "list" vs.toArray 0):=Heap.get?_push_size _ rfl
  have new:s.heap.get? h'.objs.size = none:=by
    cases z:s.heap.get? h'.objs.size with
    | none=>rfl
    | some o=>exact absurd (Heap.lt_size (keep _ _ z)) (Nat.lt_irrefl _)
  obtain ⟨ep2,fin⟩:=sortedHeap_at (out:=out) at_
  refine ⟨(I.drawn d').laidN (a:=h'.objs.size) (o:=.lst zs) (t':=tk) (fun b o e=>?_) new ⟨hz,out.toList,ep2,rel,by rw [fin]⟩,I.hok.none_of new⟩
  have lt:=Heap.lt_size (keep b o e)
  rw [sortedHeap_old (Nat.ne_of_lt lt) (by rw [Heap.size_push];exact Nat.lt_succ_of_lt lt)]
  exact Heap.get?_push_of_some _ (keep b o e)
inductive jJ (P:Program) (w:World) (xs:List V) (H:Hp) (Q:VK):Prop
  | mk (a:Addr) (ns:List Str) (_:xs = [.ref a]) (_:H a = some (xS P w a (jq [] (ns.map Sum.inr)))) (_:ns.length < 64) (_:∀ (p:Addr) (ms:List Str),H p = none -> sortedS ms = true -> ms.Nodup -> (∀ j,j ∈ ms ↔ j ∈ ns) -> Q (.ref p) (upd H p (.lst (ms.map V.str)))):jJ P w xs H Q
theorem zZ (hh:X.A.handled = none):qD X (.builtin "sorted") (jJ X.prog X.w):=by
  intro pins s σ H xs us Q I r h
  obtain ⟨a,ns,rfl,hx,h64,q⟩:=h
  obtain ⟨u,rfl,ru⟩:=Vals.one r
  cases (show u = Value.ref a from ru)
  have lk:=Zw (ns.map Sum.inr:List Key) []
  rw [List.length_nil,List.length_map] at lk
  have sz:sizeLine = 16777216:=sizeLine_eq
  refine XA hh I hx (fun h' tk d' vs ks' pm nd pr keep=>?_) (by omega)
  have mem:∀ k,k ∈ ks' ↔ k ∈ ns.map Sum.inr:=fun k=>by rw [pm.mem_iff,Zv];simp
  obtain ⟨zs,ez⟩:=VE fun k hk=>by
    obtain ⟨i,_,e⟩:=List.mem_map.mp ((mem k).mp hk)
    exact ⟨i,e.symm⟩
  subst ez
  have at_:(h'.push (seqObj "list" vs.toArray 0)).get? h'.objs.size = some (seqObj "list" vs.toArray 0):=Heap.get?_push_size _ rfl
  have lz:=pm.length_eq
  rw [List.length_map] at lz
  have lv:vs.length = zs.length:=by have:=Paired.length pr;rw [List.length_map] at this;omega
  have hS:=x4 pr
  refine list_sort_treeK strKind_oneLt (s:={ s with heap:=h'.push (seqObj "list" vs.toArray 0),toks:=tk,drawn:=d' }) at_ hS.keysOf (fun v1 v2 qu e=>keyKind_strs (by rw [<- e];exact hS)) (by omega) fun st' b1 b2=>⟨_,rfl,?_⟩
  obtain ⟨ms,a1,a2,a3⟩:=sorted_out_str hS b1 b2
  have ndz:zs.Nodup:=yU (pm.nodup_iff.mpr nd)
  obtain ⟨J,hn⟩:=vc (vs:=vs) (out:=(arrOf st').map (·.2)) (zs:=ms.map V.str) (tk:=tk) (d':=d') I keep (xM a1) (by rw [List.length_map,a2.length_eq];omega)
  refine ⟨.ref h'.objs.size,_,J,rfl,q _ ms hn a3 (a2.nodup_iff.mpr ndz) fun j=>?_⟩
  rw [a2.mem_iff]
  have:=mem (Sum.inr j)
  simpa using this
end
section
variable {X:Cx} {elt iter1 iter:Expr} {ifs1 ifs:List Expr} {scope:Scope} {pos:Pos} {wi wi1:TI} {tf tf1:TT} {te:TE} {x y z u:Str} {px py pz pu tp tp2:Pos} {kk kk2:Nat}
variable {oo e:Expr} {ees:List Expr} {to:TE} {tt:TA} {name:Str} {apos cpos:Pos} {T id:String} {r:V -> List V -> Hp -> VK -> Prop}
theorem xm {K:PySem.W.Frag} (hK:X.K = K) (pa:PlainAttrs T) (slot:Slot T name id) (hty:typeOf (.builtin id) = pure (.type "method_descriptor")) (hm:MtR X id r) (ho:PE X oo to) (ha:PA X (e :: ees) tt)
    (hbase:attributeBase oo name X.env (eval oo X.env) = eval oo X.env:=by rfl)
    (hfew:((backTo cpos (starEach (e :: ees) X.env)).all (fun x=>!x.1) && (backToKw cpos (keywordEach [] X.env)).all (fun x=>x.1.isSome) && decide ((e :: ees).length + ([]:List Keyword).length + (if ([]:List Keyword).isEmpty then 0 else 1) < 30)) = true:=by rfl)
    (hline:(apos.endLine == cpos.line) = true:=by rfl) (hs:starEach (e :: ees) X.env = (false,eval e X.env) :: starEach ees X.env:=by rfl) (hplain:(backTo cpos (starEach ees X.env)).any (·.1) = false:=by rfl) :
    PE X (.Call (.Attribute oo name apos) (e :: ees) [] cpos) (tBM K T r to tt):=by
  subst hK
  exact jv pa slot hty hm ho ha hbase hfew hline hs hplain
end
end L2
namespace L2
open PySem PySem.Spec PyProof.Rows PySem.W
def KRun {α:Type} (bt:Nat -> Nat -> Bool) (n:Nat):KasT α -> (α -> Prop) -> Prop
  | .ret a,Q=>Q a
  | .ask i j k,Q=>i < n /\ j < n /\ KRun bt n (k (bt i j)) Q
theorem KRun.mono {α:Type} {bt:Nat -> Nat -> Bool} {n:Nat} {Q Q':α -> Prop} (h:∀ a,Q a -> Q' a):∀ {t:KasT α},KRun bt n t Q -> KRun bt n t Q'
  | .ret a,x=>h a x
  | .ask i j k,⟨a,b,c⟩=>⟨a,b,KRun.mono h c⟩
theorem KRun.bind {α β:Type} {bt:Nat -> Nat -> Bool} {n:Nat} {f:α -> KasT β} {Q:β -> Prop}:∀ {t:KasT α},KRun bt n t (fun a=>KRun bt n (f a) Q) -> KRun bt n (t.bind f) Q
  | .ret a,x=>x
  | .ask i j k,⟨a,b,c⟩=>⟨a,b,KRun.bind c⟩
theorem KRun.wp {α:Type} {bt:Nat -> Nat -> Bool} {n:Nat} {ask:Nat -> Nat -> (Bool -> Shared -> Prop) -> Shared -> Prop} {J:Shared -> Prop} {Q:α -> Prop} {G:α -> Shared -> Prop}
    (ha:∀ i j,i < n -> j < n -> ∀ (C:Bool -> Shared -> Prop) s,J s -> (∀ s',J s' -> C (bt i j) s') -> ask i j C s) (hg:∀ a s,Q a -> J s -> G a s):∀ {t:KasT α} {s:Shared},KRun bt n t Q -> J s -> t.kasWp ask G s
  | .ret a,s,x,j=>hg a s x j
  | .ask i j k,s,⟨a,b,c⟩,js=>ha i j a b _ s js fun s' js'=>KRun.wp ha hg c js'
section
variable {n:Nat} {r:Nat -> Nat}
def vA (r:Nat -> Nat) (p:Array Nat) (k:Nat):Nat:=r (p.getD k 0)
structure Gd (n:Nat) (p:Array Nat):Prop where
  pm:p.toList.Perm (List.range n)
theorem Gd.sz {p:Array Nat} (g:Gd n p):p.size = n:=by have:=g.pm.length_eq;rwa [Array.length_toList,List.length_range] at this
theorem Gd.at {p:Array Nat} (g:Gd n p) {k:Nat} (h:k < n):p[k]? = some (p.getD k 0):=by
  rw [Array.getD_eq_getD_getElem?,Array.getElem?_eq_getElem (by rw [g.sz];exact h)]
  rfl
theorem Gd.lt {p:Array Nat} (g:Gd n p) (hn:0 < n) (k:Nat):p.getD k 0 < n:=by
  by_cases h:k < n
  · have:=g.at h
    rw [<- Array.getElem?_toList] at this
    exact List.mem_range.mp (g.pm.mem_iff.mp (List.mem_of_getElem? this))
  · rw [Array.getD_eq_getD_getElem?,Array.getElem?_eq_none (by rw [g.sz];omega)]
    exact hn
theorem Gd.inj {p:Array Nat} (g:Gd n p) (ri:∀ i j,i < n -> j < n -> r i = r j -> i = j) {i j:Nat} (hi:i < n) (hj:j < n) (e:vA r p i = vA r p j):i = j:=by
  have hn:0 < n:=by omega
  have h1:=ri _ _ (g.lt hn i) (g.lt hn j) e
  have nd:p.toList.Nodup:=g.pm.nodup_iff.mpr List.nodup_range
  have a1:=g.at hi
  have a2:=g.at hj
  rw [<- Array.getElem?_toList] at a1 a2
  obtain ⟨b1,c1⟩:=List.getElem?_eq_some_iff.mp a1
  obtain ⟨b2,c2⟩:=List.getElem?_eq_some_iff.mp a2
  exact (List.getElem_inj nd).mp (by rw [c1,c2,h1])
theorem Gd.rev {p:Array Nat} (g:Gd n p) (i j:Nat):Gd n (kas_rev p i j):=⟨(Array.perm_iff_toList_perm.mp (mirror_perm p i j _)).trans g.pm⟩
theorem Gd.bub {p:Array Nat} (g:Gd n p) (i j:Nat):Gd n (bubble p i j):=⟨(Array.perm_iff_toList_perm.mp (bubble_perm p i j)).trans g.pm⟩
def AscA (r:Nat -> Nat) (p:Array Nat) (m:Nat):Prop:=∀ i j,i < j -> j < m -> vA r p i < vA r p j
def DscA (r:Nat -> Nat) (p:Array Nat) (m:Nat):Prop:=∀ i j,i < j -> j < m -> vA r p j < vA r p i
theorem AscA.step {p:Array Nat} {m:Nat} (h:AscA r p m) (h1:1 <= m) (h2:vA r p (m - 1) < vA r p m):AscA r p (m + 1):=fun i j hij hj=>by
  by_cases e:j = m
  · subst e
    by_cases e2:i = j - 1
    · subst e2;exact h2
    · have:=h i (j - 1) (by omega) (by omega)
      omega
  · exact h i j hij (by omega)
theorem DscA.step {p:Array Nat} {m:Nat} (h:DscA r p m) (h1:1 <= m) (h2:vA r p m < vA r p (m - 1)):DscA r p (m + 1):=fun i j hij hj=>by
  by_cases e:j = m
  · subst e
    by_cases e2:i = j - 1
    · subst e2;exact h2
    · have:=h i (j - 1) (by omega) (by omega)
      omega
  · exact h i j hij (by omega)
variable {bt:Nat -> Nat -> Bool} (ri:∀ i j,i < n -> j < n -> r i = r j -> i = j) (hb:∀ i j,i < n -> j < n -> bt i j = decide (r i < r j))
include ri hb
theorem yK {p:Array Nat} (g:Gd n p):∀ (f m:Nat),1 <= m -> m + f <= n -> AscA r p m -> KRun bt n (kas_asc p f m) fun m'=>AscA r p m' /\ m <= m' /\ m' <= m + f /\ (m' < m + f -> vA r p m' < vA r p (m' - 1))
  | 0,m,h1,h2,a=>⟨a,Nat.le_refl _,Nat.le_refl _,fun z=>absurd z (Nat.lt_irrefl _)⟩
  | f + 1,m,h1,h2,a=>by
    have hn:0 < n:=by omega
    refine ⟨g.lt hn _,g.lt hn _,?_⟩
    rw [hb _ _ (g.lt hn _) (g.lt hn _)]
    by_cases c:vA r p m < vA r p (m - 1)
    · rw [show decide (r (p.getD m 0) < r (p.getD (m - 1) 0)) = true from decide_eq_true c]
      dsimp only
      rw [if_pos rfl]
      exact ⟨a,Nat.le_refl _,by omega,fun _=>c⟩
    · rw [show decide (r (p.getD m 0) < r (p.getD (m - 1) 0)) = false from decide_eq_false c]
      dsimp only
      rw [if_neg Bool.false_ne_true]
      have ne:vA r p m ≠ vA r p (m - 1):=fun z=>by have:=g.inj ri (by omega) (by omega) z;omega
      refine KRun.mono (fun m' ⟨b1,b2,b3,b4⟩=>⟨b1,by omega,by omega,fun z=>b4 (by omega)⟩) (yK g f (m + 1) (by omega) (by omega) (a.step h1 (by omega)))
theorem ZK {p:Array Nat} (g:Gd n p):∀ (f m:Nat),1 <= m -> m + f <= n -> DscA r p m -> KRun bt n (kas_desc f p m 0) fun x=>x.1 = p /\ x.2.2 = 0 /\ DscA r p x.2.1 /\ m <= x.2.1 /\ x.2.1 <= m + f
  | 0,m,h1,h2,a=>⟨rfl,rfl,a,Nat.le_refl _,Nat.le_refl _⟩
  | f + 1,m,h1,h2,a=>by
    have hn:0 < n:=by omega
    refine ⟨g.lt hn _,g.lt hn _,?_⟩
    rw [hb _ _ (g.lt hn _) (g.lt hn _)]
    by_cases c:vA r p m < vA r p (m - 1)
    · rw [show decide (r (p.getD m 0) < r (p.getD (m - 1) 0)) = true from decide_eq_true c]
      dsimp only
      rw [if_pos rfl,if_neg (Nat.lt_irrefl 0)]
      exact KRun.mono (fun x ⟨b0,b1,b2,b3,b4⟩=>⟨b0,b1,b2,by omega,by omega⟩) (ZK g f (m + 1) (by omega) (by omega) (a.step h1 c))
    · rw [show decide (r (p.getD m 0) < r (p.getD (m - 1) 0)) = false from decide_eq_false c]
      dsimp only
      rw [if_neg Bool.false_ne_true]
      have ne:vA r p m ≠ vA r p (m - 1):=fun z=>by have:=g.inj ri (by omega) (by omega) z;omega
      refine ⟨g.lt hn _,g.lt hn _,?_⟩
      rw [hb _ _ (g.lt hn _) (g.lt hn _),show decide (r (p.getD (m - 1) 0) < r (p.getD m 0)) = true from decide_eq_true (show vA r p (m - 1) < vA r p m by omega)]
      dsimp only
      rw [if_pos rfl]
      exact ⟨rfl,rfl,a,Nat.le_refl _,(by show m <= m + (f + 1);omega)⟩
theorem xT {p:Array Nat} (g:Gd n p) {k:Nat} (hk:k < n) (a:AscA r p k):∀ (f l h:Nat),h - l <= f -> l <= h -> h <= k -> (∀ i,i < l -> vA r p i < vA r p k) -> (∀ i,h <= i -> i < k -> vA r p k < vA r p i) ->
    KRun bt n (kas_place p k f l h) fun x=>x <= k /\ (∀ i,i < x -> vA r p i < vA r p k) /\ ∀ i,x <= i -> i < k -> vA r p k < vA r p i
  | 0,l,h,h1,h2,h3,a1,a2=>by
    have e:l = h:=by omega
    subst e
    exact ⟨h3,a1,a2⟩
  | f + 1,l,h,h1,h2,h3,a1,a2=>by
    have hn:0 < n:=by omega
    unfold kas_place
    by_cases c:l ≥ h
    · rw [if_pos c]
      have e:l = h:=by omega
      subst e
      exact ⟨h3,a1,a2⟩
    · rw [if_neg c]
      refine ⟨g.lt hn _,g.lt hn _,?_⟩
      rw [hb _ _ (g.lt hn _) (g.lt hn _)]
      by_cases d:vA r p k < vA r p ((l + h) / 2)
      · rw [show decide (r (p.getD k 0) < r (p.getD ((l + h) / 2) 0)) = true from decide_eq_true d]
        dsimp only
        rw [if_pos rfl]
        refine xT g hk a f l _ (by omega) (by omega) (by omega) a1 fun i hi hik=>?_
        by_cases q:i = (l + h) / 2
        · rw [q];exact d
        · have:=a ((l + h) / 2) i (by omega) hik
          omega
      · rw [show decide (r (p.getD k 0) < r (p.getD ((l + h) / 2) 0)) = false from decide_eq_false d]
        dsimp only
        rw [if_neg Bool.false_ne_true]
        have ne:vA r p k ≠ vA r p ((l + h) / 2):=fun z=>by have:=g.inj ri hk (by omega) z;omega
        refine xT g hk a f _ h (by omega) (by omega) h3 (fun i hi=>?_) a2
        by_cases q:i = (l + h) / 2
        · rw [q];omega
        · have:=a i ((l + h) / 2) (by omega) (by omega)
          omega
omit hb in
theorem W1 {p:Array Nat} (g:Gd n p) {m:Nat} (hm:m <= n) (d:DscA r p m):AscA r (kas_rev p 0 m) m:=fun i j hij hj=>by
  have at_:∀ k,k < m -> vA r (kas_rev p 0 m) k = vA r p (m - 1 - k):=fun k hk=>by
    unfold vA kas_rev
    have e:=getElem?_mirror_all (xs:=p) (i:=0) (j:=m) (by rw [g.sz];exact hm) k
    rw [if_pos ⟨Nat.zero_le _,hk⟩,Nat.zero_add] at e
    rw [Array.getD_eq_getD_getElem?,e,<- Array.getD_eq_getD_getElem?]
  rw [at_ i (by omega),at_ j hj]
  exact d _ _ (by omega) (by omega)
theorem VB {p:Array Nat} (g:Gd n p) {m:Nat} (h1:1 <= m) (hm:m <= n) (d:DscA r p m):KRun bt n (kas_tail3 m n p) fun x=>Gd n x.2 /\ AscA r x.2 x.1 /\ 1 <= x.1 /\ x.1 <= n:=by
  unfold kas_tail3
  refine KRun.bind (KRun.mono (fun m' ⟨a1,a2,a3,_⟩=>?_) (yK ri hb (g.rev 0 m) (n - m) m h1 (by omega) (W1 ri g hm d)))
  exact ⟨g.rev 0 m,a1,by show 1 <= m';omega,by show m' <= n;omega⟩
theorem XF {p:Array Nat} (g:Gd n p) (h2:2 <= n):KRun bt n (kas_count n p) fun x=>Gd n x.2 /\ AscA r x.2 x.1 /\ 1 <= x.1 /\ x.1 <= n:=by
  have hn:0 < n:=by omega
  unfold kas_count
  refine KRun.bind (KRun.mono (fun m ⟨a1,a2,a3,a4⟩=>?_) (yK ri hb g (n - 1) 1 (Nat.le_refl _) (by omega) fun i j hij hj=>by omega))
  by_cases c:(m == n) = true
  · rw [if_pos c]
    exact ⟨g,a1,a2,by show m <= n;omega⟩
  · rw [if_neg c]
    have mn:m < n:=by
      have:m ≠ n:=fun z=>c (by rw [z];simp)
      omega
    by_cases c1:m > 1
    · rw [if_pos c1]
      refine ⟨g.lt hn _,g.lt hn _,?_⟩
      rw [hb _ _ (g.lt hn _) (g.lt hn _),show decide (r (p.getD 0 0) < r (p.getD (m - 1) 0)) = true from decide_eq_true (show vA r p 0 < vA r p (m - 1) from a1 0 (m - 1) (by omega) (by omega))]
      dsimp only
      rw [if_pos rfl]
      exact ⟨g,a1,a2,by show m <= n;omega⟩
    · rw [if_neg c1]
      have e:m = 1:=by omega
      subst e
      have d2:DscA r p 2:=fun i j hij hj=>by
        have:i = 0:=by omega
        have:j = 1:=by omega
        subst i j
        exact a4 (by omega)
      unfold kas_descPart
      refine KRun.bind (KRun.mono (fun x ⟨b0,b1,b2,b3,b4⟩=>?_) (ZK ri hb g (n - (1 + 1)) (1 + 1) (by omega) (by omega) d2))
      rw [b1,if_neg (Nat.lt_irrefl 0),b0]
      exact VB ri hb g (by omega) (by omega) b2
theorem Jj:∀ (f:Nat) (p:Array Nat) (k:Nat),Gd n p -> k + f = n -> AscA r p k -> KRun bt n (kas_bin f p k) fun x=>Gd n x /\ AscA r x n
  | 0,p,k,g,e,a=>by
    have:k = n:=by omega
    subst this
    exact ⟨g,a⟩
  | f + 1,p,k,g,e,a=>by
    unfold kas_bin
    have hk:k < n:=by omega
    refine KRun.bind (KRun.mono (fun l ⟨a1,a2,a3⟩=>?_) (xT ri hb g hk a k 0 k (by omega) (Nat.zero_le _) (Nat.le_refl _) (fun i hi=>absurd hi (Nat.not_lt_zero _)) fun i h1 h2=>by omega))
    refine Jj f _ (k + 1) (g.bub k (k - l)) (by omega) fun i j hij hj=>?_
    have at_:∀ i,vA r (bubble p k (k - l)) i = if i = l then vA r p k else if l < i /\ i <= k then vA r p (i - 1) else vA r p i:=fun i=>by
      unfold vA
      have e:=getElem?_bubble (xs:=p) (src:=k) (by rw [g.sz];exact hk) (k - l) (by omega) i
      rw [show k - (k - l) = l by omega] at e
      rw [Array.getD_eq_getD_getElem?,e]
      by_cases c1:i = l
      · rw [if_pos c1,if_pos c1,<- Array.getD_eq_getD_getElem?]
      · rw [if_neg c1,if_neg c1]
        by_cases c2:l < i /\ i <= k
        · rw [if_pos c2,if_pos c2,<- Array.getD_eq_getD_getElem?]
        · rw [if_neg c2,if_neg c2,<- Array.getD_eq_getD_getElem?]
    rw [at_ i,at_ j]
    by_cases c1:i = l
    · rw [if_pos c1,if_neg (by omega),if_pos (by omega)]
      exact a3 (j - 1) (by omega) (by omega)
    · rw [if_neg c1]
      by_cases c2:l < i /\ i <= k
      · rw [if_pos c2,if_neg (by omega),if_pos (by omega)]
        exact a (i - 1) (j - 1) (by omega) (by omega)
      · rw [if_neg c2]
        by_cases c3:j = l
        · rw [if_pos c3]
          exact a2 i (by omega)
        · rw [if_neg c3]
          by_cases c4:l < j /\ j <= k
          · rw [if_pos c4]
            by_cases c5:i = j - 1
            · omega
            · exact a i (j - 1) (by omega) (by omega)
          · rw [if_neg c4]
            exact a i j hij (by omega)
theorem VC (h2:2 <= n):KRun bt n (kas_sort n) fun p=>p.toList.Perm (List.range n) /\ (p.toList.map r).Pairwise (· < ·):=by
  have fin:∀ p:Array Nat,Gd n p -> AscA r p n -> p.toList.Perm (List.range n) /\ (p.toList.map r).Pairwise (· < ·):=fun p g a=>by
    refine ⟨g.pm,List.pairwise_map.mpr (List.pairwise_iff_getElem.mpr fun i j hi hj hij=>?_)⟩
    rw [Array.length_toList,g.sz] at hi hj
    have:=a i j hij hj
    unfold vA at this
    rw [Array.getD_eq_getD_getElem?,Array.getD_eq_getD_getElem?,Array.getElem?_eq_getElem (by rw [g.sz];exact hi),Array.getElem?_eq_getElem (by rw [g.sz];exact hj)] at this
    simpa using this
  unfold kas_sort
  refine KRun.bind (KRun.mono (fun x ⟨g,a,b1,b2⟩=>?_) (XF ri hb (p:=List.toArray (List.range n)) ⟨.refl _⟩ h2))
  by_cases c:x.1 < n
  · rw [if_pos c,Nat.max_eq_left b1]
    exact KRun.mono (fun p ⟨g',a'⟩=>fin p g' a') (Jj ri hb (n - x.1) x.2 x.1 g (by omega) a)
  · rw [if_neg c]
    have e:x.1 = n:=by omega
    rw [e] at a
    exact fin x.2 g a
end
end L2
namespace L2
open PySem PySem.Spec PyProof.Rows PySem.W
section
variable {prog:Program} {w:World} {A:Around} {E:Value -> Shared -> Prop} {s:Shared}
theorem QC (vs:List Value):((List.range vs.length).map fun i=>vs.getD i Value.none) = vs:=by
  refine List.ext_getElem (by simp) fun i h1 h2=>?_
  simp [h2]
end
end L2
namespace L2
open PySem PySem.Spec PyProof.Rows PySem.W
def rkB (n:Nat) (lt:Nat -> Nat -> Bool) (i:Nat):Nat:=(List.range n).countP fun j=>lt j i
theorem yM {n:Nat} {lt:Nat -> Nat -> Bool} (irr:∀ i,i < n -> lt i i = false) (tr:∀ i j k,i < n -> j < n -> k < n -> lt i j = true -> lt j k = true -> lt i k = true) {i j:Nat} (hi:i < n) (hj:j < n) (h:lt i j = true):rkB n lt i < rkB n lt j:=by
  unfold rkB
  have sub:∀ l:List Nat,(∀ x ∈ l,x < n) -> l.countP (fun x=>lt x i) <= l.countP (fun x=>lt x j):=fun l=>by
    induction l with
    | nil=>intro _;exact Nat.le_refl _
    | cons x l ih=>
      intro hl
      have h1:=ih fun y hy=>hl y (List.mem_cons_of_mem _ hy)
      rw [List.countP_cons,List.countP_cons]
      by_cases c:lt x i = true
      · have:=tr x i j (hl x (by simp)) hi hj c h
        rw [if_pos c,if_pos this];omega
      · rw [if_neg c]
        split <;> omega
  have stric:∀ l:List Nat,(∀ x ∈ l,x < n) -> i ∈ l -> l.countP (fun x=>lt x i) < l.countP (fun x=>lt x j):=fun l=>by
    induction l with
    | nil=>intro _ z;cases z
    | cons x l ih=>
      intro hl hm
      have hl':∀ y ∈ l,y < n:=fun y hy=>hl y (List.mem_cons_of_mem _ hy)
      rw [List.countP_cons,List.countP_cons]
      rcases List.mem_cons.mp hm with z | z
      · subst z
        rw [if_neg (by rw [irr i hi];exact Bool.false_ne_true),if_pos h]
        have:=sub l hl'
        omega
      · have h1:=ih hl' z
        by_cases c:lt x i = true
        · have:=tr x i j (hl x (by simp)) hi hj c h
          rw [if_pos c,if_pos this];omega
        · rw [if_neg c]
          split <;> omega
  exact stric _ (fun x hx=>List.mem_range.mp hx) (List.mem_range.mpr hi)
theorem Jm {n:Nat} {lt:Nat -> Nat -> Bool} (irr:∀ i,i < n -> lt i i = false) (tr:∀ i j k,i < n -> j < n -> k < n -> lt i j = true -> lt j k = true -> lt i k = true) (tot:∀ i j,i < n -> j < n -> i ≠ j -> lt i j = true \/ lt j i = true) {i j:Nat} (hi:i < n) (hj:j < n):lt i j = decide (rkB n lt i < rkB n lt j):=by
  by_cases c:lt i j = true
  · rw [c,decide_eq_true (yM irr tr hi hj c)]
  · rw [(Bool.not_eq_true _).mp c,eq_comm]
    refine decide_eq_false fun z=>?_
    by_cases e:i = j
    · subst e;omega
    · rcases tot i j hi hj e with q | q
      · exact c q
      · have:=yM irr tr hj hi q;omega
theorem W0 {n:Nat} {lt:Nat -> Nat -> Bool} (irr:∀ i,i < n -> lt i i = false) (tr:∀ i j k,i < n -> j < n -> k < n -> lt i j = true -> lt j k = true -> lt i k = true) (tot:∀ i j,i < n -> j < n -> i ≠ j -> lt i j = true \/ lt j i = true) (i j:Nat) (hi:i < n) (hj:j < n) (e:rkB n lt i = rkB n lt j):i = j:=by
  by_cases c:i = j
  · exact c
  · rcases tot i j hi hj c with q | q
    · have:=yM irr tr hi hj q;omega
    · have:=yM irr tr hj hi q;omega
def ltS (a b:Str):Bool:=decide (a.cps.toList < b.cps.toList)
theorem Jz (a:Str):ltS a a = false:=decide_eq_false (List.lt_irrefl _)
theorem zaF {a b c:Str} (h1:ltS a b = true) (h2:ltS b c = true):ltS a c = true:=decide_eq_true (List.lt_trans (of_decide_eq_true h1) (of_decide_eq_true h2))
section
variable {X:Cx} {pins:List (Addr × Obj)} {σ:St} {s:Shared}
end
end L2
namespace L2
open PySem PySem.Spec PyProof.Rows PySem.W
section
variable {X:Cx}
end
end L2
namespace L2
open PySem PySem.Spec PyProof.Rows
def Z0 (k:Str):Value -> Bool
  | .str a _=>a == k
  | _=>false
theorem qV {k:Str}:∀ {ns:List Str} {its:List Value},Vals (ns.map V.str) its -> its.countP (Z0 k) = ns.count k
  | [],its,h=>by cases h;rfl
  | n :: ns,its,h=>by
    cases h with
    | cons r q=>
      obtain ⟨t,rfl⟩:=r
      rw [List.countP_cons,List.count_cons,qV q]
      rfl
theorem xB {k:Str} {t:Tok}:∀ {ns:List Str} {its:List Value},Vals (ns.map V.str) its -> ∀ y ∈ its,MeetsSeq.EqGives y (.str k t) (Z0 k y)
  | [],its,h=>by cases h;intro y hy;cases hy
  | n :: ns,its,h=>by
    cases h with
    | cons r q=>
      obtain ⟨u,rfl⟩:=r
      intro y hy
      rcases List.mem_cons.mp hy with z | z
      · subst z
        exact eqGives_str n k u t
      · exact xB q y z
section
variable {X:Cx}
inductive Jp (x:V) (vs:List V) (H:Hp) (Q:VK):Prop
  | mk (l:Addr) (ns:List Str) (k:Str) (_:x = .ref l) (_:vs = [.str k]) (_:H l = some (.lst (ns.map V.str))) (_:Q (.int (ns.count k)) H):Jp  x vs H Q
theorem qA:MtM X "list.count" Jp:=by
  intro pins s σ H x vs v us Q I rx rv h
  obtain ⟨l,ns,k,rfl,rfl,hH,q⟩:=h
  cases rx
  obtain ⟨u,rfl,ru⟩:=rv.one
  obtain ⟨t,rfl⟩:=ru
  obtain ⟨z,its,n,r,hl,e⟩:=I.lstM hH
  refine call_meets F.slot_list_count ⟨_,e,rfl⟩ F.entry_list_count (F.args_list_count_2 _ _) (MeetsSeq.list_count l its.toArray n (.str k t) (Z0 k) (fun y hy=>xB r y (by simpa using hy))) ⟨e,?_⟩
  refine ⟨.int (ns.count k),H,I.tok _,⟨s.toks,?_⟩,q⟩
  show Value.int ((its.toArray.toList.countP (Z0 k):Nat):Int) s.toks = _
  rw [show its.toArray.toList = its by simp,qV r]
variable {elt iter:Expr} {ifs:List Expr} {scope:Scope} {pos:Pos} {wi:TI} {tf:TT} {te:TE} {x y z:Str} {px py pz tp:Pos} {kk:Nat}
end
section
variable {X:Cx}
end
section
variable {X:Cx} {elt tg iter:Expr} {ifs:List Expr} {scope:Scope} {pos:Pos} {wi:TI} {g:TG} {tf:TT} {te:TE} {x:Str}
end
end L2
namespace L2
open PySem PySem.Spec PyProof.Rows PySem.W
section
variable {prog:Program} {w:World} {A:Around} {E:Value -> Shared -> Prop} {s:Shared}
theorem WK (vs:List Value):(vs.toArray.zip vs.toArray).reverse = vs.reverse.toArray.zip vs.reverse.toArray:=by
  refine Array.ext (by simp) fun i h1 h2=>?_
  simp
theorem Qz {a:Addr} {vs:List Value} {n:Nat} {P:PySem.Fin -> Shared -> Prop} (ho:s.heap.get? a = some (seqObj "list" vs.toArray n)) (h64:vs.length < 64) (r:Nat -> Nat) (ri:∀ i j,i < vs.length -> j < vs.length -> r i = r j -> i = j)
    (hk:2 <= vs.length -> ∀ h',(∀ b o,b ≠ a -> s.heap.get? b = some o -> h'.get? b = some o) -> ∃ κ,(∀ Q:SortKind -> Shared -> Prop,Q κ { s with heap:=h' } -> wpAny (model prog w) A (keyKind' vs.toArray) Q (fun _ _=>False) { s with heap:=h' }) /\
      ∀ i j,i < vs.length -> j < vs.length -> ∀ C:Bool -> Shared -> Prop,C (decide (r i < r j)) { s with heap:=h' } -> kas_ask prog w A κ vs.reverse i j C { s with heap:=h' })
    (h:∀ p:List Nat,p.Perm (List.range vs.length) -> (p.map r).Pairwise (· < ·) -> P (.done (.ret .none)) { s with heap:=sortedHeap s.heap a vs (p.map fun i=>vs.reverse.getD i Value.none).toArray.reverse }) :
    wpAny (model prog w) A (Builtin.«list.sort» ⟨[.ref a],[(Str.ofString "reverse",.bool true)]⟩) P E s:=by
  have ha:a < s.heap.objs.size:=Heap.lt_size ho
  have sz:sizeLine = 16777216:=sizeLine_eq
  obtain ⟨e1,ho1⟩:∃ e1,(s.heap.update a (Obj.mapSeq fun _=>(#[]:Array Value))).get? a = some (seqObj "list" #[] e1):=⟨_,get?_update_seq ho fun _=>#[]⟩
  have hv:vs.reverse.length = vs.length:=List.length_reverse
  rw [list_sort_rev]
  refine wpAny_bind (listItems_at ho rfl (wpAny_bind (listUpdate_at ho rfl ?_ (by rw [List.size_toArray];omega) (Nat.zero_le _))))
  refine wpAny_bind (seqEpoch_at ho1 rfl (wpAny_bind (wpAny_newTuple ?_ (by show vs.length <= _;omega))))
  refine wpAny_bind (wpAny_newList ?_ (Nat.zero_le _))
  refine wpAny_holding (show wpAny (model prog w) A _ P E { s with heap:=((s.heap.update a (Obj.mapSeq fun _=>(#[]:Array Value))).push (seqObj "tuple" vs.toArray 0)).push (seqObj "list" #[] 0) } from ?_)
  have ho6:(((s.heap.update a (Obj.mapSeq fun _=>(#[]:Array Value))).push (seqObj "tuple" vs.toArray 0)).push (seqObj "list" #[] 0)).get? a = some (seqObj "list" #[] e1):=Heap.get?_push_of_some _ (Heap.get?_push_of_some _ ho1)
  have oth:∀ b o,b ≠ a -> s.heap.get? b = some o -> (((s.heap.update a (Obj.mapSeq fun _=>(#[]:Array Value))).push (seqObj "tuple" vs.toArray 0)).push (seqObj "list" #[] 0)).get? b = some o:=fun b o hb e=>Heap.get?_push_of_some _ (Heap.get?_push_of_some _ ((Heap.get?_update_other _ _ (Ne.symm hb)).trans e))
  dsimp only
  simp only [if_true]
  refine wpAny_bind (wpAny_rule ?_)
  rw [WK]
  by_cases h2:vs.toArray.size < 2
  · rw [if_pos h2,if_pos h2]
    have l2:vs.length < 2:=by rw [List.size_toArray] at h2;exact h2
    refine wpAny_bind (wpAny_pure ?_)
    rw [StateT.run_pure]
    refine wpAny_bind (wpAny_pure ?_)
    dsimp only
    have eo:((vs.reverse.toArray.zip vs.reverse.toArray).map (·.2)) = ((List.range vs.length).map fun i=>vs.reverse.getD i Value.none).toArray:=by
      rw [<- hv,QC]
      refine Array.ext (by simp) fun i h1 h3=>?_
      simp
    refine wpAny_bind (seqEpoch_at ho6 rfl (wpAny_bind (listUpdate_at ho6 rfl ?_ (Nat.zero_le _) (by rw [show arrOf (SortSt.mk' general' (vs.reverse.toArray.zip vs.reverse.toArray) #[] 7 none) = vs.reverse.toArray.zip vs.reverse.toArray from rfl,eo,Array.size_reverse,List.size_toArray,List.length_map,List.length_range];omega))))
    simp only [bne_self_eq_false,Bool.false_eq_true,if_false]
    refine wpAny_pure ?_
    have:=h (List.range vs.length) (.refl _) (List.pairwise_map.mpr (List.pairwise_iff_getElem.mpr fun i j hi hj hij=>by simp at hj;omega))
    rw [<- eo] at this
    exact this
  · rw [if_neg h2,if_neg h2]
    have h2':2 <= vs.length:=by rw [List.size_toArray] at h2;omega
    obtain ⟨κ,kk,ask⟩:=hk h2' _ oth
    refine wpAny_bind (wpAny_mono (kk (fun κ' s'=>κ' = κ /\ s' = _) ⟨rfl,rfl⟩) (fun κ' s' e=>?_) fun _ _ x=>x.elim)
    obtain ⟨e1',e2'⟩:=e
    subst e1' e2'
    refine wpAny_bind (wpAny_mono (kat_run (ks:=vs.reverse) (vs:=vs.reverse) (κ:=κ') (Q:=fun st' s'=>∃ p:Array Nat,arrOf st' = p.map (kas_item (vs.reverse.toArray.zip vs.reverse.toArray)) /\ failedOf st' = none /\ p.toList.Perm (List.range vs.length) /\ (p.toList.map r).Pairwise (· < ·) /\ s' = { s with heap:=((s.heap.update a (Obj.mapSeq fun _=>(#[]:Array Value))).push (seqObj "tuple" vs.toArray 0)).push (seqObj "list" #[] 0) })
      (G:=fun p s'=>p.toList.Perm (List.range vs.length) /\ (p.toList.map r).Pairwise (· < ·) /\ s' = { s with heap:=((s.heap.update a (Obj.mapSeq fun _=>(#[]:Array Value))).push (seqObj "tuple" vs.toArray 0)).push (seqObj "list" #[] 0) })
      rfl (by rw [hv];exact h2') (by rw [hv];exact h64) (fun p st' s' _ a2 a3 ⟨a4,a5,a6⟩=>⟨p,a2,a3,a4,a5,a6⟩) (by
        rw [hv]
        exact KRun.wp (J:=fun s'=>s' = { s with heap:=((s.heap.update a (Obj.mapSeq fun _=>(#[]:Array Value))).push (seqObj "tuple" vs.toArray 0)).push (seqObj "list" #[] 0) }) (bt:=fun i j=>decide (r i < r j)) (n:=vs.length)
          (fun i j hi hj C s' e c=>by subst e;exact ask i j hi hj C (c _ rfl)) (fun p s' ⟨q1,q2⟩ e=>⟨q1,q2,e⟩) (VC ri (fun i j _ _=>rfl) h2') rfl)) (fun x s' hx=>?_) fun _ _ e=>e)
    obtain ⟨⟨⟩,st'⟩:=x
    obtain ⟨p,b1,b2,b3,b4,b5⟩:=hx
    subst b5
    dsimp only
    have hout:=kat_snds (ks:=vs.reverse) (vs:=vs.reverse) rfl b1
    have lp:p.toList.length = vs.length:=by have:=b3.length_eq;rwa [List.length_range] at this
    refine wpAny_bind (seqEpoch_at ho6 rfl (wpAny_bind (listUpdate_at ho6 rfl ?_ (Nat.zero_le _) (by rw [hout,Array.size_reverse,List.size_toArray,List.length_map];omega))))
    rw [b2]
    simp only [bne_self_eq_false,Bool.false_eq_true,if_false]
    refine wpAny_pure ?_
    have:=h p.toList b3 b4
    rw [<- hout] at this
    exact this
end
end L2
namespace L2
open PySem PySem.Spec PyProof.Rows PySem.W
def ltP (a b:Int × Int):Bool:=decide (a.1 < b.1 \/ a.1 = b.1 /\ a.2 < b.2)
theorem JA (a:Int × Int):ltP a a = false:=decide_eq_false (by omega)
theorem V5 {a b c:Int × Int} (h1:ltP a b = true) (h2:ltP b c = true):ltP a c = true:=by
  have:=of_decide_eq_true h1
  have:=of_decide_eq_true h2
  exact decide_eq_true (by omega)
theorem Yq {a b:Int × Int} (h:a ≠ b):ltP a b = true \/ ltP b a = true:=by
  by_cases h1:a.1 = b.1
  · have h2:a.2 ≠ b.2:=fun z=>h (by cases a;cases b;simp at h1 z;rw [h1,z])
    by_cases h3:a.2 < b.2
    · exact .inl (decide_eq_true (by omega))
    · exact .inr (decide_eq_true (by omega))
  · by_cases h3:a.1 < b.1
    · exact .inl (decide_eq_true (by omega))
    · exact .inr (decide_eq_true (by omega))
def PrR (H:Hp) (zs:List V) (ps:List (Int × Int)):Prop:=zs.length = ps.length /\ ∀ (j:Nat) q,ps[j]? = some q -> ∃ T,zs[j]? = some (.ref T) /\ H T = some (.tup [.int q.1,.int q.2])
theorem PrR.nil {H:Hp}:PrR H [] []:=⟨rfl,fun j q e=>by simp at e⟩
theorem PrR.same {H H':Hp} {zs:List V} {ps:List (Int × Int)} (h:PrR H zs ps) (s:Same H H'):PrR H' zs ps:=⟨h.1,fun j k e=>let ⟨T,a,b⟩:=h.2 j k e;⟨T,a,s _ _ b⟩⟩
theorem PrR.snoc {H:Hp} {zs:List V} {ps:List (Int × Int)} {q:Int × Int} {T:Addr} (h:PrR H zs ps) (e:H T = some (.tup [.int q.1,.int q.2])):PrR H (zs ++ [.ref T]) (ps ++ [q]):=by
  refine ⟨by rw [List.length_append,List.length_append,h.1];rfl,fun j r hr=>?_⟩
  by_cases hj:j < ps.length
  · rw [List.getElem?_append_left hj] at hr
    obtain ⟨U,e1,e2⟩:=h.2 j r hr
    exact ⟨U,by rw [List.getElem?_append_left (by rw [h.1];exact hj)];exact e1,e2⟩
  · have hl:=(List.getElem?_eq_some_iff.mp hr).1
    rw [List.length_append] at hl
    have ej:j = ps.length:=by simp at hl;omega
    subst ej
    rw [List.getElem?_append_right (Nat.le_refl _),Nat.sub_self] at hr
    have:q = r:=by simpa using hr
    subst this
    exact ⟨T,by rw [<- h.1,List.getElem?_append_right (Nat.le_refl _),Nat.sub_self];rfl,e⟩
theorem PrR.rev {H:Hp} {zs:List V} {ps:List (Int × Int)} (h:PrR H zs ps):PrR H zs.reverse ps.reverse:=by
  refine ⟨by rw [List.length_reverse,List.length_reverse,h.1],fun j q e=>?_⟩
  have hj:=(List.getElem?_eq_some_iff.mp e).1
  rw [List.length_reverse] at hj
  rw [List.getElem?_reverse hj] at e
  obtain ⟨T,e1,e2⟩:=h.2 _ q e
  exact ⟨T,by rw [List.getElem?_reverse (by rw [h.1];exact hj),h.1];exact e1,e2⟩
theorem vd {h:Heap}:∀ (vs:List Value),(∀ v ∈ vs,∃ a o xs n x t,v = Value.ref a /\ h.get? a = some o /\ o.cls = .type "tuple" /\ o.data = .seq xs n /\ xs[0]? = some (Value.int x t)) -> ∃ fs,KatTups h vs fs /\ fs.length = vs.length /\ ∀ v ∈ fs,∃ x t,v = Value.int x t
  | [],_=>⟨[],KatTups.nil,rfl,fun v hv=>nomatch hv⟩
  | v :: vs,hs=>by
    obtain ⟨fs,k,l,m⟩:=vd vs fun b hb=>hs b (List.mem_cons_of_mem _ hb)
    obtain ⟨a,o,xs,n,x,t,rfl,e1,e2,e3,e4⟩:=hs v (by simp)
    refine ⟨.int x t :: fs,KatTups.cons e1 e2 e3 e4 k,by rw [List.length_cons,l];rfl,fun u hu=>?_⟩
    rcases List.mem_cons.mp hu with z | z
    · exact ⟨x,t,z⟩
    · exact m u z
def ltQ (ps:List (Int × Int)) (i j:Nat):Bool:=ltP (ps.getD i (0,0)) (ps.getD j (0,0))
theorem Yp {ps:List (Int × Int)} (nd:ps.Nodup) (i j:Nat) (hi:i < ps.length) (hj:j < ps.length) (h:i ≠ j):ltQ ps i j = true \/ ltQ ps j i = true:=by
  refine Yq fun e=>h ?_
  rw [List.getD_eq_getElem?_getD,List.getD_eq_getElem?_getD,List.getElem?_eq_getElem hi,List.getElem?_eq_getElem hj] at e
  exact (List.getElem_inj nd).mp e
theorem XU {α:Type} {l:List α} (h:l.Nodup):l.reverse.Nodup:=(List.reverse_perm l).nodup_iff.mpr h
section
variable {X:Cx}
def Y9 (X:Cx) (f:Value) (kw:List (Str × Value)) (r:List V -> Hp -> VK -> Prop):Prop:=
  ∀ (pins:List (Addr × Obj)) (s:Shared) (σ:St) (H:Hp) (xs:List V) (us:List Value) (Q:VK),Inv X pins σ H s -> Vals xs us -> r xs H Q -> wpAny (model X.prog X.w) X.A (call f us kw) (EP X pins σ Q) X.xe s
theorem QG {id:String} {r:List V -> Hp -> VK -> Prop} {x:Str} {p pos kp:Pos} {e kv:Expr} {es:List Expr} {t:TA} (hc:Y9 X (.builtin id) [(Str.ofString "reverse",.bool true)] r) (hg:Gl X x) (hm:X.mg x = none) (hv:bootBuiltins x = some (.builtin id)) (ha:PA X (e :: es) t) (hk:PE X kv (tC (.bl true)))
    (hn:x ≠ "__name__" :=by decide) (hdb:(x == ("__debug__" : Str)) = false:=by decide)
    (he:backTo pos (starEach (e :: es) X.env) = (false,eval e X.env) :: backTo pos (starEach es X.env):=by rfl)
    (hplain:(backTo pos (starEach (e :: es) X.env)).any (·.1) = false:=by rfl) :
    PE X (.Call (.Name x p) (e :: es) [⟨some (Str.ofString "reverse"),kv,kp⟩] pos) (tCB r t):=by
  intro pins s σ H Q I h
  refine wpAny_Call_Name_kw (qZ I hg hm hv ?_ hn hdb)
  refine callWith_kw (thn (ha pos pins s σ H _ I h) fun us s1 ⟨vs,H1,I1,r1,q1⟩=>kws_cons (thn (hk pins s1 σ H1 (fun u H2=>u = .bl true /\ r vs H2 Q) I1 ⟨rfl,q1⟩) fun v s2 ⟨u,H2,I2,ru,eu,q2⟩=>kws_nil ?_)) he hplain rfl rfl
  subst eu
  cases (show v = Value.bool true from ru)
  exact hc pins s2 σ H2 vs us Q I2 r1 q2
inductive jW (K:PySem.W.Frag) (xs:List V) (H:Hp) (Q:VK):Prop
  | mk (a:Addr) (zs:List V) (ps:List (Int × Int)) (_:xs = [.ref a]) (_:SqL K H a zs) (_:PrR H zs ps) (_:ps.Nodup) (_:ps.length < 64) (_:∀ (l:Addr) (qs:List (Int × Int)) (ys:List V),H l = none -> qs.Perm ps -> (qs.Pairwise fun a b=>ltP b a = true) -> PrR H ys qs -> Q (.ref l) (upd H l (.lst ys))):jW K xs H Q
theorem Zh:Y9 X (.builtin "sorted") [(Str.ofString "reverse",.bool true)] (jW X.K):=by
  intro pins s σ H xs us Q I r h
  obtain ⟨a,zs,ps,rfl,hx,pr,nd,h64,q⟩:=h
  obtain ⟨u,rfl,ru⟩:=Vals.one r
  cases (show u = Value.ref a from ru)
  obtain ⟨its,rel,pl,hz⟩:=I.list hx
  have len:=rel.length
  have pl1:=pr.1
  have sz:sizeLine = 16777216:=sizeLine_eq
  refine call_function_entry_kw kind_sorted plain_sorted entry_sorted (args_sorted_rev _ _) ?_
  delta Builtin.«sorted»
  refine wpAny_bind (m:=checkCount "sorted" 1 1 _) (wpAny_pure (wpAny_bind (collect_list pl.isList ?_ (by omega))))
  have keep:∀ b o,s.heap.get? b = some o -> ((s.heap.push (seqObj "list" #[] 0)).update s.heap.objs.size (Obj.mapSeq (· ++ its.toArray))).get? b = some o:=fun b o e=>by
    rw [Heap.get?_update_other _ _ (Ne.symm (Nat.ne_of_lt (Heap.lt_size e)))]
    exact Heap.get?_push_of_some _ e
  generalize (s.heap.push (seqObj "list" #[] 0)).update s.heap.objs.size (Obj.mapSeq (· ++ its.toArray)) = h1 at keep
  refine wpAny_bind (wpAny_newList ?_ (by omega))
  have at_:(h1.push (seqObj "list" its.toArray 0)).get? h1.objs.size = some (seqObj "list" its.toArray 0):=Heap.get?_push_size _ rfl
  have prr:=pr.rev
  have nl:ps.reverse.length = ps.length:=List.length_reverse
  have tup:∀ (j:Nat) v,its[j]? = some v -> ∃ T kv t1 t2,v = Value.ref T /\ ps[j]? = some kv /\ ∃ o n,s.heap.get? T = some o /\ o.cls = .type "tuple" /\ o.data = .seq #[.int kv.1 t1,.int kv.2 t2] n:=fun j v hj=>by
    have hjl:=(List.getElem?_eq_some_iff.mp hj).1
    have ek:ps[j]? = some (ps[j]'(by omega)):=List.getElem?_eq_getElem _
    generalize ps[j]'(by omega) = kv at ek
    obtain ⟨T,e1,e2⟩:=pr.2 j kv ek
    obtain ⟨v',e3,e4⟩:=rel.get e1
    rw [hj] at e3
    cases e3
    cases (show v = Value.ref T from e4)
    obtain ⟨_,ts,rt,⟨o,ho,hc,n,hd⟩,_⟩:=(show ObjOk X.prog X.w H s.heap T (.tup [.int kv.1,.int kv.2]) from I.hok T _ e2)
    cases rt with
    | cons r1 rt=>
      cases rt with
      | cons r2 rt=>
        cases rt
        obtain ⟨t1,rfl⟩:=r1
        obtain ⟨t2,rfl⟩:=r2
        exact ⟨T,kv,t1,t2,rfl,ek,o,n,ho,hc,hd⟩
  have lt:∀ (j:Nat) v,its.reverse[j]? = some v -> ∃ T kv t1 t2,v = Value.ref T /\ ps.reverse[j]? = some kv /\ ∃ o n,s.heap.get? T = some o /\ o.cls = .type "tuple" /\ o.data = .seq #[.int kv.1 t1,.int kv.2 t2] n:=fun j v hj=>by
    have hjl:=(List.getElem?_eq_some_iff.mp hj).1
    rw [List.length_reverse] at hjl
    rw [List.getElem?_reverse hjl] at hj
    obtain ⟨T,kv,t1,t2,e1,e2,e3⟩:=tup _ v hj
    exact ⟨T,kv,t1,t2,e1,by rw [List.getElem?_reverse (by omega)];rw [show ps.length - 1 - j = its.length - 1 - j by omega];exact e2,e3⟩
  have irr:∀ i,i < its.length -> ltQ ps.reverse i i = false:=fun i _=>JA _
  have tr:∀ i j k,i < its.length -> j < its.length -> k < its.length -> ltQ ps.reverse i j = true -> ltQ ps.reverse j k = true -> ltQ ps.reverse i k = true:=fun i j k _ _ _=>V5
  have tot:∀ i j,i < its.length -> j < its.length -> i ≠ j -> ltQ ps.reverse i j = true \/ ltQ ps.reverse j i = true:=fun i j hi hj=>Yp (XU nd) i j (by omega) (by omega)
  refine wpAny_bind (wpAny_holding (wpAny_call_entry_kw slot_list_sort ⟨_,at_,rfl⟩ entry_list_sort (Qz (s:={ s with heap:=h1.push (seqObj "list" its.toArray 0) }) at_ (by omega) (rkB its.length (ltQ ps.reverse)) (W0 irr tr tot) (fun g2 h2 k2=>?_) fun p pm pw=>⟨_,rfl,?_⟩) (args_list_sort_rev _ _)))
  · have k3:∀ T o,s.heap.get? T = some o -> h2.get? T = some o:=fun T o e=>k2 T o (Nat.ne_of_lt (Heap.lt_size (keep T o e))) (Heap.get?_push_of_some _ (keep T o e))
    obtain ⟨fs,kt,lf,sf⟩:=vd (h:=h2) its fun v hv=>by
      obtain ⟨j,hj⟩:=List.mem_iff_getElem?.mp hv
      obtain ⟨T,kv,t1,t2,e1,_,o,n,e3,e4,e5⟩:=tup j v hj
      exact ⟨T,o,_,n,kv.1,t1,e1,k3 T o e3,e4,e5,rfl⟩
    refine ⟨tuples' (Value.type "int" != Value.type "tuple"),fun Q' hq'=>kat_kind kt (by omega) (fun v hv=>?_) rfl hq',fun i j hi hj C hC=>?_⟩
    · obtain ⟨x,t,rfl⟩:=sf v hv
      exact Looks.now
    · have ei:its.reverse[i]? = some (its.reverse[i]'(by rw [List.length_reverse];exact hi)):=List.getElem?_eq_getElem _
      have ej:its.reverse[j]? = some (its.reverse[j]'(by rw [List.length_reverse];exact hj)):=List.getElem?_eq_getElem _
      generalize its.reverse[i]'(by rw [List.length_reverse];exact hi) = vi at ei
      generalize its.reverse[j]'(by rw [List.length_reverse];exact hj) = vj at ej
      obtain ⟨T,ki,a1,a2,rfl,fi,oi,ni,gi,_,di⟩:=lt i vi ei
      obtain ⟨U,kj,b1,b2,rfl,fj,oj,nj,gj,_,dj⟩:=lt j vj ej
      rw [<- Jm irr tr tot hi hj] at hC
      have hC':C (ltP ki kj) { s with heap:=h2 }:=by
        unfold ltQ at hC
        rw [List.getD_eq_getElem?_getD,fi,List.getD_eq_getElem?_getD,fj] at hC
        exact hC
      unfold kas_ask
      rw [List.getD_eq_getElem?_getD,ei,List.getD_eq_getElem?_getD,ej]
      refine kat_lt (k3 _ _ gi) di (k3 _ _ gj) dj (kat_cons ((zE X.prog X.w).eqBool (a:=Sum.inl ki.1) (b:=Sum.inl kj.1) (jT ⟨a1,rfl⟩) (jT ⟨b1,rfl⟩) ?_))
      refine kat_go (fun e=>?_) (fun e=>?_)
      · have ek:ki.1 = kj.1:=Sum.inl.inj (of_decide_eq_true e)
        refine kat_yes (kat_cons ((zE X.prog X.w).eqBool (a:=Sum.inl ki.2) (b:=Sum.inl kj.2) (jT ⟨a2,rfl⟩) (jT ⟨b2,rfl⟩) ?_))
        refine kat_go (fun e2=>?_) (fun e2=>?_)
        · have ek2:ki.2 = kj.2:=Sum.inl.inj (of_decide_eq_true e2)
          refine kat_yes (kat_nil ?_)
          rw [show ltP ki kj = false from decide_eq_false (by omega)] at hC'
          exact hC'
        · rw [show ltP ki kj = decide (ki.2 < kj.2) from by unfold ltP;rw [decide_eq_decide];omega] at hC'
          exact kat_no (kat_one _ _ (PyProof.Rows.lt_int hC'))
      · have nk:ki.1 ≠ kj.1:=fun z=>(of_decide_eq_false e) (by rw [z])
        refine kat_no (oneLt_int ?_)
        rw [show ltP ki kj = decide (ki.1 < kj.1) from by unfold ltP;rw [decide_eq_decide];omega] at hC'
        exact hC'
  · have ltp:∀ i ∈ p,i < its.length:=fun i hi=>List.mem_range.mp (pm.mem_iff.mp hi)
    have lp:p.length = its.length:=by have:=pm.length_eq;rwa [List.length_range] at this
    have relR:=rel.reverse
    have rel2:Vals ((p.map fun i=>zs.reverse.getD i .non).reverse) ((p.map fun i=>its.reverse.getD i Value.none).toArray.reverse.toList):=by
      rw [Array.toList_reverse,List.toList_toArray]
      refine Vals.reverse ?_
      have go:∀ l:List Nat,(∀ i ∈ l,i < its.length) -> Vals (l.map fun i=>zs.reverse.getD i .non) (l.map fun i=>its.reverse.getD i Value.none):=fun l=>by
        induction l with
        | nil=>intro _;exact .nil
        | cons i l ih=>
          intro hl
          refine .cons ?_ (ih fun k hk=>hl k (List.mem_cons_of_mem _ hk))
          have hi:=hl i (by simp)
          have ez:zs.reverse[i]? = some (zs.reverse[i]'(by rw [List.length_reverse];omega)):=List.getElem?_eq_getElem _
          obtain ⟨v,e1,e2⟩:=relR.get ez
          show RelV (zs.reverse.getD i .non) (its.reverse.getD i Value.none)
          rw [List.getD_eq_getElem?_getD,List.getD_eq_getElem?_getD,ez,e1]
          exact e2
      exact go p ltp
    obtain ⟨J,hn⟩:=vc (vs:=its) (out:=(p.map fun i=>its.reverse.getD i Value.none).toArray.reverse) (zs:=(p.map fun i=>zs.reverse.getD i .non).reverse) (tk:=s.toks) (d':=s.drawn) I keep rel2 (by rw [List.length_reverse,List.length_map];omega)
    have e1:(List.range its.length).map (fun i=>ps.reverse.getD i (0,0)) = ps.reverse:=by
      refine List.ext_getElem (by rw [List.length_map,List.length_range];omega) fun i h1 h2=>?_
      rw [List.getElem_map,List.getElem_range,List.getD_eq_getElem?_getD,List.getElem?_eq_getElem h2]
      rfl
    have pw':=List.pairwise_map.mp pw
    refine wpAny_pure ⟨_,rfl,.ref h1.objs.size,_,J,rfl,q _ ((p.map fun i=>ps.reverse.getD i (0,0)).reverse) _ hn ?_ ?_ ⟨by rw [List.length_reverse,List.length_reverse,List.length_map,List.length_map],fun j qq e=>?_⟩⟩
    · have:=pm.map (fun i=>ps.reverse.getD i ((0:Int),(0:Int)))
      rw [e1] at this
      exact (List.reverse_perm _).trans (this.trans (List.reverse_perm _))
    · rw [List.pairwise_reverse]
      refine List.pairwise_map.mpr (pw'.imp_of_mem fun {i j} hi hj hij=>?_)
      have:=Jm irr tr tot (ltp i hi) (ltp j hj)
      rw [decide_eq_true hij] at this
      exact this
    · have hjl:=(List.getElem?_eq_some_iff.mp e).1
      rw [List.length_reverse,List.length_map] at hjl
      rw [List.getElem?_reverse (by rw [List.length_map];exact hjl),List.getElem?_map] at e
      obtain ⟨i,ei,rfl⟩:=Option.map_eq_some_iff.mp e
      have hi:=ltp i (List.mem_of_getElem? ei)
      have ek:ps.reverse[i]? = some (ps.reverse.getD i (0,0)):=by rw [List.getD_eq_getElem?_getD,List.getElem?_eq_getElem (by omega)];rfl
      obtain ⟨T,e2,e3⟩:=prr.2 i _ ek
      rw [List.length_map] at ei
      refine ⟨T,?_,e3⟩
      rw [List.getElem?_reverse (by rw [List.length_map];exact hjl),List.getElem?_map,List.length_map,ei]
      show some (zs.reverse.getD i .non) = _
      rw [List.getD_eq_getElem?_getD,e2]
      rfl
end
end L2
namespace L2
open PySem PySem.Spec PyProof.Rows
section
variable {X:Cx}
theorem Vr {K:PySem.W.Frag} (h:X.K = K):SlR X (zai K):=by rw [<- h];exact qh
end
section
variable {X:Cx}
inductive Jq (K:PySem.W.Frag) (x:V) (vs:List V) (H:Hp) (Q:VK):Prop
  | mk (l:Addr) (ns:List Str) (k:Str) (_:x = .ref l) (_:vs = [.str k]) (_:SqL K H l (ns.map V.str)) (_:Q (.int (ns.count k)) H):Jq K x vs H Q
theorem XX {K:PySem.W.Frag} (hK:X.K = K):MtM X "list.count" (Jq K):=by
  intro pins s σ H x vs v us Q I rx rv h
  obtain ⟨l,ns,k,rfl,rfl,hH,q⟩:=h
  subst hK
  cases rx
  obtain ⟨u,rfl,ru⟩:=rv.one
  obtain ⟨t,rfl⟩:=ru
  obtain ⟨its,r,pl,_⟩:=I.list hH
  obtain ⟨ob,ho,hc,n,hd⟩:=pl.isList
  obtain ⟨cls,dd,data,sl⟩:=ob
  cases hc
  cases hd
  refine call_meets PySem.F.slot_list_count ⟨_,ho,rfl⟩ PySem.F.entry_list_count (PySem.F.args_list_count_2 _ _) (SeqAt.list_countAt l its.toArray n dd sl (.str k t) (Z0 k)) ⟨ho,fun y hy=>(xB r y (by simpa using hy)).at _ _,?_⟩
  refine ⟨.int (ns.count k),H,I.tok _,⟨s.toks,?_⟩,q⟩
  show Value.int ((its.toArray.toList.countP (Z0 k):Nat):Int) s.toks = _
  rw [show its.toArray.toList = its by simp,qV r]
end
section
variable {X:Cx}
theorem QR {K:PySem.W.Frag} (h:X.K = K) (hc:X.calm = true):qD X (.builtin "all") (jY K):=by subst h;exact j6 hc
end
section
variable {X:Cx}
end
section
variable {X:Cx}
end
def AtQ (K:PySem.W.Frag) (H:Hp) (t:Bool) (a:Addr) (xs:List V):Prop:=if t = true then SqT K H a xs else H a = some (.lst xs)
def SqQ (K:PySem.W.Frag) (H:Hp) (t:Bool) (a:Addr) (xs:List V):Prop:=if t = true then SqT K H a xs else SqL K H a xs
theorem AtQ.same {K:PySem.W.Frag} {H H':Hp} {t:Bool} {a:Addr} {xs:List V} (h:AtQ K H t a xs) (s:Same H H'):AtQ K H' t a xs:=by
  cases t with
  | true=>exact s.sqT h
  | false=>exact s _ _ h
section
variable {X:Cx}
theorem VR {x y:V} (pins:List (Addr × Obj)) (s:Shared) (σ:St) (H:Hp) (v u:Value) (Q:VK) (I:Inv X pins σ H s) (rx:RelV x v) (ry:RelV y u) (h:∃ a b ys,x = .ref a /\ y = .ref b /\ SqT X.K H a [] /\ SqT X.K H b ys /\ Q (.ref b) H) :
    wpAny (model X.prog X.w) X.A (binaryOp .Add v u) (EP X pins σ Q) X.xe s:=by
  obtain ⟨a,b,ys,rfl,rfl,ha,hb,q⟩:=h
  cases rx
  cases ry
  obtain ⟨i1,r1,p1,_⟩:=I.tuple ha
  obtain ⟨i2,r2,p2,_⟩:=I.tuple hb
  have hv:i1 = []:=r1.nil_iff.mpr rfl
  obtain ⟨⟨c1,d1,g1,l1⟩,o1,k1,n1,e1⟩:=p1
  obtain ⟨⟨c2,d2,g2,l2⟩,o2,k2,n2,e2⟩:=p2
  cases k1
  cases e1
  cases k2
  cases e2
  have m:=tuple_addW0 a b i1.toArray i2.toArray n1 n2 d1 d2 l1 l2 (by simp [hv])
  exact concat_meets ⟨_,o1,rfl⟩ ⟨_,o2,rfl⟩ noFill_tuple_add seq_tuple_add PySem.F.slot_tuple_add PySem.F.entry_tuple_add (PySem.F.args_tuple_add_2 _ _) m ⟨o1,o2,.ref b,H,I,rfl,q⟩
end
section
variable {X:Cx}
def zaY (i j l:Nat) (ta:TA):TS:=fun D σ H=>ta σ H fun vs H1=>∃ v w u,vs = [v,w,u] /\ D.nx (((σ.set l (some u)).set j (some w)).set i (some v)) H1
theorem W6 {pos:Pos} {i j l:Nat} {x y z:Str} {a b c:Expr} {ta:TA} {px py pz pt:Pos} {kt k2 pt2} (hc:X.calm = true) (hN:X.N.Nodup) (hi:X.N[i]? = some x) (hj:X.N[j]? = some y) (hl:X.N[l]? = some z)
    (hx:X.env.scope.names.lookup x = some .local) (hy:X.env.scope.names.lookup y = some .local) (hz:X.env.scope.names.lookup z = some .local) (ha:PA X [a,b,c] ta)
    (hw:swappedStores [.Tuple [.Name x px,.Name y py,.Name z pz] kt pt] (.Tuple [a,b,c] k2 pt2) X.env = pure (some [x,y,z]))
    (hs:swapsWithSole [.Tuple [.Name x px,.Name y py,.Name z pz] kt pt] (.Tuple [a,b,c] k2 pt2) pos.line X.env = pure false:=by rfl) :
    PS X (.Assign [.Tuple [.Name x px,.Name y py,.Name z pz] kt pt] (.Tuple [a,b,c] k2 pt2) pos) (zaY i j l ta):=by
  intro pins s σ H D I h
  rw [exec_Assign_arm]
  refine wpAny_bind (wpAny_standAt ?_)
  rw [hs]
  refine wpAny_bind (wpAny_pure ?_)
  rw [if_neg (by decide)]
  refine wpAny_bind (Tuple_ (thn (ha _ pins s σ H _ I h) fun us s1 ⟨vs,H1,I1,r1,q1⟩=>?_))
  obtain ⟨v,w,u,e1,q1⟩:=q1
  subst e1
  obtain ⟨u1,u2,u3,rfl,rv,rw',ru⟩:∃ u1 u2 u3,us = [u1,u2,u3] /\ RelV v u1 /\ RelV w u2 /\ RelV u u3:=by
    obtain _ | ⟨p1,_ | ⟨p2,_ | ⟨p3,q⟩⟩⟩:=r1
    cases q
    exact ⟨_,_,_,rfl,p1,p2,p3⟩
  refine wpAny_newObj_type ?_ (by show 3 <= sizeLine;decide)
  have I2:Inv X pins σ H1 { s1 with heap:=s1.heap.push { cls:=.type "tuple",data:=.seq [u1,u2,u3].toArray } }:=I1.kept (t':=s1.toks) fun b o e=>Heap.get?_push_of_some _ e
  rw [hw]
  refine wpAny_bind (wpAny_pure ?_)
  show wpAny (model X.prog X.w) X.A (do rule "assign.swapped-stores";let items <- unpackItems (.ref s1.heap.objs.size) 3 none;assignInOrder [fun v=>bindName X.env z v,fun v=>bindName X.env y v,fun v=>bindName X.env x v] items.reverse;pure Flow.next) _ _ _
  refine wpAny_bind (wpAny_rule (wpAny_bind (unpackItems_tuple (items:=#[u1,u2,u3]) (I.ok.hd hc) (IsTup.new s1.heap _) fun h' hx'=>?_)))
  have I3:=I2.kept (h':=h') (t':=s1.toks) fun b o e=>hx' b o (Nat.ne_of_lt (Heap.lt_size e)) e
  show wpAny _ _ (assignInOrder [fun v=>bindName X.env z v,fun v=>bindName X.env y v,fun v=>bindName X.env x v] [u3,u2,u1] >>= fun _=>pure Flow.next) _ _ _
  refine wpAny_bind (assignInOrder_cons (wpAny_bindName (qQ I3 hN hl (.inl hz) ru (fun s2 I4=>?_) (.inr hz))))
  refine assignInOrder_cons (wpAny_bindName (qQ I4 hN hj (.inl hy) rw' (fun s3 I5=>?_) (.inr hy)))
  exact assignInOrder_cons (wpAny_bindName (qQ I5 hN hi (.inl hx) rv (fun s4 I6=>assignInOrder_nil (wpAny_pure ⟨_,H1,I6,q1⟩)) (.inr hx)))
end
section
variable {X:Cx}
end
end L2
namespace PySem
section
variable {prog:Program} {w:World} {A:Around} {d:Addr} {es:Array DictEntry} {ep:Nat}
theorem XG (hh:A.handled = none) (I:Addr) (hne:d ≠ I) :
    Walks prog w A I [I,d] [I] es.size (fun i v=>∃ e,es[i]? = some e /\ v = e.key) (fun i h=>h.IsKeyIter I d i es.size ep /\ RawD h d es ep) where
  sub:=fun b hb=>List.mem_cons.mpr (.inl (List.mem_singleton.mp hb))
  frame:=fun i h h' st hk=>⟨st.1.at (hk I (by simp)),st.2.at (hk d (by simp))⟩
  item:=fun i s Q E hi st hQ=>by
    refine VG st.1 st.2 (Array.getElem?_eq_getElem hi) fun h' it' sb=>?_
    exact hQ _ h' s.toks ⟨_,Array.getElem?_eq_getElem hi,rfl⟩ ⟨it',st.2.at fun o e=>(sb.2 d hne).trans e⟩ fun b o hb e=>(sb.2 b fun z=>hb (by simp [z])).trans e
  done:=fun s Q E st hQ=>W3 hh st.1 st.2 (Nat.le_refl _) fun h' eb=>hQ h' s.toks fun b o hb e=>eb b o (fun z=>hb (by simp [z])) e
  self:=fun i s Q E st hQ=>wpAny_pyIter_keyiter st.1 hQ
theorem W2 (lo:(d == sysModules) = false):PySem.W.KdlSrc prog w "dict" d d es.size (fun i v=>∃ e,es[i]? = some e /\ v = e.key) (fun h=>RawD h d es ep) where
  type:=fun s ⟨o,ho,hc,_⟩=>⟨o,ho,hc.1⟩
  there:=fun h ⟨o,ho,_⟩=>⟨Heap.lt_size ho,Heap.lt_size ho⟩
  keep:=fun h h' hm hk=>hm.at (hk d (.inl rfl))
  notList:=by decide
  notTuple:=by decide
  hint:=fun A E s Q ⟨o,ho,hc,_⟩ hq=>PySem.W.kdl_hint_dict ⟨o,ho,hc.1⟩ hq
  iter:=fun A s hh hm=>⟨_,_,(fun E Q hq=>VF lo hm hq),XG hh _ (let ⟨o,ho,_⟩:=hm;Nat.ne_of_lt (Heap.lt_size ho)),⟨⟨_,Heap.get?_push_size _ rfl,rfl,rfl⟩,hm.at fun o e=>Heap.get?_push_of_some _ e⟩⟩
end
end PySem
namespace L2
open PySem PySem.Spec PyProof.Rows
theorem zaQ {P:Program} {w:World} {H:Hp} {h:Heap} {d:Addr} {kvs:List (List Key × V)} (ok:HOk P w H h) (e:H d = some (.dT kvs)):(d == sysModules) = false /\ ∃ es ep,RawD h d es ep /\ es.size = kvs.length /\
    ∀ (i:Nat) (k:List Key) (v:V),kvs[i]? = some (k,v) -> ∃ (b:Addr) (en:DictEntry),es[i]? = some en /\ en.key = Value.ref b /\ H b = some (.tup (k.map kV)):=by
  obtain ⟨z,y,xs,r,o',es',ep',h1,h2,h3,h4,h5⟩:=(show ObjOk P w H h d (.dT kvs) from ok d _ e)
  refine ⟨y,es',ep',⟨o',h1,h2,h3⟩,by rw [<- Array.length_toList,h4,List.length_map];exact (Paired.length r).symm,fun i k v hk=>?_⟩
  obtain ⟨b,u,ex,hb⟩:=We r hk
  refine ⟨b,entryOfKey (tupleKind (zE P w)) (k,b,u),?_,rfl,hb⟩
  rw [<- Array.getElem?_toList,h4,List.getElem?_map,ex]
  rfl
section
variable {X:Cx}
inductive xf (xs:List V) (H:Hp) (Q:VK):Prop
  | mk (a:Addr) (kvs:List (List Key × V)) (_:xs = [.ref a]) (_:H a = some (.dT kvs)) (_:∀ (p:Addr) (as:List Addr),H p = none -> as.length = kvs.length -> (∀ (i:Nat) (k:List Key) (v:V),kvs[i]? = some (k,v) -> ∃ b,as[i]? = some b /\ H b = some (.tup (k.map kV))) -> Q (.ref p) (upd H p (.lst (as.map V.ref)))):xf xs H Q
theorem vk (hh:X.A.handled = none):qD X (.type "list") (xf):=by
  intro pins s σ H xs us Q I r h
  obtain ⟨a,kvs,rfl,hx,q⟩:=h
  obtain ⟨u,rfl,ru⟩:=Vals.one r
  cases (show u = Value.ref a from ru)
  obtain ⟨lo,es,ep,raw,sz,all⟩:=zaQ I.hok hx
  have zz:kvs.length <= sizeLine:=(Wr I.hok hx).1
  refine PySem.W.kdl_call (W2 (prog:=X.prog) (w:=X.w) (es:=es) (ep:=ep) lo) hh raw (by omega) fun h' tk acc c keep at_ its=>?_
  have hn:H s.heap.objs.size = none:=I.hok.fresh (Nat.le_refl _)
  let f:Nat -> Addr:=fun i=>match es[i]? with | some e=>(match e.key with | .ref b=>b | _=>0) | none=>0
  have hf:∀ (i:Nat) (k:List Key) (v:V),kvs[i]? = some (k,v) -> ∃ en,es[i]? = some en /\ en.key = Value.ref (f i) /\ H (f i) = some (.tup (k.map kV)):=fun i k v hk=>by
    obtain ⟨b,en,e1,e2,e3⟩:=all i k v hk
    have:f i = b:=by
      show (match es[i]? with | some e=>(match e.key with | .ref b=>b | _=>0) | none=>0) = b
      rw [e1]
      show (match en.key with | .ref b=>b | _=>0) = b
      rw [e2]
    rw [this]
    exact ⟨en,e1,e2,e3⟩
  refine ⟨.ref s.heap.objs.size,_,I.laid (a:=s.heap.objs.size) (o:=.lst (((List.range kvs.length).map f).map V.ref)) (t':=tk) keep (Nat.le_refl _) ⟨by rw [List.length_map,List.length_map,List.length_range];exact zz,acc.toList,c,QW ?_ ?_,by rw [at_]⟩,rfl,q _ ((List.range kvs.length).map f) hn (by rw [List.length_map,List.length_range]) fun i k v hk=>?_⟩
  · have z:=its.1
    have y:acc.toList.length = acc.size:=Array.length_toList
    rw [List.length_map,List.length_map,List.length_range]
    omega
  · intro j u e
    rw [Array.getElem?_toList] at e
    obtain ⟨en,e1,e2⟩:=its.2 j u e
    have hj:j < kvs.length:=by rw [<- sz];exact (Array.getElem?_eq_some_iff.mp e1).1
    have ek:kvs[j]? = some (kvs[j].1,kvs[j].2):=List.getElem?_eq_getElem hj
    obtain ⟨en',e3,e4,_⟩:=hf j _ _ ek
    rw [e1] at e3
    cases e3
    refine ⟨.ref (f j),by rw [List.getElem?_map,List.getElem?_map,List.getElem?_range hj];rfl,?_⟩
    rw [e2,e4]
    rfl
  · have hj:i < kvs.length:=(List.getElem?_eq_some_iff.mp hk).1
    obtain ⟨en,_,_,e3⟩:=hf i k v hk
    exact ⟨f i,by rw [List.getElem?_map,List.getElem?_range hj];rfl,e3⟩
inductive vm (x:V) (y:V) (H:Hp) (Q:VK):Prop
  | mk (i j:_) (_:x = .str i) (_:y = .str j) (_:Q (.bl (!decide (i.cps.toList < j.cps.toList))) H):vm x y H Q
theorem XQ:OpR X (compareOp .GtE) (vm):=by
  intro pins s σ H x y v u Q I rx ry h
  obtain ⟨i,j,rfl,rfl,q⟩:=h
  obtain ⟨t,rfl⟩:=rx
  obtain ⟨t',rfl⟩:=ry
  exact P.ge_str (zL I q rfl)
inductive Jo (K:PySem.W.Frag) (x:V) (vs:List V) (H:Hp) (Q:VK):Prop
  | mk (l:Addr) (ns:List Str) (k:Str) (_:x = .ref l) (_:vs = [.str k]) (_:SqT K H l (ns.map V.str)) (_:Q (.int (ns.count k)) H):Jo K x vs H Q
theorem xX {K:PySem.W.Frag} (hK:X.K = K):MtM X "tuple.count" (Jo K):=by
  intro pins s σ H x vs v us Q I rx rv h
  obtain ⟨l,ns,k,rfl,rfl,hH,q⟩:=h
  subst hK
  cases rx
  obtain ⟨u,rfl,ru⟩:=rv.one
  obtain ⟨t,rfl⟩:=ru
  obtain ⟨its,r,pl,_⟩:=I.tuple hH
  obtain ⟨⟨cls,dd,data,sl⟩,ho,hc,n,hd⟩:=pl
  cases hc
  cases hd
  refine call_meets PySem.F.slot_tuple_count ⟨_,ho,rfl⟩ PySem.F.entry_tuple_count (PySem.F.args_tuple_count_2 _ _) (SeqAt.tuple_countAt l its.toArray n dd sl (.str k t) (Z0 k)) ⟨ho,fun y hy=>(xB r y (by simpa using hy)).at _ _,?_⟩
  refine ⟨.int (ns.count k),H,I.tok _,⟨s.toks,?_⟩,q⟩
  show Value.int ((its.toArray.toList.countP (Z0 k):Nat):Int) s.toks = _
  rw [show its.toArray.toList = its by simp,qV r]
theorem Yb {K:PySem.W.Frag} (h:X.K = K) (hu:X.A.units < cLine):OpR X (compareOp .Eq) (zal K false):=by
  rw [<- h]
  exact zaw hu
end
section
variable {X:Cx}
theorem XN {K:PySem.W.Frag} (h:X.K = K) (hu:X.A.units < cLine):OpR X (compareOp .NotEq) (xo K):=by
  rw [<- h]
  exact vU hu
def zbK (r:V -> List V -> Hp -> VK -> Prop) (to:TE) (t:TA):TE:=fun σ H Q=>to σ H fun x H1=>(∃ a xs,x = .ref a /\ H1 a = some (.tup xs)) /\ t σ H1 fun xs H2=>r x xs H2 Q
variable {o e:Expr} {es:List Expr} {to:TE} {t:TA} {name:Str} {apos cpos:Pos} {id:String} {r:V -> List V -> Hp -> VK -> Prop}
theorem QH (slot:Slot "tuple" name id) (hty:typeOf (.builtin id) = pure (.type "method_descriptor")) (hm:MtR X id r) (ho:PE X o to) (ha:PA X (e :: es) t)
    (hbase:attributeBase o name X.env (eval o X.env) = eval o X.env:=by rfl)
    (hfew:((backTo cpos (starEach (e :: es) X.env)).all (fun x=>!x.1) && (backToKw cpos (keywordEach [] X.env)).all (fun x=>x.1.isSome)
      && decide ((e :: es).length + ([]:List Keyword).length + (if ([]:List Keyword).isEmpty then 0 else 1) < 30)) = true:=by rfl)
    (hline:(apos.endLine == cpos.line) = true:=by rfl) (hs:starEach (e :: es) X.env = (false,eval e X.env) :: starEach es X.env:=by rfl) (hplain:(backTo cpos (starEach es X.env)).any (·.1) = false:=by rfl) :
    PE X (.Call (.Attribute o name apos) (e :: es) [] cpos) (zbK r to t):=by
  intro pins s σ H Q I h
  refine wpAny_Call_method_late hbase hfew hline rfl (thn (ho pins s σ H _ I h) fun v s1 ⟨x,H1,I1,r1,ty,q1⟩=>?_)
  obtain ⟨a,xs,rfl,hx⟩:=ty
  cases (show v = _ from r1)
  obtain ⟨_,its,_,⟨ob,e1,e2,_⟩,o2,e3,e4⟩:=(show ObjOk X.prog X.w H1 s1.heap a (.tup xs) from I1.hok a _ hx)
  refine ⟨"tuple",id,PySem.F.plainAttrs_tuple,slot,hty,⟨ob,e1,e2⟩,fun c ec=>by cases ec;exact ⟨o2,e3,e4⟩,?_⟩
  have hA:=ha cpos pins s1 σ H1 _ I1 q1
  rw [hs] at hA ⊢
  refine Calls.callWith_builtin (by show (false || (backTo cpos (starEach es X.env)).any (·.1)) = false;rw [hplain] <;> rfl) (Calls.evalArgs_plain ?_)
  exact thn hA fun us s2 ⟨vs,H2,I2,r2,q2⟩=>hm pins s2 σ H2 (.ref a) vs (.ref a) us Q I2 r1 r2 q2
end
end L2
namespace L2
open PySem PySem.Spec PyProof.Rows PySem.W
section
variable {X:Cx}
end
section
variable {X:Cx}
end
end L2
namespace L2
open PySem PySem.Spec PyProof.Rows PySem.W
section
variable {X:Cx}
end
end L2
namespace L2
open PySem PySem.Spec PyProof.Rows PySem.W
section
variable {X:Cx}
end
end L2
namespace L2
open PySem PySem.Spec PyProof.Rows PySem.W
section
variable {prog:Program} {w:World} {A:Around} {E:Value -> Shared -> Prop} {s:Shared}
inductive Vf (prog:Program) (w:World) (A:Around) (s:Shared):List Value -> List Value -> Bool -> Prop
  | nil:Vf prog w A s [] [] false
  | nl {y ys}:Vf prog w A s [] (y :: ys) true
  | ln {x xs}:Vf prog w A s (x :: xs) [] false
  | eq {x y xs ys b} (h:∀ (Q:Bool -> Shared -> Prop) E,Q true s -> wpAny (model prog w) A (eqBool x y) Q E s) (t:Vf prog w A s xs ys b):Vf prog w A s (x :: xs) (y :: ys) b
  | ne {x y xs ys b} (h:∀ (Q:Bool -> Shared -> Prop) E,Q false s -> wpAny (model prog w) A (eqBool x y) Q E s) (g:∀ (Q:Value -> Shared -> Prop) E,Q (.bool b) s -> wpAny (model prog w) A (richCompare .Lt x y) Q E s):Vf prog w A s (x :: xs) (y :: ys) b
theorem eq_int (x y:Int) (t u:Tok) {Q:Bool -> Shared -> Prop} (h:Q (decide (x = y)) s):wpAny (model prog w) A (eqBool (.int x t) (.int y u)) Q E s:=by
  refine (zE prog w).eqBool (a:=Sum.inl x) (b:=Sum.inl y) (jT ⟨t,rfl⟩) (jT ⟨u,rfl⟩) ?_
  rw [show decide ((Sum.inl x:Key) = Sum.inl y) = decide (x = y) from decide_eq_decide.mpr ⟨fun z=>Sum.inl.inj z,fun z=>by rw [z]⟩]
  exact h
end
section
variable {prog:Program} {w:World} {A:Around} {R:Result -> Shared -> Prop} {I S:Addr} {fp wr:List Addr} {n:Nat} {P:Nat -> Value -> Prop} {St:Nat -> Heap -> Prop}
end
end L2
namespace L2
open PySem PySem.Spec PyProof.Rows PySem.W
def WkR (H:Hp) (zs:List V) (ps:List (Int × List Int)):Prop:=zs.length = ps.length /\ ∀ (j:Nat) q,ps[j]? = some q -> ∃ T U,zs[j]? = some (.ref T) /\ H T = some (.tup [.int q.1,.ref U]) /\ H U = some (.tup (q.2.map V.int))
theorem WkR.nil {H:Hp}:WkR H [] []:=⟨rfl,fun j q e=>by simp at e⟩
theorem WkR.same {H H':Hp} {zs:List V} {ps:List (Int × List Int)} (h:WkR H zs ps) (s:Same H H'):WkR H' zs ps:=⟨h.1,fun j k e=>let ⟨T,U,a,b,c⟩:=h.2 j k e;⟨T,U,a,s _ _ b,s _ _ c⟩⟩
section
variable {X:Cx}
end
end L2
namespace L2
open PySem PySem.Spec PyProof.Rows PySem.W
section
variable {X:Cx}
end
end L2
namespace L2
open PySem PySem.Spec PyProof.Rows
section
variable {X:Cx}
end
section
variable {prog:Program} {w:World} {K:Type} [DecidableEq K] {knd:KeyKind prog w K} {A:Around} {E:Value -> Shared -> Prop} {s:Shared}
end
section
variable {X:Cx}
end
end L2
namespace L2
open PySem PySem.Spec PyProof.Rows PySem.W
section
variable {prog:Program} {w:World} {A:Around} {R:Result -> Shared -> Prop} {I S:Addr} {fp wr:List Addr} {n:Nat} {P:Nat -> Value -> Prop} {St:Nat -> Heap -> Prop}
end
section
variable {X:Cx}
end
end L2
namespace L2
open PySem PySem.Spec PyProof.Rows
theorem xx (n:Int) {c:Int} (hc:0 < c):Builtin.Range.rangeSize 0 n c = if 0 < n then (n - 1) / c + 1 else 0:=by
  unfold Builtin.Range.rangeSize
  simp only [hc,if_true,Int.sub_zero,gt_iff_lt]
theorem Vp {n c:Int} (h0:0 <= n) (h1:n <= 1000000) (hc:0 < c) (hc':c <= 1000000):Builtin.Range.small 0 n c = true:=by
  have e:0 <= (n - 1) / c + 1 /\ (n - 1) / c + 1 <= 1000001 \/ n <= 0:=by
    by_cases h:n <= 0
    · exact .inr h
    · have a1:0 <= (n - 1) / c:=Int.ediv_nonneg (by omega) (by omega)
      have a2:(n - 1) / c <= n - 1:=Int.ediv_le_self _ (by omega)
      exact .inl ⟨by omega,by omega⟩
  unfold Builtin.Range.small
  rw [xx n hc]
  simp only [Builtin.Range.rangeFitsLong,Bool.and_eq_true,Bool.or_eq_true,decide_eq_true_eq,beq_iff_eq,hc,if_true]
  generalize (n - 1) / c + 1 = z at e
  split <;> omega
theorem Zt {c:Int}:∀ {its:List Value} {n k:Nat},its.length = n -> (∀ j v,its[j]? = some v -> ∃ t,v = Value.int (((k + j:Nat):Int) * c) t) -> Vals ((List.range' k n).map fun i:Nat=>V.int ((i:Int) * c)) its
  | [],0,k,_,_=>.nil
  | v :: its,n + 1,k,hl,h=>by
    rw [List.range'_succ,List.map_cons]
    obtain ⟨t,e⟩:=h 0 v rfl
    refine .cons ⟨t,by rw [e];rfl⟩ (Zt (by simpa using hl) fun j w hw=>?_)
    obtain ⟨t',e'⟩:=h (j + 1) w (by simpa using hw)
    exact ⟨t',by rw [e',show k + (j + 1) = k + 1 + j by omega]⟩
def za9 (vs:List V) (H:Hp) (Q:V -> Hp -> Prop):Prop:=∃ j c:Int,vs = [.int 0,.int j,.int c] /\ 0 <= j /\ j <= 1000000 /\ 0 < c /\ c <= 1000000 /\ ∀ l m,H l = none -> ((m:Nat):Int) = (if 0 < j then (j - 1) / c + 1 else 0) -> Q (.ref l) (upd H l (.lst ((List.range m).map fun i:Nat=>V.int ((i:Int) * c))))
section
variable {X:Cx}
theorem wE {a b c:Expr} {ta:TA} {p p2 pos pos2:Pos} (hc:X.calm = true) (hg:Gl X "list") (hm:X.mg "list" = none) (hg2:Gl X "range") (hm2:X.mg "range" = none) (hv:bootBuiltins "list" = some (.type "list")) (ha:PA X [a,b,c] ta)
    (hs:starEach [a,b,c] X.env = [(false,eval a X.env),(false,eval b X.env),(false,eval c X.env)]:=by rfl) (hs2:starEach [b,c] X.env = [(false,eval b X.env),(false,eval c X.env)]:=by rfl)
    (he:starEach [.Call (.Name "range" p2) [a,b,c] [] pos2] X.env = [(false,eval (.Call (.Name "range" p2) [a,b,c] [] pos2) X.env)]:=by rfl) :
    PE X (.Call (.Name "list" p) [.Call (.Name "range" p2) [a,b,c] [] pos2] [] pos) (fun σ H Q=>ta σ H fun vs H1=>za9 vs H1 Q):=by
  intro pins s σ H Q I h
  refine wpAny_Call_Name_kw (qZ I hg hm hv ?_ (by decide) (by decide))
  refine PyProof.Rows.callWith_type1 ?_ he rfl
  rw [he]
  refine Calls.spliced_cons ?_
  refine Call_ (qZ I hg2 hm2 boot_range (PyProof.Rows.callWith_type1 (thn (ha pos2 pins s σ H _ I h) fun us s1 ⟨vs,H1,I1,r1,q1⟩=>?_) (by rw [hs,hs2]) (by rw [hs2];rfl)))
  obtain ⟨j,c,e,j0,j1,c0,c1,q⟩:=q1
  subst e
  cases r1 with
  | cons r rr=>
    cases rr with
    | cons r' rr=>
      cases rr with
      | cons r'' rr=>
        cases rr
        obtain ⟨t,rfl⟩:=r
        obtain ⟨t',rfl⟩:=r'
        obtain ⟨t'',rfl⟩:=r''
        refine call_range_3 (by omega) (Calls.spliced_nil ?_) (Or.inl (PyProof.noPylong_small (by omega)))
        have I2:Inv X pins σ H1 { s1 with heap:=s1.heap.push { cls:=.type "range",data:=.fields #[.int 0 t,.int j t',.int c t''] },toks:=s1.toks }:=I1.kept fun b o e=>Heap.get?_push_of_some _ e
        have a2:0 < j -> 0 <= (j - 1) / c /\ (j - 1) / c <= j - 1:=fun h=>⟨Int.ediv_nonneg (by omega) (by omega),Int.ediv_le_self _ (by omega)⟩
        obtain ⟨m,em⟩:∃ m:Nat,((m:Nat):Int) = (if 0 < j then (j - 1) / c + 1 else 0):=⟨((if 0 < j then (j - 1) / c + 1 else 0:Int)).toNat,by split <;> omega⟩
        have ml:m <= 1000001:=by
          split at em
          · have:=a2 (by assumption);omega
          · omega
        refine call_list_range (n:=m) (I.ok.hd hc) (IsRange.new ..) (Vp j0 j1 c0 c1) (by rw [xx _ c0];exact em.symm) (by omega) fun h' tk acc' c' keep get items=>?_
        refine ⟨.ref _,_,I2.laid (t':=tk) (o:=.lst ((List.range m).map fun i:Nat=>V.int ((i:Int) * c))) keep (Nat.le_refl _) ?_,rfl,q _ m (I2.hok.fresh (Nat.le_refl _)) em⟩
        refine ⟨by rw [List.length_map,List.length_range,sizeLine_eq];omega,acc'.toList,c',?_,by rw [Array.toArray_toList];exact get⟩
        rw [List.range_eq_range']
        refine Zt (by rw [Array.length_toList];exact items.1) fun i v hv=>?_
        obtain ⟨t',e'⟩:=items.2 i v (by simpa using hv)
        exact ⟨t',by rw [e'];congr 1;rw [Int.zero_add,Nat.zero_add]⟩
end
def zw (i:Nat):Stmt:=PySem.Challenge.pw_pickboard_k75_whole_fewest_changes_of_ti.main.body.getD i (.Pass ⟨0,0,0,0⟩)
structure Blt (mg:Str -> Option Value):Prop where
  abs:mg "abs" = none
  all:mg "all" = none
  divmod:mg "divmod" = none
  enumerate:mg "enumerate" = none
  int:mg "int" = none
  isinstance:mg "isinstance" = none
  len:mg "len" = none
  list:mg "list" = none
  max:mg "max" = none
  min:mg "min" = none
  range:mg "range" = none
  str:mg "str" = none
  tuple:mg "tuple" = none
  bool:mg "bool" = none
  zip:mg "zip" = none
  sum:mg "sum" = none
  any:mg "any" = none
  repr:mg "repr" = none
  sorted:mg "sorted" = none
  dict:mg "dict" = none
  set:mg "set" = none
theorem wt:bootBuiltins "abs" = some (.builtin "abs"):=by decide +kernel
theorem WC:bootBuiltins "max" = some (.builtin "max"):=by decide +kernel
theorem xE:bootBuiltins "min" = some (.builtin "min"):=by decide +kernel
theorem Qh:bootBuiltins "divmod" = some (.builtin "divmod"):=by decide +kernel
theorem WD:bootBuiltins "int" = some (.type "int"):=by decide +kernel
theorem qK:bootBuiltins "list" = some (.type "list"):=by decide +kernel
theorem QS:bootBuiltins "tuple" = some (.type "tuple"):=by decide +kernel
theorem Qg:bootBuiltins "str" = some (.type "str"):=by decide +kernel
theorem z7:bootBuiltins "sorted" = some (.builtin "sorted"):=by decide +kernel
theorem qR:bootBuiltins "set" = some (.type "set"):=by decide +kernel
theorem Vc:bootBuiltins "dict" = some (.type "dict"):=by decide +kernel
def Ve (i:Int):Int:=if i < 0 then -i else i
def za7:Str:= "abcdefghijklmnopqrstuvwxyz"
def ZZ (c:Nat):Bool:=decide (97 <= c) && decide (c <= 122)
theorem V8:za7.cps.toList = List.range' 97 26:=by decide +kernel
def BoxAt (H:Hp) (b:Addr) (n:Int):Prop:=∃ b0 b1 b2:Int,H b = some (.lst [.int b0,.int b1,.int b2]) /\ 0 <= b0 /\ 0 <= b1 /\ b1 < 2147483648 /\ 0 <= b2 /\ b2 <= n
def SameB (b:Addr) (H H':Hp):Prop:=∀ c o,H c = some o -> c ≠ b -> H' c = some o
theorem vg {i j:Int} (h1:0 <= i) (h2:i < 18446744073709551616):CMul i j:=by
  have e1:(-(2 ^ 64):Int) = -18446744073709551616:=by decide
  have e2:((2 ^ 64):Int) = 18446744073709551616:=by decide
  refine .inl ⟨?_,?_⟩
  · rw [e1];omega
  · rw [e2];exact h2
theorem Y6 {a m j:Int} (h:0 < m) (h2:m < 18446744073709551616):CMul (a % m) j:=vg (Int.emod_nonneg _ (by omega)) (Int.lt_trans (Int.emod_lt_of_pos _ h) h2)
section
variable {P:Program} {w:World} {K:PySem.W.Frag} {mg:Str -> Option Value} {base:Heap}
inductive Zx (vs:List V) (H:Hp) (Q:VK):Prop
  | mk (b:Addr) (size n:Int) (_:vs = [.ref b,.int size]) (_:BoxAt H b n) (_:n < 1099511627776) (_:0 < size) (_:size < 1073741824) (_:∀ (r:Int) H',0 <= r -> r < size -> BoxAt H' b (n + 1) -> SameB b H H' -> Q (.int r) H'):Zx  vs H Q
def jM:Sp:=fun vs H Q _=>Zx  vs H Q
theorem Vt:zJ ["_law_box_here", "_law_size", "_law_found", "_law_step", "_law_once", "_law_twice"] ["_law_box_here", "_law_size"] (zo (zw 10)):=⟨rfl,rfl,rfl,by decide +kernel,rfl,by decide +kernel,by decide +kernel⟩
theorem Yf {f:Addr} {fd:FuncData} (F:Fun K "_law_take" "_law_take" (zw 10) f fd) (B:Blt mg):qC P w K mg base CX0 1 f fd ["_law_box_here", "_law_size"] jM:=by
  have nd:=Vt.nd
  refine F.ok Vt (fun vs H Q E h=>?_) (fun cdv A outer s H vs Q E hr h=>?_)
  · obtain ⟨b,size,n,rfl,_⟩:=h
    rfl
  · obtain ⟨b,size,n,rfl,⟨b0,b1,b2,hb,p0,p1,p1',p2,p2'⟩,hn,hs0,hs1,k⟩:=h
    refine ⟨_,(zi (jf (zR vV (qf zP (pv 0) zk (fun _ _=>rfl)) zk (zO _))
      (zi (xV (zq Qf rfl B.divmod Qh (zc (qf zP (pv 0) zk (fun _ _=>rfl)) (zc (pv 1) zg))) (jQ rfl (zV (vO (pv 0) zk jN) (zV (zB (i:=2) nd rfl (Or.inl rfl)) jg))))
        (zr (zI (pv 2))))
      qw)
      (zi (xV (zA zN (qf zP (pv 0) zk (fun _ _=>rfl)) zk) (vO (pv 0) zk jN))
      (zi (zx (i:=3) nd rfl (Or.inl rfl) (zA zN zk (zA jr (qf zP (pv 0) zk (fun _ _=>rfl)) (qf zP (pv 0) zk (fun _ _=>rfl)))))
      (zi (zx (i:=4) nd rfl (Or.inl rfl) (zA qX (zA jr (zA zN (qf zP (pv 0) zk (fun _ _=>rfl)) (zA jr zk (qf zP (pv 0) zk (fun _ _=>rfl)))) (pv 3)) zk))
      (zi (zx (i:=5) nd rfl (Or.inl rfl) (zA qX (zA zN (zA jr (pv 4) (zA zN (zA qX (pv 4) zk) zk)) (qf zP (pv 0) zk (fun _ _=>rfl))) zk))
      (zr (zI (zA qX (zA yT (zA qX (zA jr (pv 5) (zA zN (zA qX (pv 5) zk) zk)) zk) zk) (pv 1))))))))),?_⟩
    refine ⟨_,rfl,b,_,_,_,rfl,rfl,SqL.of hb,rfl,_,_,rfl,rfl,_,rfl,?_⟩
    refine jU (fun c=>?_) (fun c=>?_)
    · refine ⟨_,rfl,b,_,_,_,rfl,rfl,SqL.of hb,rfl,_,rfl,_,_,rfl,⟨hs0,hs1⟩,fun p hp=>?_⟩
      have hbp:b ≠ p:=zj hb hp
      refine ⟨p,_,rfl,SqT.of zf,rfl,_,_,rfl,_,rfl,b,_,_,_,rfl,rfl,(by rw [zu hbp];exact hb),rfl,_,_,rfl,rfl,_,rfl,?_⟩
      refine k _ _ (Int.emod_nonneg _ (by omega)) (Int.emod_lt_of_pos _ hs0) ⟨_,b1,b2,zf,Int.ediv_nonneg p0 (by omega),p1,p1',p2,by omega⟩ fun d o e hd=>?_
      rw [zu hd,zu (zj e hp)]
      exact e
    · refine ⟨_,rfl,b,_,_,_,rfl,rfl,SqL.of hb,rfl,_,_,rfl,rfl,_,rfl,b,_,_,_,rfl,rfl,hb,rfl,?_⟩
      have hb1:upd H b (.lst [.int b0,.int b1,.int (b2 + 1)]) b = some (.lst [.int b0,.int b1,.int (b2 + 1)]):=zf
      refine ⟨_,rfl,b,_,_,_,rfl,rfl,SqL.of hb1,rfl,_,rfl,b,_,_,_,rfl,rfl,SqL.of hb1,rfl,_,_,rfl,rfl,vg (by omega) (by omega),_,_,rfl,rfl,?_⟩
      refine ⟨_,rfl,b,_,_,_,rfl,rfl,SqL.of hb1,rfl,_,rfl,b,_,_,_,rfl,rfl,SqL.of hb1,rfl,_,_,rfl,rfl,vg (by omega) (by omega),_,_,rfl,rfl,_,rfl,_,_,rfl,rfl,vg (by omega) (by omega),_,_,rfl,rfl,(by show (0:Int) < _;decide),?_⟩
      refine ⟨_,rfl,_,rfl,_,_,rfl,rfl,(by show (0:Int) < _;decide),_,_,rfl,rfl,_,_,rfl,rfl,Y6 (by decide) (by decide),_,rfl,b,_,_,_,rfl,rfl,SqL.of hb1,rfl,_,_,rfl,rfl,_,_,rfl,rfl,(by show (0:Int) < _;decide),?_⟩
      refine ⟨_,rfl,_,rfl,_,_,rfl,rfl,(by show (0:Int) < _;decide),_,_,rfl,rfl,_,_,rfl,rfl,Y6 (by decide) (by decide),_,_,rfl,rfl,(by show (0:Int) < _;decide),_,_,rfl,rfl,⟨by decide,by decide⟩,_,rfl,_,_,rfl,rfl,hs0,?_⟩
      refine k _ _ (Int.emod_nonneg _ (by omega)) (Int.emod_lt_of_pos _ hs0) ⟨b0,b1,b2 + 1,hb1,p0,p1,p1',by omega,by omega⟩ fun d o e hd=>?_
      rw [zu hd]
      exact e
inductive Jb (K:PySem.W.Frag) (vs:List V) (H:Hp) (Q:VK):Prop
  | mk (a:Addr) (ns:List Int) (j:Nat) (_:vs = [.ref a,.int j]) (_:SqL K H a (ns.map V.int)) (_:j <= 100) (_:∀ p o,H p = none -> BoxAt (upd H p o) p 0 -> Q (.ref p) (upd H p o)):Jb K vs H Q
def Vo (K:PySem.W.Frag):Sp:=fun vs H Q _=>Jb K vs H Q
theorem YT:zJ ["_law_script", "_law_k", "_law_cell"] ["_law_script", "_law_k"] (zo (zw 9)):=⟨rfl,rfl,rfl,by decide +kernel,rfl,by decide +kernel,by decide +kernel⟩
theorem JP {c:Int} {j:Nat} (hj:j <= 100):CMul (Ve c) (if decide (10 ^ 18 <= Ve c) = true then 1 else 0):=by
  refine .inr ?_
  split
  · exact ⟨by decide,by decide⟩
  · exact ⟨by decide,by decide⟩
theorem WB {c:Int}:0 <= Ve c * (if decide (10 ^ 18 <= Ve c) = true then 1 else 0):=by
  have h:0 <= Ve c:=by unfold Ve;split <;> omega
  split
  · rw [Int.mul_one];exact h
  · rw [Int.mul_zero];exact Int.le_refl 0
theorem zaB {f:Addr} {fd:FuncData} (F:Fun K "_law_box" "_law_box" (zw 9) f fd) (B:Blt mg):qC P w K mg base CX0 1 f fd ["_law_script", "_law_k"] (Vo K):=by
  have nd:=YT.nd
  refine F.ok YT (fun vs H Q E h=>?_) (fun cdv A outer s H vs Q E hr h=>?_)
  · obtain ⟨a,ns,j,rfl,_⟩:=h
    rfl
  · obtain ⟨a,ns,j,rfl,hS,hj,k⟩:=h
    refine ⟨_,(zi (zx (i:=2) nd rfl (Or.inl rfl) (xy (zR Jv (pv 1) (zq zy rfl B.len boot_len (zc (pv 0) zg)) (zO _)) (qf zP (pv 0) (pv 1) (fun _ _=>rfl)) zk))
      (zr (zI (z9 (zc (zA jr (zq wq rfl B.abs wt (zc (pv 2) zg)) (zK X9 rfl B.int WD (zc (jh Jw (zq wq rfl B.abs wt (zc (pv 2) zg)) (zA zav zk zk) (zO _)) zg))) (zc (zA qX (zA jr (zA zN (zA zN (zA qX (pv 2) zk) (zA jr zk (pv 1))) zk) zk) zk) (zc zk zg))))))),?_⟩
    refine ⟨_,rfl,_,rfl,a,_,rfl,.inl hS,_,_,rfl,rfl,_,rfl,?_⟩
    refine jU (fun c=>?_) (fun c=>?_)
    · have hl:j < ns.length:=by
        have:=of_decide_eq_true c
        rw [List.length_map] at this
        omega
      refine ⟨_,rfl,_,rfl,a,_,_,.int ns[j],rfl,rfl,hS,jp (by simp [hl]),?_⟩
      generalize ns[j] = z
      refine ⟨_,rfl,_,rfl,_,rfl,_,rfl,_,_,rfl,rfl,⟨by decide,by decide,by decide⟩,_,_,rfl,rfl,.inr ⟨_,rfl,_,_,rfl,rfl,JP hj,_,rfl,_,_,rfl,rfl,(by show (0:Int) < _;decide),_,rfl,_,_,rfl,rfl,vg (by decide) (by decide),_,_,rfl,rfl,_,_,rfl,rfl,_,_,rfl,rfl,?_,_,_,rfl,rfl,(by show (0:Int) < _;decide),(by rw [sizeLine_eq];exact (by decide:3 <= 16777216)),fun p hp=>k p _ hp ⟨_,_,_,zf,?_,?_,?_,by decide,by decide⟩⟩⟩
      · refine vg ?_ ?_
        · have:=Int.emod_nonneg z (show (2147483629:Int) ≠ 0 by decide)
          omega
        · have:=Int.emod_lt_of_pos z (show (0:Int) < 2147483629 by decide)
          omega
      · exact WB
      · exact Int.emod_nonneg _ (by decide)
      · exact Int.lt_trans (Int.emod_lt_of_pos _ (by decide)) (by decide)
    · refine ⟨_,rfl,_,rfl,_,rfl,_,rfl,_,_,rfl,rfl,⟨by decide,by decide,by decide⟩,_,_,rfl,rfl,.inr ⟨_,rfl,_,_,rfl,rfl,JP hj,_,rfl,_,_,rfl,rfl,(by show (0:Int) < _;decide),_,rfl,_,_,rfl,rfl,vg (by decide) (by decide),_,_,rfl,rfl,_,_,rfl,rfl,_,_,rfl,rfl,?_,_,_,rfl,rfl,(by show (0:Int) < _;decide),(by rw [sizeLine_eq];exact (by decide:3 <= 16777216)),fun p hp=>k p _ hp ⟨_,_,_,zf,?_,?_,?_,by decide,by decide⟩⟩⟩
      · refine vg ?_ ?_
        · have:=Int.emod_nonneg 0 (show (2147483629:Int) ≠ 0 by decide)
          omega
        · have:=Int.emod_lt_of_pos 0 (show (0:Int) < 2147483629 by decide)
          omega
      · exact WB
      · exact Int.emod_nonneg _ (by decide)
      · exact Int.lt_trans (Int.emod_lt_of_pos _ (by decide)) (by decide)
end
theorem Wy {xs:List V} {lo hi:Option Int} {x:V} (h:x ∈ qv xs lo hi):x ∈ xs:=List.mem_of_mem_drop (List.mem_of_mem_take h)
theorem JG {n j:Nat} (h:j < n):ixN n (j:Int) = some j:=by
  unfold ixN
  rw [if_pos (by omega),if_pos (by omega)];simp
theorem Wz (ns:List Int) (lo hi:Option Int):∃ ms:List Int,qv (ns.map V.int) lo hi = ms.map V.int:=by
  refine ⟨(ns.drop (HT.sIx ns.length 0 lo)).take (HT.sIx ns.length ns.length hi - HT.sIx ns.length 0 lo),?_⟩
  unfold qv
  rw [List.length_map,List.map_take,List.map_drop]
theorem YD (ns:List Int) (z:Nat):(qv (ns.map V.int) none (some (z:Int))).length = min z ns.length:=by
  unfold qv
  rw [HT.sIx_nat,HT.sIx_none,List.length_take,List.length_drop,List.length_map]
  omega
theorem YE (ns:List Int) (z:Nat) (hi:Option Int):(qv (ns.map V.int) (some (z:Int)) hi).length <= ns.length - min z ns.length:=by
  unfold qv
  rw [HT.sIx_nat,List.length_take,List.length_drop,List.length_map]
  omega
section
variable {P:Program} {w:World} {K:PySem.W.Frag} {mg:Str -> Option Value} {base:Heap}
inductive ZC (K:PySem.W.Frag) (vs:List V) (H:Hp) (Q:VK):Prop
  | mk (a:Addr) (ns:List Int) (z:Nat) (_:vs = [.ref a,.int z]) (_:SqL K H a (ns.map V.int)) (_:ns.length <= 63) (_:1 <= z) (_:z <= 63) (_:∀ (p:Addr) (ms:List Int) H',Same H H' -> SqL K H' p (ms.map V.int) -> ms.length <= z -> Q (.ref p) H'):ZC K vs H Q
def Qw (K:PySem.W.Frag):Sp:=fun vs H Q _=>ZC K vs H Q
theorem Vy:zJ ["_law_script", "_law_size", "_law_cells", "_law_k", "_law_cell"] ["_law_script", "_law_size"] (zo (zw 11)):=⟨rfl,rfl,rfl,by decide +kernel,rfl,by decide +kernel,by decide +kernel⟩
def Xl (a:_) (z:Nat) (p:_) (H:_) (q:_) (ns:List Int):=fun (i:Nat) (σ:St) (H2:Hp)=>(Ex3 fun (ms:List Int) (v3 v4:Option V)=>An5 (σ = [some (.ref a),some (.int z),some (.ref p),v3,v4]) (Same H H2) (H2 p = some (.lst (ms.map V.int))) (H2 q = some (.lst (qv (ns.map V.int) (some (z:Int)) (some 63)))) (ms.length = min z ns.length):Prop)
theorem Yk {f:Addr} {fd:FuncData} (F:Fun K "_law_folded" "_law_folded" (zw 11) f fd) (B:Blt mg):qC P w K mg base CX0 1 f fd ["_law_script", "_law_size"] (Qw K):=by
  have nd:=Vy.nd
  refine F.ok Vy (fun vs H Q E h=>?_) (fun cdv A outer s H vs Q E hr h=>?_)
  · obtain ⟨a,ns,z,rfl,_⟩:=h
    rfl
  · obtain ⟨a,ns,z,rfl,hS,hlen,hz1,hz2,k⟩:=h
    refine ⟨_,(zi (zx (i:=2) nd rfl (Or.inl rfl) (zK jF rfl B.list qK (zc (zW qh (pv 0) qz (zX (pv 1))) zg)))
      (zi (zU PassesOwn.never rfl (yP rfl B.enumerate (zc (zW qh (pv 0) (zX (pv 1)) (zX zk)) zg)) (jQ rfl (zV (zB (i:=3) nd rfl (Or.inl rfl)) (zV (zB (i:=4) nd rfl (Or.inl rfl)) jg)))
      (zr (xV (zA zN (qf zP (pv 2) (zA qX (pv 3) (pv 1)) (fun _ _=>rfl)) (zA jr (pv 4) (zA zN (pv 3) zk))) (vO (pv 2) (zA qX (pv 3) (pv 1)) jN))))
      (zr (zI (pv 2))))),?_⟩
    refine ⟨_,rfl,_,rfl,_,rfl,a,_,rfl,hS,fun l hl=>⟨l,_,rfl,.inl (SqL.of zf),fun p hp=>?_⟩⟩
    have s1:Same H (upd (upd H l (.lst (qv (ns.map V.int) none (some (z:Int))))) p (.lst (qv (ns.map V.int) none (some (z:Int))))):=(ze hl).trans (ze hp)
    generalize hH1:upd (upd H l (.lst (qv (ns.map V.int) none (some (z:Int))))) p (.lst (qv (ns.map V.int) none (some (z:Int)))) = H1 at s1
    have hp1:H1 p = some (.lst (qv (ns.map V.int) none (some (z:Int)))):=by rw [<- hH1];exact zf
    have np:H p = none:=(ze hl).free hp
    refine ⟨_,rfl,_,rfl,_,rfl,_,rfl,a,_,rfl,s1.seq hS,fun q hq=>⟨q,rfl,⟨_,SqL.of zf⟩,?_⟩⟩
    have npq:p ≠ q:=zj hp1 hq
    obtain ⟨ms0,hms0⟩:=Wz ns none (some (z:Int))
    have lo:=YD ns z
    have hi:=YE ns z (some 63)
    refine Z3 (K:=K) (a:=q) (xs:=qv (ns.map V.int) (some (z:Int)) (some 63)) (Xl a z p H q ns)
      ⟨ms0,none,none,rfl,s1.trans (ze hq),by rw [zu npq,hp1,hms0],zf,by rw [<- lo,hms0,List.length_map]⟩ (fun i σ H2 _ ⟨_,_,_,_,_,_,h,_⟩=>SqL.of h) ?_ ?_
    · rintro i x σ H2 T hx ⟨ms,v3,v4,rfl,sm,hp2,hq2,hml⟩ hT
      have hil:i < (qv (ns.map V.int) (some (z:Int)) (some 63)).length:=(List.getElem?_eq_some_iff.mp hx).1
      obtain ⟨c,rfl⟩:∃ c,x = V.int c:=by
        have:=Wy (List.mem_of_getElem? hx)
        obtain ⟨c,_,e⟩:=List.mem_map.mp this
        exact ⟨c,e.symm⟩
      have hj:i % z < ms.length:=by
        have:=Nat.mod_lt i (show 0 < z by omega)
        omega
      have npT:p ≠ T:=zj hp2 hT
      have nqT:q ≠ T:=zj hq2 hT
      have hp3:upd H2 T (.tup [.int i,.int c]) p = some (.lst (ms.map V.int)):=by rw [zu npT];exact hp2
      have em:((i % z:Nat):Int) = (i:Int) % (z:Int):=Int.natCast_emod i z
      have hz0:(0:Int) < (z:Int):=by omega
      refine ⟨T,_,rfl,SqT.of zf,rfl,_,_,rfl,_,_,rfl,rfl,?_⟩
      refine ⟨_,rfl,_,rfl,_,rfl,_,_,rfl,rfl,hz0,p,_,_,.int ms[i % z],rfl,rfl,SqL.of hp3,(by rw [<- em];exact jp (by simp [hj])),?_⟩
      refine ⟨_,rfl,_,rfl,_,_,rfl,rfl,_,_,rfl,rfl,.inr ⟨?_,?_⟩,_,_,rfl,rfl,?_⟩
      · have e1:(-(2 ^ 64):Int) = -18446744073709551616:=by decide
        rw [e1];omega
      · have e2:((2 ^ 64):Int) = 18446744073709551616:=by decide
        rw [e2];omega
      refine ⟨_,rfl,_,rfl,_,rfl,_,_,rfl,rfl,hz0,p,_,_,i % z,rfl,rfl,hp3,(by rw [<- em,List.length_map];exact JG hj),?_⟩
      refine ⟨ms.set (i % z) (ms[i % z] + c * ((i:Int) + 2)),_,_,rfl,fun d o e=>?_,by rw [zf,List.map_set],?_,by rw [List.length_set];exact hml⟩
      · rw [zu (zj e np),zu (zj (sm d o e) hT)]
        exact sm d o e
      · rw [zu (Ne.symm npq),zu nqT]
        exact hq2
    · rintro σ H2 ⟨ms,v3,v4,rfl,sm,hp2,hq2,hml⟩
      exact ⟨_,rfl,k p ms H2 sm (SqL.of hp2) (by omega)⟩
end
theorem le0:([]:List V).length <= sizeLine:=Nat.zero_le _
theorem le2 {x y:V}:[x,y].length <= sizeLine:=by rw [sizeLine_eq];exact (by decide:2 <= 16777216)
theorem SameB.refl (b:Addr) (H:Hp):SameB b H H:=fun _ _ e _=>e
theorem SameB.trans {b:Addr} {H H1 H2:Hp} (a:SameB b H H1) (c:SameB b H1 H2):SameB b H H2:=fun d o e hd=>c d o (a d o e hd) hd
theorem SameB.of {b:Addr} {H H1:Hp} (a:Same H H1):SameB b H H1:=fun d o e _=>a d o e
theorem SameB.new {b p:Addr} {o:HO} {H H1:Hp} (a:SameB b H H1) (h:H1 p = none):SameB b H (upd H1 p o):=a.trans (.of (ze h))
theorem BoxAt.new {b p:Addr} {o:HO} {H:Hp} {n:Int} (a:BoxAt H b n) (h:H p = none):BoxAt (upd H p o) b n:=by
  obtain ⟨b0,b1,b2,e,r⟩:=a
  exact ⟨b0,b1,b2,by rw [zu (zj e h)];exact e,r⟩
theorem BoxAt.same {b:Addr} {H H':Hp} {n:Int} (a:BoxAt H b n) (s:Same H H'):BoxAt H' b n:=by
  obtain ⟨b0,b1,b2,e,r⟩:=a
  exact ⟨b0,b1,b2,s _ _ e,r⟩
theorem BoxAt.ne {b t:Addr} {H:Hp} {n:Int} {o:HO} (a:BoxAt H b n) (h:H t = some o) (hl:∀ x y z,o ≠ .lst [x,y,z]):t ≠ b:=by
  obtain ⟨b0,b1,b2,e,r⟩:=a
  exact V2 h e (hl _ _ _)
theorem BoxAt.some {b:Addr} {H:Hp} {n:Int} (a:BoxAt H b n):∃ o,H b = .some o:=let ⟨_,_,_,e,_⟩:=a;⟨_,e⟩
theorem BoxAt.mono {b:Addr} {H:Hp} {n m:Int} (a:BoxAt H b n) (h:n <= m):BoxAt H b m:=by
  obtain ⟨b0,b1,b2,e,p0,p1,p2,p3,p4⟩:=a
  exact ⟨b0,b1,b2,e,p0,p1,p2,p3,by omega⟩
theorem le1 {x:V}:[x].length <= sizeLine:=by rw [sizeLine_eq];exact (by decide:1 <= 16777216)
theorem le4 {x y z u:V}:[x,y,z,u].length <= sizeLine:=by rw [sizeLine_eq];exact (by decide:4 <= 16777216)
theorem WF {α:Type} {xs:List α} {i:Int} (h:0 <= i) (h':i < xs.length):∃ v,atI xs i = some v /\ xs[i.toNat]? = some v:=by
  have hl:i.toNat < xs.length:=by omega
  refine ⟨xs[i.toNat],?_,by simp [hl]⟩
  have:=jp (xs:=xs) (j:=i.toNat) (v:=xs[i.toNat]) (by simp [hl])
  rwa [show ((i.toNat:Nat):Int) = i by omega] at this
theorem fm {α:V -> Prop} {x:V} {xs:List V} (h:α x) (hs:∀ y ∈ xs,α y):∀ y ∈ x :: xs,α y:=fun y hy=>(List.mem_cons.mp hy).elim (fun e=>e ▸ h) (hs y)
theorem SameB.put {b m:Addr} {H H':Hp} {o:HO} (s:SameB b H H') (h:H m = none):SameB b H (upd H' m o):=fun c u e hc=>by
  rw [zu (zj e h)];exact s c u e hc
theorem SameB.none {b m:Addr} {H H':Hp} (s:SameB b H H') (h:H' m = none) (hm:m ≠ b):H m = none:=by
  cases q:H m with
  | none=>rfl
  | some o=>have:=s m o q hm;rw [h] at this;cases this
def jR (x:Str):Prop:=(x.cps.toList.map ZZ).all id = true
theorem V6 {c:Nat} {y:Str} (h:ZZ c = true) (hy:jR y):jR ((⟨#[c]⟩:Str) ++ y):=by
  unfold jR at hy ⊢
  show ((#[c] ++ y.cps).toList.map ZZ).all id = true
  rw [Array.toList_append,List.map_append,List.all_append,hy,Bool.and_true]
  show (ZZ c && true) = true
  rw [h];rfl
theorem V9 {c:Nat} {y:Str}:((⟨#[c]⟩:Str) ++ y).length = y.length + 1:=by
  show (#[c] ++ y.cps).size = y.cps.size + 1
  rw [Array.size_append]
  show 1 + _ = _
  omega
theorem BoxAt.nne {b p:Addr} {H:Hp} {n:Int} (a:BoxAt H b n) (h:H p = none):p ≠ b:=by
  obtain ⟨o,e⟩:=a.some
  exact (zj e h).symm
theorem BoxAt.other {b l:Addr} {H:Hp} {n:Int} {o:HO} (a:BoxAt H b n) (h:l ≠ b):BoxAt (upd H l o) b n:=by
  obtain ⟨b0,b1,b2,e,r⟩:=a
  exact ⟨b0,b1,b2,by rw [zu (Ne.symm h)];exact e,r⟩
def Nm (x:Str):Prop:=1 <= x.length /\ x.length <= 8 /\ jR x
theorem xP:∀ (ns:List Str),(ns.map V.str).all jH = true
  | []=>rfl
  | n :: ns=>by
    show (true && (ns.map V.str).all jH) = true
    rw [xP ns];rfl
theorem JH (t:Str):∀ l:List Str,inV (.str t) (l.map V.str) = decide (t ∈ l)
  | []=>(decide_eq_false (fun z=>nomatch z)).symm
  | x :: l=>by
    show ((x == t) || inV (.str t) (l.map V.str)) = _
    rw [JH t l,Bool.eq_iff_iff,Bool.or_eq_true,decide_eq_true_iff,decide_eq_true_iff,List.mem_cons,beq_iff_eq]
    exact ⟨fun h=>h.imp Eq.symm id,fun h=>h.imp Eq.symm id⟩
section
variable {P:Program} {w:World} {K:PySem.W.Frag} {mg:Str -> Option Value} {base:Heap}
def YC:List Nat -> Int
  | []=>0
  | c :: cs=>((c:Int) - 97) * 26 ^ cs.length + YC cs
def dec (y:Str):Int:=YC y.cps.toList
theorem Wv {c:Nat} {y:Str}:dec ((⟨#[c]⟩:Str) ++ y) = ((c:Int) - 97) * 26 ^ y.length + dec y:=by
  unfold dec
  show YC (#[c] ++ y.cps).toList = _
  rw [Array.toList_append]
  show ((c:Int) - 97) * 26 ^ y.cps.toList.length + YC y.cps.toList = _
  rw [Array.length_toList];rfl
theorem Yr {r:Int} (h0:0 <= r) (h1:r < 26):∃ c:Nat,atI za7.cps.toList r = some c /\ ZZ c = true /\ (c:Int) = 97 + r:=by
  rw [V8]
  obtain ⟨c,e,e'⟩:=WF (xs:=List.range' 97 26) h0 (by rw [List.length_range'];omega)
  have hm:=List.mem_range'_1.mp (List.mem_of_getElem? e')
  have hc:c = 97 + r.toNat:=by
    rw [List.getElem?_range' (by omega)] at e'
    have:=Option.some.inj e'
    omega
  refine ⟨c,e,?_,by omega⟩
  unfold ZZ
  rw [decide_eq_true (by omega),decide_eq_true (by omega)]
  rfl
theorem Wu {num dy p:Int} {i:Nat} {r:Int} (h:num * 26 ^ i + dy = p) (hr:r = num % 26):num / 26 * 26 ^ (i + 1) + (r * 26 ^ i + dy) = p:=by
  have e:=Int.emod_add_mul_ediv num 26
  rw [<- h,Int.pow_succ,<- Int.mul_assoc,Int.mul_right_comm,<- Int.add_assoc,<- Int.add_mul,hr]
  congr 2
  omega
theorem Wl {y:Str} {us ts:List Str} (nd:(y :: us).Nodup) (sb:∀ u ∈ us,u ∈ ts) (hl:us.length = ts.length):y ∉ ts:=by
  obtain ⟨n1,n2⟩:=List.nodup_cons.mp nd
  have key:∀ (us ts:List Str),us.Nodup -> (∀ u ∈ us,u ∈ ts) -> us.length = ts.length -> ∀ t ∈ ts,t ∈ us:=by
    intro us
    induction us with
    | nil=>intro ts _ _ hl t ht;cases ts with
      | nil=>cases ht
      | cons a l=>cases hl
    | cons u us ih=>
      intro ts nd sb hl t ht
      obtain ⟨m1,m2⟩:=List.nodup_cons.mp nd
      by_cases e:t = u
      · rw [e];exact List.mem_cons_self
      · refine List.mem_cons_of_mem _ (ih (ts.erase u) m2 (fun x hx=>?_) ?_ t ?_)
        · exact (List.mem_erase_of_ne (fun z:x = u=>m1 (z ▸ hx))).mpr (sb x (List.mem_cons_of_mem _ hx))
        · rw [List.length_erase_of_mem (sb u List.mem_cons_self)]
          rw [List.length_cons] at hl
          omega
        · exact (List.mem_erase_of_ne e).mpr ht
  exact fun h=>n1 (key us ts n2 sb hl y h)
inductive wT (vs:List V) (H:Hp) (Q:VK):Prop
  | mk (num size:Int) (_:vs = [.int num,.int size]) (_:0 <= num) (_:1 <= size) (_:size <= 8) (_:∀ (y:Str) (q:Int),(y.length:Int) = size -> jR y -> q * 26 ^ size.toNat + dec y = num -> Q (.str y) H):wT  vs H Q
def yD:Sp:=fun vs H Q _=>wT  vs H Q
theorem Jc:zJ ["_law_number", "_law_size", "_law_word", "_law_k"] ["_law_number", "_law_size"] (zo (zw 12)):=⟨rfl,rfl,rfl,by decide +kernel,rfl,by decide +kernel,by decide +kernel⟩
def Xk (size:_) (num:_) (H:_):=fun (i:Nat) (σ:St) (H4:Hp)=>(Ex3 fun (num':Int) (y:Str) (v3:Option V)=>An6 (σ = [some (.int num'),some (.int size),some (.str y),v3]) (0 <= num') (y.length = i) (jR y) (num' * 26 ^ i + dec y = num) (H4 = H):Prop)
theorem VS {f:Addr} {fd:FuncData} (F:Fun K "_law_spelled" "_law_spelled" (zw 12) f fd) (B:Blt mg):qC P w K mg base CX0 1 f fd ["_law_number", "_law_size"] yD:=by
  have nd:=Jc.nd
  refine F.ok Jc (fun vs H Q E h=>?_) (fun cdv A outer s H vs Q E hr h=>?_)
  · obtain ⟨num,size,rfl,_⟩:=h
    rfl
  · obtain ⟨num,size,rfl,n0,s0,s1,k⟩:=h
    have hbig:100000 < sizeLine:=by rw [sizeLine_eq];decide
    have e62:(2:Int) ^ 62 = 4611686018427387904:=by decide
    refine ⟨_,(zi (zx (i:=2) nd rfl (Or.inl rfl) VN)
      (zi (zU PassesOwn.never rfl (qj rfl B.range (zc (pv 1) zg)) (zB (i:=3) nd rfl (Or.inl rfl))
      (zi (zx (i:=2) nd rfl (Or.inl rfl) (zA QJ (qf zaM VN (zA qX (pv 0) zk) (fun _ _=>rfl)) (pv 2)))
        (zr (zx (i:=0) nd rfl (Or.inl rfl) (zA yT (pv 0) zk)))))
      (zr (zI (pv 2))))),?_⟩
    refine ⟨_,rfl,_,rfl,(by rw [e62];omega),(by rw [e62];omega),?_⟩
    refine qB (Xk size num H) ⟨num,_,_,rfl,n0,rfl,rfl,(by show num * 1 + 0 = num;omega),rfl⟩ ?_ ?_
    · rintro i σ H4 hi ⟨num',y,v3,rfl,m0,ly,al,dy,rfl⟩
      obtain ⟨c,hc,lc,ec⟩:=Yr (r:=num' % 26) (Int.emod_nonneg _ (by decide)) (Int.emod_lt_of_pos _ (by decide))
      refine ⟨_,rfl,_,_,rfl,rfl,(by show (0:Int) < 26;decide),_,_,c,rfl,rfl,(by rw [sizeLine_eq];decide),hc,_,rfl,_,_,rfl,rfl,?_,?_⟩
      · show 1 + y.length <= sizeLine
        omega
      · exact ⟨_,rfl,_,_,rfl,rfl,⟨by decide,by decide⟩,_,_,_,rfl,Int.ediv_nonneg m0 (by decide),by rw [V9,ly],V6 lc al,(by rw [Wv,ly];exact Wu dy (by omega)),rfl⟩
    · rintro σ H4 ⟨num',y,v3,rfl,m0,ly,al,dy,rfl⟩
      exact ⟨_,rfl,k y num' (by omega) al dy⟩
inductive Q7 (vs:List V) (H:Hp) (Q:VK):Prop
  | mk (b t:Addr) (n:Int) (ts:List Str) (_:vs = [.ref b,.ref t]) (_:BoxAt H b n) (_:n < 1099511000000) (_:t ≠ b) (_:H t = some (.lst (ts.map V.str))) (_:ts.length <= 1000) (_:∀ (y:Str) H',SameB b H H' -> BoxAt H' b (n + 12) -> 1 <= y.length -> y.length <= 8 -> jR y -> y ∉ ts -> Q (.str y) H'):Q7  vs H Q
def Vm:Sp:=fun vs H Q _=>Q7  vs H Q
theorem YO:zJ ["_law_box_here", "_law_taken", "_law_size", "_law_number", "_law_k", "_law_word", "_law_turn"] ["_law_box_here", "_law_taken"] (zo (zw 13)):=⟨rfl,rfl,rfl,by decide +kernel,rfl,by decide +kernel,by decide +kernel⟩
def Tried (num:Int) (ts:List Str) (y:Str) (i:Nat):Prop:=y ∉ ts \/ i = 0 \/ ∃ us:List Str,us.length + 1 = i /\ (y :: us).Nodup /\ (∀ u ∈ us,u ∈ ts) /\ ∀ u ∈ y :: us,∃ (j:Nat) (q:Int),j < i /\ q * 26 ^ 8 + dec u = num + j
theorem Tried.step {num:Int} {ts:List Str} {y y':Str} {i:Nat} (h:Tried num ts y i) (c:y ∈ ts) (hi:i <= 1000) (d:∃ q:Int,q * 26 ^ 8 + dec y' = num + i):Tried num ts y' (i + 1):=by
  obtain ⟨q,hq⟩:=d
  rcases h with h | rfl | ⟨us,h1,h2,h3,h4⟩
  · exact absurd c h
  · exact .inr (.inr ⟨[],rfl,List.nodup_cons.mpr ⟨(fun z=>nomatch z),List.Pairwise.nil⟩,(fun u z=>nomatch z),fun u hu=>⟨0,q,by omega,by rw [List.mem_singleton.mp hu];exact hq⟩⟩)
  · refine .inr (.inr ⟨y :: us,by rw [List.length_cons];omega,List.nodup_cons.mpr ⟨fun z=>?_,h2⟩,fun u hu=>?_,fun u hu=>?_⟩)
    · obtain ⟨j,q',hj,hq'⟩:=h4 y' z
      have e:(26:Int) ^ 8 = 208827064576:=by decide
      rw [e] at hq hq'
      omega
    · rcases List.mem_cons.mp hu with rfl | hu
      · exact c
      · exact h3 u hu
    · rcases List.mem_cons.mp hu with rfl | hu
      · exact ⟨i,q,by omega,hq⟩
      · obtain ⟨j,q',hj,hq'⟩:=h4 u hu
        exact ⟨j,q',by omega,hq'⟩
theorem Tried.fin {num:Int} {ts:List Str} {y:Str} {i:Nat} (h:Tried num ts y i) (hi:i = ts.length + 1):y ∉ ts:=by
  rcases h with h | rfl | ⟨us,h1,h2,h3,_⟩
  · exact h
  · omega
  · exact Wl h2 h3 (by omega)
theorem zaq {r:Int} (h0:0 <= r) (h1:r < 4):∃ z:Int,atI [V.int 3,V.int 3,V.int 3,V.int 8] r = some (.int z) /\ 3 <= z /\ z <= 8:=by
  have hc:r = 0 \/ r = 1 \/ r = 2 \/ r = 3:=by omega
  rcases hc with rfl | rfl | rfl | rfl
  · exact ⟨3,rfl,by decide,by decide⟩
  · exact ⟨3,rfl,by decide,by decide⟩
  · exact ⟨3,rfl,by decide,by decide⟩
  · exact ⟨8,rfl,by decide,by decide⟩
def Xj (b:_) (t:_) (r2:_) (H:_) (n:_):=fun (i:Nat) (σ:St) (H4:Hp)=>(Ex2 fun (num:Int) (v4:Option V)=>An4 (σ = [some (.ref b),some (.ref t),some (.int (1 + r2)),some (.int num),v4,none,none]) (0 <= num) (SameB b H H4) (BoxAt H4 b (n + 2 + i)):Prop)
def Xi (b:_) (t:_) (r2:_) (num:_) (ts:List Str) (H4:_):=fun (i:Nat) (σ:St) (H5:Hp)=>(Ex3 fun (v4 v6:Option V) (y:Str)=>An6 (σ = [some (.ref b),some (.ref t),some (.int (1 + r2)),some (.int num),v4,some (.str y),v6]) (1 <= y.length) (y.length <= 8) (jR y) (Tried num ts y i) (H5 = H4):Prop)
theorem zax {f:Addr} {fd:FuncData} (F:Fun K "_law_name" "_law_name" (zw 13) f fd) (B:Blt mg) (D_take:Dfn P w K mg base "_law_take" 1 ["_law_box_here", "_law_size"] jM) (D_spelled:Dfn P w K mg base "_law_spelled" 1 ["_law_number", "_law_size"] yD):qC P w K mg base CX0 2 f fd ["_law_box_here", "_law_taken"] Vm:=by
  have nd:=YO.nd
  refine F.ok YO (fun vs H Q E h=>?_) (fun cdv A outer s H vs Q E hr h=>?_)
  · obtain ⟨b,t,n,ts,rfl,_⟩:=h
    rfl
  · obtain ⟨b,t,n,ts,rfl,B0,hn,ntb,ht,htl,k⟩:=h
    have e62:(2:Int) ^ 62 = 4611686018427387904:=by decide
    refine ⟨_,(zi (zx (i:=2) nd rfl (Or.inl rfl) (zA zN zk (zn D_take (hr.mono (by first | decide | exact Nat.le_refl _ | omega)) rfl (zc (pv 0) (zc (qf zP (z9 (zc zk (zc zk (zc zk (zc zk zg))))) (zn D_take (hr.mono (by first | decide | exact Nat.le_refl _ | omega)) rfl (zc (pv 0) (zc zk zg))) (fun _ _=>rfl)) zg)))))
      (zi (zx (i:=3) nd rfl (Or.inl rfl) zk)
      (zi (zU PassesOwn.never rfl (qj rfl B.range (zc (pv 2) zg)) (zB (i:=4) nd rfl (Or.inl rfl))
      (zr (zx (i:=3) nd rfl (Or.inl rfl) (zA zN (zA jr (pv 3) zk) (zn D_take (hr.mono (by first | decide | exact Nat.le_refl _ | omega)) rfl (zc (pv 0) (zc zk zg)))))))
      (zi (zx (i:=5) nd rfl (Or.inl rfl) (zn D_spelled (hr.mono (by first | decide | exact Nat.le_refl _ | omega)) rfl (zc (pv 3) (zc (pv 2) zg))))
      (zi (zU PassesOwn.never rfl (qj rfl B.range (zc (zA zN (zq zy rfl B.len boot_len (zc (pv 1) zg)) zk) zg)) (zB (i:=6) nd rfl (Or.inl rfl))
      (zr (jf (zR XO (pv 5) (pv 1) (by with_unfolding_all rfl))
        (zr (zx (i:=5) nd rfl (Or.inl rfl) (zn D_spelled (hr.mono (by first | decide | exact Nat.le_refl _ | omega)) rfl (zc (zA zN (pv 3) (pv 6)) (zc zk zg)))))
        qw)))
      (zr (zI (pv 5)))))))),?_⟩
    refine ⟨_,rfl,le4,fun l hl=>⟨_,rfl,b,4,n,rfl,B0.new hl,by omega,by decide,by decide,fun r H1 r0 r1 B1 S1=>?_⟩⟩
    have L1:=S1 l _ (zf (H:=H)) ((B0.new hl).ne (zf (H:=H) (o:=.lst [.int 3,.int 3,.int 3,.int 8])) (by intro x y z e;cases e))
    have S1':=((SameB.refl b H).new (o:=.lst [.int 3,.int 3,.int 3,.int 8]) hl).trans S1
    obtain ⟨z,ez,z0,z1⟩:=zaq r0 r1
    refine ⟨l,_,_,_,rfl,rfl,SqL.of L1,ez,b,z,n + 1,rfl,B1,by omega,by omega,by omega,fun r2 H2 a0 a1 B2 S2=>⟨_,_,rfl,rfl,?_⟩⟩
    have S2':=S1'.trans S2
    refine ⟨_,rfl,_,rfl,(by rw [e62];omega),(by rw [e62];omega),?_⟩
    refine qB (Xj b t r2 H n) ⟨0,_,rfl,by decide,S2',B2.mono (by omega)⟩ ?_ ?_
    · rintro i σ H4 hi ⟨num,v4,rfl,m0,S4,B4⟩
      refine ⟨_,rfl,_,_,rfl,rfl,.inr ⟨by decide,by decide⟩,_,rfl,b,26,_,rfl,B4,by omega,by decide,by decide,fun r3 H5 c0 c1 B5 S5=>⟨_,_,rfl,rfl,_,_,rfl,?_,S4.trans S5,B5.mono (by omega)⟩⟩
      omega
    · rintro σ H4 ⟨num,v4,rfl,m0,S4,B4⟩
      refine ⟨_,rfl,_,rfl,num,1 + r2,rfl,m0,by omega,by omega,fun y _ ly al _=>?_⟩
      have ht4:=S4 t _ ht ntb
      have el:(ts.map V.str).length = ts.length:=List.length_map ..
      refine ⟨_,rfl,t,_,rfl,.inl (SqL.of ht4),_,_,rfl,rfl,_,rfl,(by rw [e62,el];omega),(by rw [e62,el];omega),?_⟩
      refine qB (Xi b t r2 num ts H4) ⟨_,_,y,rfl,by omega,by omega,al,.inr (.inl rfl),rfl⟩ ?_ ?_
      · rintro i σ H5 hi ⟨v4,v6,y,rfl,y0,y1,al,tr,rfl⟩
        have hi':i <= 1000:=by
          rw [el] at hi
          omega
        refine ⟨_,rfl,_,rfl,t,_,rfl,.inl (SqL.of ht4),rfl,xP ts,_,rfl,?_⟩
        rw [JH]
        refine jU (fun c=>?_) (fun c=>⟨_,_,y,rfl,y0,y1,al,.inl (of_decide_eq_false ((Bool.not_eq_true _).mp c)),rfl⟩)
        exact ⟨_,rfl,_,rfl,_,_,rfl,rfl,_,8,rfl,by omega,by decide,by decide,fun y' q ly' al' dy'=>⟨_,_,y',rfl,by omega,by omega,al',tr.step (of_decide_eq_true c) hi' ⟨q,(by rw [Int.zero_add] at dy';exact dy')⟩,rfl⟩⟩
      · rintro σ H5 ⟨v4,v6,y,rfl,y0,y1,al,tr,rfl⟩
        exact ⟨_,rfl,k y _ S4 (B4.mono (by omega)) y0 y1 al (tr.fin (by rw [el];omega))⟩
def Row (H:Hp) (l:Addr) (ns:List Str):Prop:=H l = some (.lst (ns.map V.str)) /\ ∀ x ∈ ns,Nm x
theorem QK {ns:List Str} {y:Str} (h:ns.Nodup) (hy:y ∉ ns):(ns ++ [y]).Nodup:=List.nodup_append.mpr ⟨h,List.nodup_cons.mpr ⟨(fun z=>nomatch z),List.Pairwise.nil⟩,fun a ha b hb e=>hy (by rw [<- List.mem_singleton.mp hb,<- e];exact ha)⟩
theorem Row.same {H H':Hp} {l:Addr} {ns:List Str} (r:Row H l ns) (s:Same H H'):Row H' l ns:=⟨s _ _ r.1,r.2⟩
theorem Row.draw {H H':Hp} {b l:Addr} {ns:List Str} (r:Row H l ns) (s:SameB b H H') (h:l ≠ b):Row H' l ns:=⟨s _ _ r.1 h,r.2⟩
inductive wY (vs:List V) (H:Hp) (Q:VK):Prop
  | mk (b:Addr) (m n:Int) (_:vs = [.ref b,.int m]) (_:BoxAt H b n) (_:n < 1000000) (_:0 <= m) (_:m <= 12) (_:∀ (l:Addr) (ns:List Str) H',SameB b H H' -> BoxAt H' b (n + 150) -> l ≠ b -> H l = none -> Row H' l ns -> ns.Nodup -> (ns.length:Int) = m -> Q (.ref l) H'):wY  vs H Q
def vF:Sp:=fun vs H Q _=>wY  vs H Q
theorem Jh:zJ ["_law_box_here", "_law_many", "_law_found", "_law_k"] ["_law_box_here", "_law_many"] (zo (zw 14)):=⟨rfl,rfl,rfl,by decide +kernel,rfl,by decide +kernel,by decide +kernel⟩
def Xh (b:_) (m:_) (l:_) (H:_) (n:_):=fun (i:Nat) (σ:St) (H4:Hp)=>(Ex2 fun (ns:List Str) (v3:Option V)=>An6 (σ = [some (.ref b),some (.int m),some (.ref l),v3]) (SameB b H H4) (BoxAt H4 b (n + 12 * i)) (Row H4 l ns) (ns.Nodup) (ns.length = i):Prop)
theorem VY {f:Addr} {fd:FuncData} (F:Fun K "_law_names" "_law_names" (zw 14) f fd) (B:Blt mg) (D_name:Dfn P w K mg base "_law_name" 2 ["_law_box_here", "_law_taken"] Vm):qC P w K mg base CX0 3 f fd ["_law_box_here", "_law_many"] vF:=by
  have nd:=Jh.nd
  refine F.ok Jh (fun vs H Q E h=>?_) (fun cdv A outer s H vs Q E hr h=>?_)
  · obtain ⟨b,m,n,rfl,_⟩:=h
    rfl
  · obtain ⟨b,m,n,rfl,B0,hn,m0,m1,k⟩:=h
    have hbig:100000 < sizeLine:=by rw [sizeLine_eq];decide
    have e62:(2:Int) ^ 62 = 4611686018427387904:=by decide
    refine ⟨_,(zi (zx (i:=2) nd rfl (Or.inl rfl) (z9 zg))
      (zi (zU PassesOwn.never rfl (qj rfl B.range (zc (pv 1) zg)) (zB (i:=3) nd rfl (Or.inl rfl))
      (zr (qU (jv PySem.F.plainAttrs_list PySem.F.slot_list_append PySem.F.type_list_append qI (pv 2) (zc (zn D_name (hr.mono (by first | decide | exact Nat.le_refl _ | omega)) rfl (zc (pv 0) (zc (pv 2) zg))) zg)))))
      (zr (zI (pv 2))))),?_⟩
    refine ⟨le0,fun l hl=>?_⟩
    have nl:=B0.nne hl
    refine ⟨_,rfl,_,rfl,(by rw [e62];omega),(by rw [e62];omega),?_⟩
    refine qB (Xh b m l H n) ⟨[],_,rfl,(SameB.refl b H).new hl,(B0.new hl).mono (by omega),⟨zf,fun x h=>nomatch h⟩,List.Pairwise.nil,rfl⟩ ?_ ?_
    · rintro i σ H4 hi ⟨ns,v3,rfl,S4,B4,R4,nnd,nsl⟩
      refine ⟨_,rfl,.inl ⟨rfl,_,SqL.of R4.1⟩,_,rfl,_,rfl,b,l,_,ns,rfl,B4,by omega,nl,R4.1,by omega,fun y H5 S5 B5 y0 y1 al fr=>⟨l,_,_,rfl,rfl,(R4.draw S5 nl).1,by rw [List.length_map,nsl];omega,?_⟩⟩
      refine ⟨ns ++ [y],_,rfl,(S4.trans S5).put hl,(B5.other nl).mono (by omega),⟨by rw [zf,List.map_append];rfl,fun x hx=>?_⟩,QK nnd fr,by rw [List.length_append,nsl];rfl⟩
      rcases List.mem_append.mp hx with q | q
      · exact R4.2 x q
      · rw [List.mem_singleton.mp q];exact ⟨by omega,by omega,al⟩
    · rintro σ H4 ⟨ns,v3,rfl,S4,B4,R4,nnd,nsl⟩
      exact ⟨_,rfl,k l ns H4 S4 (B4.mono (by omega)) nl hl R4 nnd (by omega)⟩
end
theorem zM {α:Type} {l:List α} {i:Nat} {x:α} (h:l[i]? = some x):l.take (i + 1) = l.take i ++ [x]:=by
  obtain ⟨h1,h2⟩:=List.getElem?_eq_some_iff.mp h
  rw [<- h2,List.take_append_getElem]
def nth (xs:List Str) (i:Nat):Nat:=(xs.take (i + 1)).count (xs.getD i "")
def qr (xs:List Str) (b:Str -> Nat) (n:Nat):List Nat:=(List.range n).filter fun i=>decide (b (xs.getD i "") < nth xs i)
def qM (xs:List Str) (b:Str -> Nat) (n:Nat):List Str:=(qr xs b n).map fun i=>xs.getD i ""
def inI (xs:List Str) (b:Str -> Nat) (n:Nat):List Nat:=(List.range n).filter fun i=>!decide (b (xs.getD i "") < nth xs i)
def inL (xs:List Str) (b:Str -> Nat) (n:Nat):List Str:=(inI xs b n).map fun i=>xs.getD i ""
theorem qN {xs:List Str} {i:Nat} {x:Str} (h:xs[i]? = some x):xs.getD i "" = x:=by rw [List.getD_eq_getElem?_getD,h];rfl
theorem xW {xs:List Str} {i:Nat} {x:Str} (h:xs[i]? = some x):nth xs i = (xs.take i).count x + 1:=by
  unfold nth
  rw [qN h,zM h,List.count_append]
  simp
theorem yc {xs:List Str} {b:Str -> Nat} {i:Nat} {x:Str} (h:xs[i]? = some x):qM xs b (i + 1) = qM xs b i ++ if b x < (xs.take i).count x + 1 then [x] else []:=by
  unfold qM qr
  rw [List.range_succ,List.filter_append,List.map_append]
  congr 1
  by_cases c:b x < (xs.take i).count x + 1
  · rw [if_pos c,List.filter_cons_of_pos (by rw [qN h,xW h];exact decide_eq_true c)]
    show [xs.getD i ""] = [x]
    rw [qN h]
  · rw [if_neg c,List.filter_cons_of_neg (by rw [qN h,xW h];simpa using c)]
    rfl
theorem Yu {xs:List Str} {b:Str -> Nat} {i:Nat} {x:Str} (h:xs[i]? = some x):inL xs b (i + 1) = inL xs b i ++ if b x < (xs.take i).count x + 1 then [] else [x]:=by
  unfold inL inI
  rw [List.range_succ,List.filter_append,List.map_append]
  congr 1
  by_cases c:b x < (xs.take i).count x + 1
  · rw [if_pos c,List.filter_cons_of_neg (by rw [qN h,xW h];simpa using c)]
    rfl
  · rw [if_neg c,List.filter_cons_of_pos (by rw [qN h,xW h];simpa using c)]
    show [xs.getD i ""] = [x]
    rw [qN h]
theorem jn (x t:Str):[x].count t = if x = t then 1 else 0:=by
  rw [List.count_cons]
  by_cases h:x = t
  · simp [h]
  · simp [h]
theorem qW {xs:List Str} {b:Str -> Nat} (t:Str):∀ n,n <= xs.length -> (qM xs b n).count t = (xs.take n).count t - b t
  | 0,_=>by simp [qM,qr]
  | n + 1,hn=>by
    have h:xs[n]? = some xs[n]:=List.getElem?_eq_getElem _
    generalize xs[n] = x at h
    rw [yc h,zM h,List.count_append,List.count_append,qW t n (by omega),jn]
    by_cases e:x = t
    · subst e
      by_cases c:b x < (xs.take n).count x + 1
      · rw [if_pos c,jn,if_pos rfl];omega
      · rw [if_neg c,if_pos rfl]
        show _ + 0 = _
        omega
    · rw [if_neg e]
      have:(if b x < (xs.take n).count x + 1 then [x] else []).count t = 0:=by
        split
        · rw [jn,if_neg e]
        · rfl
      rw [this]
      omega
theorem wf {xs:List Str} {b:Str -> Nat} (t:Str):∀ n,n <= xs.length -> (inL xs b n).count t = min ((xs.take n).count t) (b t)
  | 0,_=>by simp [inL,inI]
  | n + 1,hn=>by
    have h:xs[n]? = some xs[n]:=List.getElem?_eq_getElem _
    generalize xs[n] = x at h
    rw [Yu h,zM h,List.count_append,List.count_append,wf t n (by omega),jn]
    by_cases e:x = t
    · subst e
      by_cases c:b x < (xs.take n).count x + 1
      · rw [if_pos c,if_pos rfl]
        show _ + 0 = _
        omega
      · rw [if_neg c,jn,if_pos rfl];omega
    · rw [if_neg e]
      have:(if b x < (xs.take n).count x + 1 then [] else [x]).count t = 0:=by
        split
        · rfl
        · rw [jn,if_neg e]
      rw [this]
      omega
theorem wg {α:Type} (p:α -> Bool):∀ l:List α,(l.filter p).length + (l.filter fun x=>!p x).length = l.length
  | []=>rfl
  | x :: l=>by
    have:=wg p l
    rw [List.filter_cons,List.filter_cons]
    cases p x <;> simp <;> omega
theorem Ju (xs:List Str) (b:Str -> Nat) (n:Nat):(qr xs b n).length + (inL xs b n).length = n:=by
  unfold inL
  rw [List.length_map]
  have:=wg (fun i=>decide (b (xs.getD i "") < nth xs i)) (List.range n)
  rw [List.length_range] at this
  exact this
theorem Jy {row need:List Str} (h:need.length <= row.length):(qr need (fun t=>row.count t) need.length).length <= (qr row (fun t=>need.count t) row.length).length:=by
  have a:=Ju need (fun t=>row.count t) need.length
  have b:=Ju row (fun t=>need.count t) row.length
  have p:(inL need (fun t=>row.count t) need.length).Perm (inL row (fun t=>need.count t) row.length):=by
    rw [List.perm_iff_count]
    intro t
    rw [wf t _ (Nat.le_refl _),wf t _ (Nat.le_refl _),List.take_length,List.take_length]
    omega
  have:=p.length_eq
  omega
def zQ (xs:List Str):List (Str × Nat) -> List Str
  | []=>xs
  | p :: r=>zQ (xs.set p.2 p.1) r
theorem jz:∀ (r:List (Str × Nat)) (xs:List Str),(zQ xs r).length = xs.length
  | [],_=>rfl
  | p :: r,xs=>by
    show (zQ (xs.set p.2 p.1) r).length = _
    rw [jz r,List.length_set]
theorem XD {xs:List Str} {i:Nat} (hi:i < xs.length) (v t:Str):(xs.set i v).count t + [xs.getD i ""].count t = xs.count t + [v].count t:=by
  induction xs generalizing i with
  | nil=>simp at hi
  | cons x xs ih=>
    cases i with
    | zero=>
      show (v :: xs).count t + [x].count t = (x :: xs).count t + [v].count t
      simp only [List.count_cons,List.count_nil]
      omega
    | succ i=>
      have:=ih (i:=i) (by simpa using hi)
      show (x :: xs.set i v).count t + [xs.getD i ""].count t = (x :: xs).count t + [v].count t
      have hc:∀ l:List Str,(x :: l).count t = l.count t + if (x == t) = true then 1 else 0:=fun l=>List.count_cons
      rw [hc (xs.set i v),hc xs]
      omega
theorem jA (t:Str):∀ (r:List (Str × Nat)) (xs:List Str),(r.map (·.2)).Nodup -> (∀ p ∈ r,p.2 < xs.length) ->
    (zQ xs r).count t + ((r.map (·.2)).map fun i=>xs.getD i "").count t = xs.count t + (r.map (·.1)).count t
  | [],xs,_,_=>by simp [zQ]
  | p :: r,xs,nd,h=>by
    rw [List.map_cons] at nd
    obtain ⟨n1,n2⟩:=List.nodup_cons.mp nd
    have hp:=h p (by simp)
    have ih:=jA t r (xs.set p.2 p.1) n2 fun q hq=>by rw [List.length_set];exact h q (List.mem_cons_of_mem _ hq)
    have e:((r.map (·.2)).map fun i=>(xs.set p.2 p.1).getD i "") = (r.map (·.2)).map fun i=>xs.getD i "" :=List.map_congr_left fun i hi=>by
      rw [List.getD_eq_getElem?_getD,List.getD_eq_getElem?_getD,List.getElem?_set_ne (fun z:p.2 = i=>n1 (by rw [z];exact hi))]
    rw [e] at ih
    have sc:=XD hp p.1 t
    show (zQ (xs.set p.2 p.1) r).count t + (xs.getD p.2 "" :: (r.map (·.2)).map fun i=>xs.getD i "").count t = xs.count t + (p.1 :: r.map (·.1)).count t
    rw [List.count_cons,List.count_cons]
    rw [jn,jn] at sc
    simp only [beq_iff_eq]
    omega
theorem yz {α β:Type}:∀ {ms:List α} {hs:List β},ms.length <= hs.length -> (ms.zip hs).map (·.2) = hs.take ms.length
  | [],_,_=>by simp
  | m :: ms,[],h=>by simp at h
  | m :: ms,h :: hs,hl=>by
    show h :: (ms.zip hs).map (·.2) = h :: hs.take ms.length
    rw [yz (by simpa using hl)]
theorem meets {row need:List Str} {hs:List Nat} (hl:need.length <= row.length) (hp:hs.Perm (qr row (fun t=>need.count t) row.length)) (t:Str) :
    need.count t <= (zQ row ((qM need (fun t=>row.count t) need.length).zip hs)).count t:=by
  have ml:(qM need (fun t=>row.count t) need.length).length <= hs.length:=by
    rw [hp.length_eq]
    unfold qM
    rw [List.length_map]
    exact Jy hl
  have ndO:(qr row (fun t=>need.count t) row.length).Nodup:=List.Nodup.sublist List.filter_sublist List.nodup_range
  have ndh:hs.Nodup:=hp.nodup_iff.mpr ndO
  have e1:((qM need (fun t=>row.count t) need.length).zip hs).map (·.1) = qM need (fun t=>row.count t) need.length:=List.map_fst_zip ml
  have e2:((qM need (fun t=>row.count t) need.length).zip hs).map (·.2) = hs.take (qM need (fun t=>row.count t) need.length).length:=yz ml
  have c:=jA t ((qM need (fun t=>row.count t) need.length).zip hs) row (by rw [e2];exact List.Nodup.sublist (List.take_sublist _ _) ndh) fun p hp'=>by
    have:p.2 ∈ hs:=(List.of_mem_zip hp').2
    exact List.mem_range.mp (List.mem_filter.mp (hp.mem_iff.mp this)).1
  rw [e1,e2,qW t _ (Nat.le_refl _),List.take_length] at c
  have u:((hs.take (qM need (fun t=>row.count t) need.length).length).map fun i=>row.getD i "").count t <= row.count t - need.count t:=by
    have h1:=(List.Sublist.map (fun i=>row.getD i "") (List.take_sublist (qM need (fun t=>row.count t) need.length).length hs)).count_le t
    have h2:(hs.map fun i=>row.getD i "").count t = (qM row (fun t=>need.count t) row.length).count t:=(hp.map _).count_eq t
    rw [qW t _ (Nat.le_refl _),List.take_length] at h2
    omega
  omega
theorem Same.none {H H1:Hp} {t:Addr} (s:Same H H1) (h:H1 t = Option.none):H t = Option.none:=s.free h
def RwS (H:Hp) (rs:List (List Str)) (zs:List V):Prop:=zs.length = rs.length /\ ∀ (j:Nat) (r:List Str),rs[j]? = some r -> ∃ a,zs[j]? = some (.ref a) /\ H a = some (.lst (r.map V.str))
theorem RwS.nil {H:Hp}:RwS H [] []:=⟨rfl,fun j k e=>by simp at e⟩
theorem RwS.same {H H':Hp} {rs:List (List Str)} {zs:List V} (h:RwS H rs zs) (s:Same H H'):RwS H' rs zs:=⟨h.1,fun j k e=>let ⟨T,a,b⟩:=h.2 j k e;⟨T,a,s _ _ b⟩⟩
theorem Wx (xs:List Str) (n:Nat) (h:n <= xs.length):qv (xs.map V.str) none (some (n:Int)) = (xs.take n).map V.str:=by
  unfold qv
  rw [HT.sIx_nat,HT.sIx_none,List.length_map,show min n xs.length = n by omega]
  simp
section
variable {P:Program} {w:World} {K:PySem.W.Frag} {mg:Str -> Option Value} {base:Heap}
def NextOk (needs:List (List Str)) (at_:Nat) (tip:Str) (m z:Nat):Prop:=(at_ < needs.length -> at_ < z) /\ z <= needs.length /\ (∀ l r,at_ < l -> l < z -> needs[l]? = some r -> r.count tip < m) /\ ∀ r,needs[z]? = some r -> m <= r.count tip
inductive Zz (vs:List V) (H:Hp) (Q:VK):Prop
  | mk (nl:Addr) (needs:List (List Str)) (zs:List V) (at_ m:Nat) (tip:Str) (_:vs = [.ref nl,.int (at_:Int),.str tip,.int (m:Int)]) (_:H nl = some (.lst zs)) (_:RwS H needs zs) (_:at_ < needs.length) (_:needs.length <= 1000) (_:∀ z:Nat,NextOk needs at_ tip m z -> Q (.int (z:Int)) H):Zz  vs H Q
def Qt:Sp:=fun vs H Q _=>Zz  vs H Q
theorem Vv:zJ ["needs", "at", "tip", "many", "later"] ["needs", "at", "tip", "many"] (zo (zw 1)):=⟨rfl,rfl,rfl,by decide +kernel,rfl,by decide +kernel,by decide +kernel⟩
def Xg (nl:_) (at_:Nat) (tip:_) (m:Nat) (H:_) (needs:List (List Str)):=fun (i:Nat) (σ:St) (H1:Hp)=>(Ex1 fun (v4:Option V)=>An3 (σ = [some (.ref nl),some (.int (at_:Int)),some (.str tip),some (.int (m:Int)),v4]) (H1 = H) (∀ l r,at_ < l -> l < at_ + 1 + i -> needs[l]? = some r -> r.count tip < m):Prop)
theorem Yi {f:Addr} {fd:FuncData} (F:Fun K "next_need" "next_need" (zw 1) f fd) (B:Blt mg):qC P w K mg base CX0 1 f fd ["needs", "at", "tip", "many"] Qt:=by
  have nd:=Vv.nd
  refine F.ok Vv (fun vs H Q E h=>?_) (fun cdv A outer s H vs Q E hr h=>?_)
  · obtain ⟨nl,needs,zs,at_,m,tip,rfl,_⟩:=h
    rfl
  · obtain ⟨nl,needs,zs,at_,m,tip,rfl,hn,rw_,al,nlen,k⟩:=h
    have hbig:100000 < sizeLine:=by rw [sizeLine_eq];decide
    have e62:(2:Int) ^ 62 = 4611686018427387904:=by decide
    have zl:=rw_.1
    refine ⟨_,(zi (zU PassesOwn.never rfl (XI rfl B.range (zc (zA zN (pv 1) zk) (zc (zq zy rfl B.len boot_len (zc (pv 0) zg)) zg))) (zB (i:=4) nd rfl (Or.inl rfl))
      (zr (jf (zR Jw (jv PySem.F.plainAttrs_list PySem.F.slot_list_count PySem.F.type_list_count qA (qf zP (pv 0) (pv 4) (fun _ _=>rfl)) (zc (pv 2) zg)) (pv 3) (zO _))
        (zr (zI (pv 4)))
        qw)))
      (zr (zI (zq zy rfl B.len boot_len (zc (pv 0) zg))))),?_⟩
    refine ⟨_,rfl,_,_,rfl,rfl,_,rfl,nl,_,rfl,.inl (SqL.of hn),_,_,rfl,⟨(by rw [e62];omega),(by rw [e62];omega),(by rw [e62];omega),(by rw [e62];omega)⟩,?_⟩
    have en:((zs.length:Int) - ((at_:Int) + 1)).toNat = needs.length - (at_ + 1):=by omega
    rw [en]
    refine qB (Xg nl at_ tip m H needs) ⟨_,rfl,rfl,fun l r h1 h2=>by omega⟩ ?_ ?_
    · rintro i σ H1 hi ⟨v4,rfl,rfl,hb⟩
      have hl:at_ + 1 + i < needs.length:=by omega
      have er:needs[at_ + 1 + i]? = some needs[at_ + 1 + i]:=List.getElem?_eq_getElem _
      generalize needs[at_ + 1 + i] = r at er
      obtain ⟨a,e1,e2⟩:=rw_.2 _ r er
      have ei:(at_:Int) + 1 + (i:Int) = ((at_ + 1 + i:Nat):Int):=by omega
      rw [ei]
      refine ⟨_,rfl,_,rfl,nl,_,_,_,rfl,rfl,SqL.of hn,jp e1,.inl ⟨rfl,_,SqL.of e2⟩,_,rfl,a,_,_,rfl,rfl,e2,_,rfl,_,_,rfl,rfl,_,rfl,jU (fun c=>?_) (fun c=>?_)⟩
      · have c':(m:Int) <= (r.count tip:Int):=of_decide_eq_true c
        refine ⟨_,rfl,k (at_ + 1 + i) ⟨fun _=>by omega,by omega,hb,fun r' hr'=>?_⟩⟩
        rw [er] at hr'
        cases hr'
        omega
      · have c':¬ (m:Int) <= (r.count tip:Int):=fun z=>c (decide_eq_true z)
        refine ⟨_,rfl,rfl,fun l r' h1 h2 hr'=>?_⟩
        by_cases z:l = at_ + 1 + i
        · subst z
          rw [er] at hr'
          cases hr'
          omega
        · exact hb l r' h1 (by omega) hr'
    · rintro σ H1 ⟨v4,rfl,rfl,hb⟩
      refine ⟨_,rfl,nl,_,rfl,.inl (SqL.of hn),?_⟩
      rw [zl]
      exact k needs.length ⟨fun _=>al,Nat.le_refl _,fun l r h1 h2=>hb l r h1 (by omega),fun r hr'=>by rw [List.getElem?_eq_none (Nat.le_refl _)] at hr';cases hr'⟩
inductive ZB (vs:List V) (H:Hp) (Q:VK):Prop
  | mk (rl dl:Addr) (row need:List Str) (_:vs = [.ref rl,.ref dl]) (_:H rl = some (.lst (row.map V.str))) (_:H dl = some (.lst (need.map V.str))) (_:need.length <= 1000) (_:∀ (l:Addr) H',H l = none -> Same H H' -> H' l = some (.lst ((qM need (fun t=>row.count t) need.length).map V.str)) -> Q (.ref l) H'):ZB  vs H Q
def Qv:Sp:=fun vs H Q _=>ZB  vs H Q
theorem Vx:zJ ["row", "need"] ["row", "need"] (zo (zw 3)):=⟨rfl,rfl,rfl,by decide +kernel,rfl,by decide +kernel,by decide +kernel⟩
theorem Jt (xs:List Str) (b:Str -> Nat) (n:Nat):(qM xs b n).length <= n:=by
  unfold qM qr
  rw [List.length_map]
  exact Nat.le_trans (List.length_filter_le _ _) (by rw [List.length_range];exact Nat.le_refl _)
theorem Yj {f:Addr} {fd:FuncData} (F:Fun K "missing_tips" "missing_tips" (zw 3) f fd) (B:Blt mg):qC P w K mg base CX0 1 f fd ["row", "need"] Qv:=by
  have nd:=Vx.nd
  refine F.ok Vx (fun vs H Q E h=>?_) (fun cdv A outer s H vs Q E hr h=>?_)
  · obtain ⟨rl,dl,row,need,rfl,_⟩:=h
    rfl
  · obtain ⟨rl,dl,row,need,rfl,hr',hd,nlen,k⟩:=h
    have hbig:100000 < sizeLine:=by rw [sizeLine_eq];decide
    refine ⟨_,(zr (zI (QF ["row", "need"] [0,1] rfl rfl (by kernel_rfl) (yP rfl B.enumerate (zc (pv 1) zg)) (fun C0 s0 H0 ex0=>(vP (zR vV (xm (K:=K) rfl PySem.F.plainAttrs_list PySem.F.slot_list_count PySem.F.type_list_count qA (zW (Vr (K:=K) rfl) (pv 3) qz (zX (zA zN (pv 0) zk))) (zc (pv 1) zg)) (xm (K:=K) rfl PySem.F.plainAttrs_list PySem.F.slot_list_count PySem.F.type_list_count qA (pv 2) (zc (pv 1) zg)) (zO _)))) (fun C0 s0 H0 ex0=>(pv 1))))),?_⟩
    refine ⟨_,rfl,dl,rfl,⟨_,SqL.of hd⟩,Wb (K:=K) (a:=dl) (xs:=need.map V.str) (fun i zs H1=>zs = (qM need (fun t=>row.count t) i).map V.str /\ Same H H1) ⟨rfl,Same.refl _⟩ (fun i zs H1 ⟨_,s1⟩=>SqL.of (s1 _ _ hd)) ?_ ?_⟩
    · rintro i x zs H1 T hx ⟨rfl,s1⟩ hT
      rw [List.getElem?_map] at hx
      obtain ⟨tip,et,rfl⟩:=Option.map_eq_some_iff.mp hx
      have hi:=(List.getElem?_eq_some_iff.mp et).1
      have sT:=s1.trans (ze (o:=.tup [.int (i:Int),.str tip]) hT)
      have le:=Jt need (fun t=>row.count t) i
      refine ⟨T,_,rfl,SqT.of zf,rfl,_,_,rfl,_,_,rfl,rfl,rfl,?_⟩
      generalize upd H1 T (.tup [.int (i:Int),.str tip]) = H2 at sT
      refine ⟨_,rfl,_,rfl,_,_,rfl,rfl,_,rfl,dl,_,rfl,SqL.of (sT _ _ hd),fun c hc=>?_⟩
      have ec:qv (need.map V.str) none (some ((i:Int) + 1)) = (need.take (i + 1)).map V.str:=by
        have:=Wx need (i + 1) (by omega)
        rwa [show ((i + 1:Nat):Int) = (i:Int) + 1 by omega] at this
      have s2:=sT.trans (ze (o:=.lst (qv (need.map V.str) none (some ((i:Int) + 1)))) hc)
      have C2:upd H2 c (.lst (qv (need.map V.str) none (some ((i:Int) + 1)))) c = some (.lst ((need.take (i + 1)).map V.str)):=by rw [zf,ec]
      generalize upd H2 c (.lst (qv (need.map V.str) none (some ((i:Int) + 1)))) = H3 at s2 C2
      refine ⟨.inl ⟨rfl,_,SqL.of C2⟩,_,rfl,c,_,_,rfl,rfl,C2,_,rfl,.inl ⟨rfl,_,SqL.of (s2 _ _ hr')⟩,_,rfl,rl,_,_,rfl,rfl,s2 _ _ hr',_,_,rfl,rfl,_,rfl,?_⟩
      have en:(need.take (i + 1)).count tip = (need.take i).count tip + 1:=by rw [zM et,List.count_append];simp
      rw [yc et]
      refine jU (fun z=>⟨_,rfl,?_,?_,s2⟩) (fun z=>⟨?_,s2⟩)
      · rw [List.length_map];omega
      · have:=of_decide_eq_true z
        rw [if_pos (by omega),List.map_append]
        rfl
      · have:¬ ((row.count tip:Int) < ((need.take (i + 1)).count tip:Int)):=fun y=>z (decide_eq_true y)
        rw [if_neg (by omega),List.append_nil]
    · rintro zs H1 ⟨rfl,s1⟩
      rw [show (need.map V.str).length = need.length from List.length_map _]
      have le:=Jt need (fun t=>row.count t) need.length
      exact ⟨by rw [List.length_map];omega,fun l hl=>k l _ (s1.none hl) (s1.trans (ze hl)) zf⟩
end
theorem yR {α β:Type} {f:α -> β} {ys ws:List β} (h:ys.Perm ws):∀ {xs:List α},ws = xs.map f -> ∃ zs:List α,zs.Perm xs /\ ys = zs.map f:=by
  induction h with
  | nil=>
    intro xs e
    have:xs = []:=by simpa using e.symm
    exact ⟨[],by rw [this],rfl⟩
  | @cons x l1 l2 p ih=>
    intro xs e
    cases xs with
    | nil=>simp at e
    | cons a as=>
      rw [List.map_cons] at e
      injection e with e1 e2
      obtain ⟨zs,p1,p2⟩:=ih e2
      exact ⟨a :: zs,p1.cons a,by rw [List.map_cons,<- p2,<- e1]⟩
  | swap x y l=>
    intro xs e
    cases xs with
    | nil=>simp at e
    | cons a as=>
      cases as with
      | nil=>simp at e
      | cons c cs=>
        rw [List.map_cons,List.map_cons] at e
        injection e with e1 e2
        injection e2 with e2 e3
        exact ⟨c :: a :: cs,.swap a c cs,by rw [List.map_cons,List.map_cons,<- e1,<- e2,<- e3]⟩
  | trans p q ih1 ih2=>
    intro xs e
    obtain ⟨zs,p1,p2⟩:=ih2 e
    obtain ⟨us,p3,p4⟩:=ih1 p2
    exact ⟨us,p3.trans p1,p4⟩
theorem PrR.put {H:Hp} {l:Addr} {xs ys zs:List V} {ps:List (Int × Int)} (h:PrR H zs ps) (e:H l = some (.lst xs)):PrR (upd H l (.lst ys)) zs ps:=⟨h.1,fun j q hq=>by
  obtain ⟨T,a,b⟩:=h.2 j q hq
  refine ⟨T,a,?_⟩
  rw [zu fun z=>?_]
  · exact b
  · rw [z,e] at b
    cases b⟩
def WI (row:List Str) (needs:List (List Str)) (at_:Nat) (p:Int × Int):Prop:=∃ z h:Nat,p = ((z:Int),(h:Int)) /\ h < row.length /\ NextOk needs at_ (row.getD h "") (nth row h) z
structure SpareOk (row:List Str) (needs:List (List Str)) (need:List Str) (at_:Nat) (qs:List (Int × Int)):Prop where
  of:∀ p ∈ qs,WI row needs at_ p
  pm:(qs.map (·.2)).Perm ((qr row (fun t=>need.count t) row.length).map fun i:Nat=>(i:Int))
  ord:qs.Pairwise fun a b=>ltP b a = true
theorem SpareOk.heads {row:List Str} {needs:List (List Str)} {need:List Str} {at_:Nat} {qs:List (Int × Int)} (h:SpareOk row needs need at_ qs):∃ hs:List Nat,hs.Perm (qr row (fun t=>need.count t) row.length) /\ qs.map (·.2) = hs.map fun i:Nat=>(i:Int):=yR h.pm rfl
theorem ZP (xs:List Str) (b:Str -> Nat) (n:Nat):(qr xs b n).length <= n:=by
  unfold qr
  exact Nat.le_trans (List.length_filter_le _ _) (by rw [List.length_range];exact Nat.le_refl _)
theorem XL {xs:List Str} {b:Str -> Nat} {i:Nat} {x:Str} (h:xs[i]? = some x) (c:b x < nth xs i):qr xs b (i + 1) = qr xs b i ++ [i]:=by
  unfold qr
  rw [List.range_succ,List.filter_append,List.filter_cons_of_pos (by rw [qN h];exact decide_eq_true c)]
  rfl
theorem XM {xs:List Str} {b:Str -> Nat} {i:Nat} {x:Str} (h:xs[i]? = some x) (c:¬ b x < nth xs i):qr xs b (i + 1) = qr xs b i:=by
  unfold qr
  rw [List.range_succ,List.filter_append,List.filter_cons_of_neg (by rw [qN h];simpa using c),List.filter_nil,List.append_nil]
theorem VQ (xs:List Str) (b:Str -> Nat) (n:Nat):(qr xs b n).Nodup:=List.Nodup.sublist List.filter_sublist List.nodup_range
theorem zaE {ps:List (Int × Int)} {os:List Nat} (e:ps.map (·.2) = os.map fun i:Nat=>(i:Int)) (nd:os.Nodup):ps.Nodup:=by
  have h:(ps.map (·.2)).Nodup:=by
    rw [e]
    exact List.pairwise_map.mpr (nd.imp fun h z=>h (by omega))
  exact (List.pairwise_map.mp h).imp fun h z=>h (by rw [z])
section
variable {P:Program} {w:World} {K:PySem.W.Frag} {mg:Str -> Option Value} {base:Heap}
inductive wU (vs:List V) (H:Hp) (Q:VK):Prop
  | mk (rl nl:Addr) (row need:List Str) (needs:List (List Str)) (zs:List V) (at_:Nat) (_:vs = [.ref rl,.ref nl,.int (at_:Int)]) (_:H rl = some (.lst (row.map V.str))) (_:H nl = some (.lst zs)) (_:RwS H needs zs) (_:needs[at_]? = some need) (_:row.length < 64) (_:needs.length <= 1000) (_:∀ (l:Addr) (qs:List (Int × Int)) H',H l = none -> Same H H' -> H' l = some (.lst (qs.map fun q=>.int q.2)) -> SpareOk row needs need at_ qs -> Q (.ref l) H'):wU  vs H Q
def yE:Sp:=fun vs H Q _=>wU  vs H Q
theorem Jd:zJ ["row", "needs", "at", "spare", "head", "tip", "many"] ["row", "needs", "at"] (zo (zw 2)):=⟨rfl,rfl,rfl,by decide +kernel,rfl,by decide +kernel,by decide +kernel⟩
def Xf (rl:_) (nl:_) (at_:Nat) (sp:_) (H:_) (row:List Str) (need:List Str) (needs:List (List Str)):=fun (i:Nat) (σ:St) (H2:Hp)=>(Ex5 fun (ps:List (Int × Int)) (ys:List V) (v4 v5 v6:Option V)=>An6 (σ = [some (.ref rl),some (.ref nl),some (.int (at_:Int)),some (.ref sp),v4,v5,v6]) (Same H H2) (H2 sp = some (.lst ys)) (PrR H2 ys ps) (ps.map (·.2) = (qr row (fun t=>need.count t) i).map (fun j:Nat=>(j:Int))) (∀ p ∈ ps,WI row needs at_ p):Prop)
theorem VT {f:Addr} {fd:FuncData} (F:Fun K "spare_heads" "spare_heads" (zw 2) f fd) (B:Blt mg) (Dnext_need:Dfn P w K mg base "next_need" 1 ["needs", "at", "tip", "many"] Qt):qC P w K mg base CX0 2 f fd ["row", "needs", "at"] yE:=by
  have nd:=Jd.nd
  refine F.ok Jd (fun vs H Q E h=>?_) (fun cdv A outer s H vs Q E hr h=>?_)
  · obtain ⟨rl,nl,row,need,needs,zs,at_,rfl,_⟩:=h
    rfl
  · obtain ⟨rl,nl,row,need,needs,zs,at_,rfl,hrl,hnl,rw_,en,r64,nlen,k⟩:=h
    have hbig:100000 < sizeLine:=by rw [sizeLine_eq];decide
    have al:=(List.getElem?_eq_some_iff.mp en).1
    obtain ⟨na,ena,hna⟩:=rw_.2 _ _ en
    refine ⟨_,(zi (zx (i:=3) nd rfl (Or.inl rfl) (z9 zg))
      (zi (zU PassesOwn.never rfl (yP rfl B.enumerate (zc (pv 0) zg)) (jQ rfl (zV (zB (i:=4) nd rfl (Or.inl rfl)) (zV (zB (i:=5) nd rfl (Or.inl rfl)) jg)))
      (zi (zx (i:=6) nd rfl (Or.inl rfl) (jv PySem.F.plainAttrs_list PySem.F.slot_list_count PySem.F.type_list_count qA (zW qh (pv 0) qz (zX (zA zN (pv 4) zk))) (zc (pv 5) zg)))
        (zr (jf (zR vV (pv 6) (jv PySem.F.plainAttrs_list PySem.F.slot_list_count PySem.F.type_list_count qA (qf zP (pv 1) (pv 2) (fun _ _=>rfl)) (zc (pv 5) zg)) (zO _))
        (zr (qU (jv PySem.F.plainAttrs_list PySem.F.slot_list_append PySem.F.type_list_append qI (pv 3) (zc (jC (zc (zn Dnext_need (hr.mono (by first | decide | exact Nat.le_refl _ | omega)) rfl (zc (pv 1) (zc (pv 2) (zc (pv 5) (zc (pv 6) zg))))) (zc (pv 4) zg))) zg))))
        qw))))
      (zr (zI (QF [] [] rfl rfl (by kernel_rfl) (zD (QG Zh rfl B.sorted z7 (zc (pv 3) zg) jw)) (fun C0 s0 H0 ex0=>qE) (fun C0 s0 H0 ex0=>(pv 1))))))),?_⟩
    refine ⟨le0,fun sp hsp=>?_⟩
    have s1:=ze (H:=H) (o:=.lst []) hsp
    have P1:upd H sp (.lst []) sp = some (.lst []):=zf
    generalize upd H sp (.lst []) = H1 at s1 P1
    refine ⟨_,rfl,rl,rfl,⟨_,SqL.of (s1 _ _ hrl)⟩,Z3 (K:=K) (a:=rl) (xs:=row.map V.str) (Xf rl nl at_ sp H row need needs)
      ⟨[],[],_,_,_,rfl,s1,P1,PrR.nil,rfl,fun p h=>nomatch h⟩ (fun i σ H2 _ ⟨_,_,_,_,_,_,s2,_,_,_,_⟩=>SqL.of (s2 _ _ hrl)) ?_ ?_⟩
    · rintro i x σ H2 T hx ⟨ps,ys,v4,v5,v6,rfl,s2,P2,pr,em,sb⟩ hT
      rw [List.getElem?_map] at hx
      obtain ⟨tip,et,rfl⟩:=Option.map_eq_some_iff.mp hx
      have hi:=(List.getElem?_eq_some_iff.mp et).1
      have s3:=s2.trans (ze (o:=.tup [.int (i:Int),.str tip]) hT)
      have P3:=(ze (o:=.tup [.int (i:Int),.str tip]) hT) _ _ P2
      have pr3:=pr.same (ze (o:=.tup [.int (i:Int),.str tip]) hT)
      refine ⟨T,_,rfl,SqT.of zf,rfl,_,_,rfl,_,_,rfl,rfl,?_⟩
      generalize upd H2 T (.tup [.int (i:Int),.str tip]) = H3 at s3 P3 pr3
      refine ⟨_,rfl,_,rfl,_,_,rfl,rfl,_,rfl,rl,_,rfl,SqL.of (s3 _ _ hrl),fun c hc=>?_⟩
      have ec:qv (row.map V.str) none (some ((i:Int) + 1)) = (row.take (i + 1)).map V.str:=by
        have:=Wx row (i + 1) (by omega)
        rwa [show ((i + 1:Nat):Int) = (i:Int) + 1 by omega] at this
      have s4:=s3.trans (ze (o:=.lst (qv (row.map V.str) none (some ((i:Int) + 1)))) hc)
      have P4:=(ze (o:=.lst (qv (row.map V.str) none (some ((i:Int) + 1)))) hc) _ _ P3
      have pr4:=pr3.same (ze (o:=.lst (qv (row.map V.str) none (some ((i:Int) + 1)))) hc)
      have C4:upd H3 c (.lst (qv (row.map V.str) none (some ((i:Int) + 1)))) c = some (.lst ((row.take (i + 1)).map V.str)):=by rw [zf,ec]
      generalize upd H3 c (.lst (qv (row.map V.str) none (some ((i:Int) + 1)))) = H4 at s4 P4 pr4 C4
      refine ⟨.inl ⟨rfl,_,SqL.of C4⟩,_,rfl,c,_,_,rfl,rfl,C4,?_⟩
      have enth:(row.take (i + 1)).count tip = nth row i:=by unfold nth;rw [qN et]
      rw [enth]
      refine ⟨_,rfl,_,rfl,_,rfl,nl,_,_,_,rfl,rfl,SqL.of (s4 _ _ hnl),jp ena,.inl ⟨rfl,_,SqL.of (s4 _ _ hna)⟩,_,rfl,na,_,_,rfl,rfl,s4 _ _ hna,_,_,rfl,rfl,_,rfl,jU (fun z=>?_) (fun z=>?_)⟩
      · have z':need.count tip < nth row i:=by have:=of_decide_eq_true z;omega
        refine ⟨_,rfl,.inl ⟨rfl,_,SqL.of P4⟩,_,rfl,_,rfl,_,rfl,_,rfl,nl,needs,zs,at_,nth row i,tip,rfl,s4 _ _ hnl,rw_.same s4,al,nlen,fun zz nz=>⟨_,rfl,le2,fun U hU=>⟨sp,_,_,rfl,rfl,(ze hU) _ _ P4,?_,?_⟩⟩⟩
        · have h1:=ZP row (fun t=>need.count t) i
          have h2:ps.length = (qr row (fun t=>need.count t) i).length:=by have:=congrArg List.length em;rwa [List.length_map,List.length_map] at this
          rw [pr4.1];omega
        · have pr5:PrR (upd H4 U (.tup [.int (zz:Int),.int (i:Int)])) (ys ++ [.ref U]) (ps ++ [((zz:Int),(i:Int))]):=(pr4.same (ze hU)).snoc zf
          refine ⟨ps ++ [((zz:Int),(i:Int))],_,_,_,_,rfl,fun c' o y=>by rw [zu (zj y hsp)];exact (ze hU) _ _ (s4 _ _ y),zf,pr5.put ((ze hU) _ _ P4),?_,fun p hp=>?_⟩
          · rw [XL et z',List.map_append,List.map_append,em]
            rfl
          · rcases List.mem_append.mp hp with y | y
            · exact sb p y
            · rw [List.mem_singleton.mp y]
              exact ⟨zz,i,rfl,hi,by rw [qN et];exact nz⟩
      · have z':¬ need.count tip < nth row i:=fun y=>z (decide_eq_true (by omega))
        refine ⟨ps,ys,_,_,_,rfl,s4,P4,pr4,?_,sb⟩
        rw [XM et z',em]
    · rintro σ H2 ⟨ps,ys,v4,v5,v6,rfl,s2,P2,pr,em,sb⟩
      rw [List.length_map] at em
      have h1:=ZP row (fun t=>need.count t) row.length
      have h2:ps.length = (qr row (fun t=>need.count t) row.length).length:=by have:=congrArg List.length em;rwa [List.length_map,List.length_map] at this
      refine ⟨_,rfl,sp,ys,ps,rfl,SqL.of P2,pr,zaE em (VQ _ _ _),by omega,fun l qs zs2 hl pm ord pq=>?_⟩
      have s3:=s2.trans (ze (o:=.lst zs2) hl)
      have L3:upd H2 l (.lst zs2) l = some (.lst zs2):=zf
      have pq3:=pq.same (ze (o:=.lst zs2) hl)
      generalize upd H2 l (.lst zs2) = H3 at s3 L3 pq3
      have lq:=pm.length_eq
      refine ⟨l,rfl,⟨_,SqL.of L3⟩,qp (K:=K) (a:=l) (xs:=zs2) (fun i ws H4=>ws = (qs.take i).map (fun q=>V.int q.2) /\ Same H3 H4) ⟨rfl,Same.refl _⟩ (fun i ws H4 ⟨_,s4⟩=>SqL.of (s4 _ _ L3)) ?_ ?_⟩
      · rintro i x ws H4 hx ⟨rfl,s4⟩
        have hi:i < qs.length:=by rw [<- pq.1];exact (List.getElem?_eq_some_iff.mp hx).1
        have eq:qs[i]? = some qs[i]:=List.getElem?_eq_getElem _
        generalize qs[i] = q at eq
        obtain ⟨T,e1,e2⟩:=pq3.2 i q eq
        rw [hx] at e1
        cases e1
        refine ⟨T,_,rfl,SqT.of (s4 _ _ e2),rfl,_,_,rfl,_,_,rfl,rfl,rfl,_,rfl,?_,?_,s4⟩
        · rw [List.length_map,List.length_take];omega
        · rw [zM eq,List.map_append];rfl
      · rintro ws H4 ⟨rfl,s4⟩
        rw [pq.1,List.take_length]
        refine ⟨by rw [List.length_map];omega,fun D hD=>k D qs _ ((s3.trans s4).none hD) ((s3.trans s4).trans (ze hD)) zf ⟨fun p hp=>sb p (pm.mem_iff.mp hp),?_,ord⟩⟩
        rw [<- em]
        exact pm.map _
end
theorem x6 (p:Str × Nat):∀ (r:List (Str × Nat)) (xs:List Str),zQ xs (r ++ [p]) = (zQ xs r).set p.2 p.1
  | [],xs=>rfl
  | q :: r,xs=>x6 p r (xs.set q.2 q.1)
def NextRow (row:List Str) (needs:List (List Str)) (need:List Str) (at_:Nat) (row':List Str):Prop:=∃ (qs:List (Int × Int)) (hs:List Nat),SpareOk row needs need at_ qs /\ qs.map (·.2) = (hs.map fun i:Nat=>(i:Int)) /\ hs.Perm (qr row (fun t=>need.count t) row.length) /\ row' = zQ row ((qM need (fun t=>row.count t) need.length).zip hs)
theorem NextRow.len {row:List Str} {needs:List (List Str)} {need:List Str} {at_:Nat} {row':List Str} (h:NextRow row needs need at_ row'):row'.length = row.length:=by
  obtain ⟨_,_,_,_,_,rfl⟩:=h
  exact jz _ _
theorem NextRow.meets {row:List Str} {needs:List (List Str)} {need:List Str} {at_:Nat} {row':List Str} (h:NextRow row needs need at_ row') (hl:need.length <= row.length) (t:Str):need.count t <= row'.count t:=by
  obtain ⟨_,hs,_,_,hp,rfl⟩:=h
  exact L2.meets hl hp t
theorem vN {t:Str}:∀ {r:List (Str × Nat)} {xs:List Str},t ∈ zQ xs r -> t ∈ xs \/ t ∈ r.map (·.1)
  | [],xs,h=>.inl h
  | p :: r,xs,h=>by
    rcases vN (r:=r) (xs:=xs.set p.2 p.1) h with z | z
    · rcases List.mem_or_eq_of_mem_set z with y | y
      · exact .inl y
      · exact .inr (by rw [y];simp)
    · exact .inr (List.mem_cons_of_mem _ z)
theorem ZO {xs:List Str} {b:Str -> Nat} {n:Nat} {t:Str} (hn:n <= xs.length) (h:t ∈ qM xs b n):t ∈ xs:=by
  obtain ⟨i,hi,rfl⟩:=List.mem_map.mp h
  have:=List.mem_range.mp (List.mem_filter.mp hi).1
  rw [List.getD_eq_getElem?_getD,List.getElem?_eq_getElem (by omega)]
  exact List.getElem_mem _
theorem NextRow.mem {row:List Str} {needs:List (List Str)} {need:List Str} {at_:Nat} {row':List Str} (h:NextRow row needs need at_ row') {t:Str} (ht:t ∈ row'):t ∈ row \/ t ∈ need:=by
  obtain ⟨_,hs,_,_,hp,rfl⟩:=h
  rcases vN ht with z | z
  · exact .inl z
  · obtain ⟨p,hp',rfl⟩:=List.mem_map.mp z
    exact .inr (ZO (Nat.le_refl _) (List.of_mem_zip hp').1)
def Bear (first:List Str) (needs rs:List (List Str)):Prop:=∀ (j:Nat) (r:List Str),rs[j]? = some r -> ∃ need,needs[j]? = some need /\ NextRow ((first :: rs).getD j []) needs need j r
theorem Bear.nil {first:List Str} {needs:List (List Str)}:Bear first needs []:=fun j r h=>by simp at h
theorem Bear.snoc {first need r:List Str} {needs rs:List (List Str)} (h:Bear first needs rs) (en:needs[rs.length]? = some need) (hr:NextRow ((first :: rs).getD rs.length []) needs need rs.length r):Bear first needs (rs ++ [r]):=fun j q hq=>by
  by_cases hj:j < rs.length
  · rw [List.getElem?_append_left hj] at hq
    obtain ⟨nd,e1,e2⟩:=h j q hq
    refine ⟨nd,e1,?_⟩
    rw [show (first :: (rs ++ [r])).getD j [] = (first :: rs).getD j [] from ?_]
    · exact e2
    · rw [List.getD_eq_getElem?_getD,List.getD_eq_getElem?_getD,<- List.cons_append,List.getElem?_append_left (by rw [List.length_cons];omega)]
  · have hl:=(List.getElem?_eq_some_iff.mp hq).1
    rw [List.length_append] at hl
    have ej:j = rs.length:=by simp at hl;omega
    subst ej
    rw [List.getElem?_append_right (Nat.le_refl _),Nat.sub_self] at hq
    have:r = q:=by simpa using hq
    subst this
    refine ⟨need,en,?_⟩
    rw [show (first :: (rs ++ [r])).getD rs.length [] = (first :: rs).getD rs.length [] from ?_]
    · exact hr
    · rw [List.getD_eq_getElem?_getD,List.getD_eq_getElem?_getD,<- List.cons_append,List.getElem?_append_left (by rw [List.length_cons];omega)]
theorem Bear.len {first:List Str} {needs rs:List (List Str)} (h:Bear first needs rs):∀ (j:Nat) (r:List Str),rs[j]? = some r -> r.length = first.length
  | 0,r,e=>by
    obtain ⟨_,_,n⟩:=h 0 r e
    exact n.len
  | j + 1,r,e=>by
    obtain ⟨_,_,n⟩:=h (j + 1) r e
    have hj:=(List.getElem?_eq_some_iff.mp e).1
    have ep:rs[j]? = some (rs[j]'(by omega)):=List.getElem?_eq_getElem _
    have:=Bear.len h j _ ep
    rw [n.len]
    show ((first :: rs).getD (j + 1) []).length = _
    rw [List.getD_eq_getElem?_getD,show (first :: rs)[j + 1]? = rs[j]? from rfl,ep]
    exact this
theorem Bear.prev {first:List Str} {needs rs:List (List Str)} (h:Bear first needs rs) (j:Nat) (hj:j <= rs.length):((first :: rs).getD j []).length = first.length:=by
  cases j with
  | zero=>rfl
  | succ j=>
    have ep:rs[j]? = some (rs[j]'(by omega)):=List.getElem?_eq_getElem _
    rw [List.getD_eq_getElem?_getD,show (first :: rs)[j + 1]? = rs[j]? from rfl,ep]
    exact h.len j _ ep
section
variable {P:Program} {w:World} {K:PySem.W.Frag} {mg:Str -> Option Value} {base:Heap}
inductive ZA (vs:List V) (H:Hp) (Q:VK):Prop
  | mk (rl nl:Addr) (row need:List Str) (needs:List (List Str)) (zs:List V) (at_:Nat) (_:vs = [.ref rl,.ref nl,.int (at_:Int)]) (_:H rl = some (.lst (row.map V.str))) (_:H nl = some (.lst zs)) (_:RwS H needs zs) (_:needs[at_]? = some need) (_:row.length < 64) (_:needs.length <= 1000) (_:need.length <= 1000) (_:∀ (l:Addr) (row':List Str) H',H l = none -> Same H H' -> H' l = some (.lst (row'.map V.str)) -> NextRow row needs need at_ row' -> Q (.ref l) H'):ZA  vs H Q
def Qu:Sp:=fun vs H Q _=>ZA  vs H Q
theorem Vw:zJ ["row", "needs", "at", "changed", "tip", "head"] ["row", "needs", "at"] (zo (zw 4)):=⟨rfl,rfl,rfl,by decide +kernel,rfl,by decide +kernel,by decide +kernel⟩
def Xe (rl:_) (nl:_) (at_:Nat) (cl:_) (H:_) (ml:_) (ms:List Str) (hl:_) (hs:List Nat) (row:List Str):=fun (i:Nat) (σ:St) (H4:Hp)=>(Ex2 fun (v4 v5:Option V)=>An5 (σ = [some (.ref rl),some (.ref nl),some (.int (at_:Int)),some (.ref cl),v4,v5]) (Same H H4) (H4 ml = some (.lst (ms.map V.str))) (H4 hl = some (.lst (hs.map fun i:Nat=>V.int (i:Int)))) (H4 cl = some (.lst ((zQ row ((ms.zip hs).take i)).map V.str))):Prop)
theorem Yh {f:Addr} {fd:FuncData} (F:Fun K "next_row" "next_row" (zw 4) f fd) (B:Blt mg) (Dmissing_tips:Dfn P w K mg base "missing_tips" 1 ["row", "need"] Qv) (Dspare_heads:Dfn P w K mg base "spare_heads" 2 ["row", "needs", "at"] yE):qC P w K mg base CX0 3 f fd ["row", "needs", "at"] Qu:=by
  have nd:=Vw.nd
  refine F.ok Vw (fun vs H Q E h=>?_) (fun cdv A outer s H vs Q E hr h=>?_)
  · obtain ⟨rl,nl,row,need,needs,zs,at_,rfl,_⟩:=h
    rfl
  · obtain ⟨rl,nl,row,need,needs,zs,at_,rfl,hrl,hnl,rw_,en,r64,nlen,dlen,k⟩:=h
    have hbig:100000 < sizeLine:=by rw [sizeLine_eq];decide
    obtain ⟨na,ena,hna⟩:=rw_.2 _ _ en
    refine ⟨_,(zi (zx (i:=3) nd rfl (Or.inl rfl) (zK jF rfl B.list qK (zc (pv 0) zg)))
      (zi (zU PassesOwn.never rfl (VJ rfl B.zip (zc (zn Dmissing_tips (hr.mono (by first | decide | exact Nat.le_refl _ | omega)) rfl (zc (pv 0) (zc (qf zP (pv 1) (pv 2) (fun _ _=>rfl)) zg))) (zc (zn Dspare_heads (hr.mono (by first | decide | exact Nat.le_refl _ | omega)) rfl (zc (pv 0) (zc (pv 1) (zc (pv 2) zg)))) zg))) (jQ rfl (zV (zB (i:=4) nd rfl (Or.inl rfl)) (zV (zB (i:=5) nd rfl (Or.inl rfl)) jg)))
      (zr (xV (pv 4) (vO (pv 3) (pv 5) jN))))
      (zr (zI (pv 3))))),?_⟩
    refine ⟨_,rfl,rl,_,rfl,.inl (SqL.of hrl),fun cl hcl=>?_⟩
    have s1:=ze (H:=H) (o:=.lst (row.map V.str)) hcl
    have C1:upd H cl (.lst (row.map V.str)) cl = some (.lst (row.map V.str)):=zf
    generalize upd H cl (.lst (row.map V.str)) = H1 at s1 C1
    refine ⟨_,rfl,_,rfl,_,rfl,nl,_,_,_,rfl,rfl,SqL.of (s1 _ _ hnl),jp ena,rl,na,row,need,rfl,s1 _ _ hrl,s1 _ _ hna,dlen,fun ml H2 hml s2 M2=>?_⟩
    have t2:=s1.trans s2
    refine ⟨_,rfl,_,rfl,_,rfl,rl,nl,row,need,needs,zs,at_,rfl,t2 _ _ hrl,t2 _ _ hnl,rw_.same t2,en,r64,nlen,fun hl qs H3 hhl s3 L3 sok=>?_⟩
    obtain ⟨hs,hp,eh⟩:=sok.heads
    have t3:=t2.trans s3
    have M3:=s3 _ _ M2
    have L3':H3 hl = some (.lst (hs.map fun i:Nat=>V.int (i:Int))):=by
      rw [L3]
      have:(qs.map fun q=>V.int q.2) = (qs.map (·.2)).map V.int:=by rw [List.map_map];rfl
      rw [this,eh,List.map_map]
      rfl
    have C3:=s3 _ _ (s2 _ _ C1)
    have clM:cl ≠ ml:=zj C1 hml
    have clL:cl ≠ hl:=zj (s2 _ _ C1) hhl
    generalize hms:qM need (fun t=>row.count t) need.length = ms at M3
    refine ⟨true,true,ml,hl,rfl,⟨_,SqL.of M3⟩,⟨_,SqL.of L3'⟩,?_⟩
    refine Yx (K:=K) (k1:=true) (k2:=true) (xs:=ms.map V.str) (ys:=hs.map fun i:Nat=>V.int (i:Int)) (Xe rl nl at_ cl H ml ms hl hs row)
      ⟨_,_,rfl,t3,M3,L3',C3⟩ (fun i σ H4 ⟨_,_,_,_,m4,l4,_⟩=>⟨SqL.of m4,SqL.of l4⟩) ?_ ?_
    · rintro i x y σ H4 T hx hy ⟨v4,v5,rfl,s4,m4,l4,c4⟩ hT
      rw [List.getElem?_map] at hx hy
      obtain ⟨tip,et,rfl⟩:=Option.map_eq_some_iff.mp hx
      obtain ⟨hd,eh',rfl⟩:=Option.map_eq_some_iff.mp hy
      have ez:(ms.zip hs)[i]? = some (tip,hd):=List.getElem?_zip_eq_some.mpr ⟨et,eh'⟩
      have hdl:hd < row.length:=List.mem_range.mp (List.mem_filter.mp (hp.mem_iff.mp (List.mem_of_getElem? eh'))).1
      have s5:=ze (H:=H4) (o:=.tup [.str tip,.int (hd:Int)]) hT
      refine ⟨T,_,rfl,SqT.of zf,rfl,_,_,rfl,_,_,rfl,rfl,?_⟩
      have m5:=s5 _ _ m4
      have l5:=s5 _ _ l4
      have c5:=s5 _ _ c4
      have t5:=s4.trans s5
      generalize upd H4 T (.tup [.str tip,.int (hd:Int)]) = H5 at m5 l5 c5 t5
      refine ⟨_,rfl,_,rfl,_,rfl,cl,_,_,hd,rfl,rfl,c5,JG (by rw [List.length_map,jz];exact hdl),?_⟩
      refine ⟨_,_,rfl,fun c o z=>by rw [zu (zj z hcl)];exact t5 _ _ z,by rw [zu (Ne.symm clM)];exact m5,by rw [zu (Ne.symm clL)];exact l5,?_⟩
      rw [zf,zM ez,x6,List.map_set]
    · rintro σ H4 ⟨v4,v5,rfl,s4,m4,l4,c4⟩
      have e:(ms.zip hs).take (min (ms.map V.str).length (hs.map fun i:Nat=>V.int (i:Int)).length) = ms.zip hs:=by
        rw [List.length_map,List.length_map,<- List.length_zip,List.take_length]
      rw [e] at c4
      exact ⟨_,rfl,k cl _ H4 hcl s4 c4 ⟨qs,hs,sok,eh,hp,by rw [hms]⟩⟩
inductive ZF (vs:List V) (H:Hp) (Q:VK):Prop
  | mk (fl nl:Addr) (first:List Str) (needs:List (List Str)) (zs:List V) (_:vs = [.ref fl,.ref nl]) (_:H fl = some (.lst (first.map V.str))) (_:H nl = some (.lst zs)) (_:RwS H needs zs) (_:first.length < 64) (_:needs.length <= 1000) (_:(∀ need ∈ needs,need.length <= 1000)) (_:∀ (l:Addr) (rs:List (List Str)) (ys:List V) H',H l = none -> Same H H' -> H' l = some (.lst ys) -> RwS H' rs ys -> rs.length = needs.length -> Bear first needs rs -> (∀ y ∈ ys,∃ a,y = .ref a /\ H a = none) -> Q (.ref l) H'):ZF  vs H Q
def xQ:Sp:=fun vs H Q _=>ZF  vs H Q
theorem Vz:zJ ["first", "needs", "rows", "row", "at"] ["first", "needs"] (zo (zw 5)):=⟨rfl,rfl,rfl,by decide +kernel,rfl,by decide +kernel,by decide +kernel⟩
theorem RwS.snoc {H:Hp} {rs:List (List Str)} {zs:List V} {r:List Str} {T:Addr} (h:RwS H rs zs) (e:H T = some (.lst (r.map V.str))):RwS H (rs ++ [r]) (zs ++ [.ref T]):=by
  refine ⟨by rw [List.length_append,List.length_append,h.1];rfl,fun j q hq=>?_⟩
  by_cases hj:j < rs.length
  · rw [List.getElem?_append_left hj] at hq
    obtain ⟨U,e1,e2⟩:=h.2 j q hq
    exact ⟨U,by rw [List.getElem?_append_left (by rw [h.1];exact hj)];exact e1,e2⟩
  · have hl:=(List.getElem?_eq_some_iff.mp hq).1
    rw [List.length_append] at hl
    have ej:j = rs.length:=by simp at hl;omega
    subst ej
    rw [List.getElem?_append_right (Nat.le_refl _),Nat.sub_self] at hq
    have:r = q:=by simpa using hq
    subst this
    exact ⟨T,by rw [<- h.1,List.getElem?_append_right (Nat.le_refl _),Nat.sub_self];rfl,e⟩
def Xd (fl:_) (nl:_) (bl:_) (H:_) (first:List Str) (needs:List (List Str)):=fun (i:Nat) (σ:St) (H2:Hp)=>(Ex4 fun (rl:Addr) (rs:List (List Str)) (ys:List V) (v4:Option V)=>An9 (σ = [some (.ref fl),some (.ref nl),some (.ref bl),some (.ref rl),v4]) (Same H H2) (H2 bl = some (.lst ys)) (RwS H2 rs ys) (rs.length = i) (Bear first needs rs) (H2 rl = some (.lst (((first :: rs).getD i []).map V.str))) (rl ≠ bl) (∀ y ∈ ys,∃ a,y = .ref a /\ H a = none /\ a ≠ bl):Prop)
theorem Yl {f:Addr} {fd:FuncData} (F:Fun K "bear_tips" "bear_tips" (zw 5) f fd) (B:Blt mg) (Dnext_row:Dfn P w K mg base "next_row" 3 ["row", "needs", "at"] Qu):qC P w K mg base CX0 4 f fd ["first", "needs"] xQ:=by
  have nd:=Vz.nd
  refine F.ok Vz (fun vs H Q E h=>?_) (fun cdv A outer s H vs Q E hr h=>?_)
  · obtain ⟨fl,nl,first,needs,zs,rfl,_⟩:=h
    rfl
  · obtain ⟨fl,nl,first,needs,zs,rfl,hfl,hnl,rw_,f64,nlen,dlen,k⟩:=h
    have hbig:100000 < sizeLine:=by rw [sizeLine_eq];decide
    have e62:(2:Int) ^ 62 = 4611686018427387904:=by decide
    have zl:=rw_.1
    refine ⟨_,(zi (zx (i:=2) nd rfl (Or.inl rfl) (z9 zg))
      (zi (zx (i:=3) nd rfl (Or.inl rfl) (pv 0))
      (zi (zU PassesOwn.never rfl (qj rfl B.range (zc (zq zy rfl B.len boot_len (zc (pv 1) zg)) zg)) (zB (i:=4) nd rfl (Or.inl rfl))
      (zi (zx (i:=3) nd rfl (Or.inl rfl) (zn Dnext_row (hr.mono (by first | decide | exact Nat.le_refl _ | omega)) rfl (zc (pv 3) (zc (pv 1) (zc (pv 4) zg)))))
        (zr (qU (jv PySem.F.plainAttrs_list PySem.F.slot_list_append PySem.F.type_list_append qI (pv 2) (zc (pv 3) zg))))))
      (zr (zI (pv 2)))))),?_⟩
    refine ⟨le0,fun bl hbl=>?_⟩
    have s1:=ze (H:=H) (o:=.lst []) hbl
    have B1:upd H bl (.lst []) bl = some (.lst []):=zf
    generalize upd H bl (.lst []) = H1 at s1 B1
    refine ⟨_,rfl,_,rfl,nl,_,rfl,.inl (SqL.of (s1 _ _ hnl)),_,rfl,(by rw [e62];omega),(by rw [e62];omega),?_⟩
    rw [zl,Int.toNat_natCast]
    refine qB (Xd fl nl bl H first needs)
      ⟨fl,[],[],_,rfl,s1,B1,RwS.nil,rfl,Bear.nil,s1 _ _ hfl,zj hfl hbl,fun y h=>nomatch h⟩ ?_ ?_
    · rintro i σ H2 hi ⟨rl,rs,ys,v4,rfl,s2,b2,rs2,rl2,be,r2,nrl,ny⟩
      rw [Int.zero_add]
      have en:needs[i]? = some needs[i]:=List.getElem?_eq_getElem _
      generalize needs[i] = need at en
      have pl:=be.prev i (by omega)
      refine ⟨_,rfl,_,rfl,_,rfl,rl,nl,_,need,needs,zs,i,rfl,r2,s2 _ _ hnl,rw_.same s2,en,by rw [pl];exact f64,nlen,dlen need (List.mem_of_getElem? en),fun l row' H3 hl s3 L3 nr=>?_⟩
      have b3:=s3 _ _ b2
      have nlb:l ≠ bl:=fun z=>by rw [z,b2] at hl;cases hl
      refine ⟨_,rfl,.inl ⟨rfl,_,SqL.of b3⟩,_,rfl,bl,_,_,rfl,rfl,b3,by rw [rs2.1];omega,?_⟩
      have ks:∀ c o,H3 c = some o -> c ≠ bl -> upd H3 bl (.lst (ys ++ [.ref l])) c = some o:=fun c o z hc=>by rw [zu hc];exact z
      subst rl2
      refine ⟨l,rs ++ [row'],ys ++ [.ref l],_,rfl,fun c o z=>by rw [zu (zj z hbl)];exact s3 _ _ (s2 _ _ z),zf,?_,by rw [List.length_append];rfl,be.snoc en nr,?_,nlb,fun y hy=>?_⟩
      · have r3:RwS (upd H3 bl (.lst (ys ++ [.ref l]))) rs ys:=⟨rs2.1,fun j r e=>by
          obtain ⟨a,e1,e2⟩:=rs2.2 j r e
          obtain ⟨a',ea,_,na⟩:=ny _ (List.mem_of_getElem? e1)
          cases ea
          exact ⟨a,e1,ks _ _ (s3 _ _ e2) na⟩⟩
        exact r3.snoc (ks _ _ L3 nlb)
      · have:(first :: (rs ++ [row'])).getD (rs.length + 1) [] = row':=by
          rw [List.getD_eq_getElem?_getD]
          show ((rs ++ [row'])[rs.length]?).getD [] = row'
          rw [List.getElem?_append_right (Nat.le_refl _),Nat.sub_self]
          rfl
        rw [this]
        exact ks _ _ L3 nlb
      · rcases List.mem_append.mp hy with z | z
        · exact ny y z
        · exact ⟨l,List.mem_singleton.mp z,s2.none hl,nlb⟩
    · rintro σ H2 ⟨rl,rs,ys,v4,rfl,s2,b2,rs2,rl2,be,r2,nrl,ny⟩
      exact ⟨_,rfl,k bl rs ys H2 hbl s2 b2 rs2 rl2 be fun y hy=>let ⟨a,e,n,_⟩:=ny y hy;⟨a,e,n⟩⟩
end
def jD (need row:List Str):Bool:=need.all fun t=>decide (need.count t <= row.count t)
section
variable {P:Program} {w:World} {K:PySem.W.Frag} {mg:Str -> Option Value} {base:Heap}
theorem w8 {H:Hp}:∀ {ts:List Str} {xs:List V},Reps K H (ts.map Dat.str) xs -> xs = ts.map V.str
  | [],_,h=>h
  | t :: ts,_,h=>by
    obtain ⟨x,r,rfl,h1,h2⟩:=h
    cases (show x = .str t from h1)
    rw [w8 h2]
    rfl
end
def qL (ts:List Str):Dat:=.lst (ts.map Dat.str)
def lmB (first:List Str) (needs rs:List (List Str)):Bool:=decide (rs.length = needs.length) && (rs.all fun r=>decide (r.length = first.length)) && (rs.zip needs).all fun p=>jD p.2 p.1
section
variable {P:Program} {w:World} {K:PySem.W.Frag} {mg:Str -> Option Value} {base:Heap}
theorem ZL {H:Hp} {ts:List Str} {x:V} (h:Rep K H (qL ts) x):∃ a,x = .ref a /\ SqL K H a (ts.map V.str):=by
  obtain ⟨a,xs,rfl,qa,ra⟩:=h
  rw [w8 ra] at qa
  exact ⟨a,rfl,qa⟩
inductive vI (K:PySem.W.Frag) (vs:List V) (H:Hp) (Q:VK):Prop
  | mk (v:V) (rs:List (List Str)) (fl nl:Addr) (first:List Str) (needs:List (List Str)) (zs:List V) (_:vs = [.ref fl,.ref nl,v]) (_:Rep K H (.lst (rs.map qL)) v) (_:rs.length <= 100000) (_:H fl = some (.lst (first.map V.str))) (_:H nl = some (.lst zs)) (_:RwS H needs zs) (_:needs.length <= 1000) (_:(∀ need ∈ needs,need.length <= 1000)) (_:∀ H',Same H H' -> Q (.bl (lmB first needs rs)) H'):vI K vs H Q
def xt (K:PySem.W.Frag):Sp:=fun vs H Q _=>vI K vs H Q
theorem ZI:zJ ["_law_first", "_law_needs_here", "_law_rows", "_law_row", "_law_need"] ["_law_first", "_law_needs_here", "_law_rows"] (zo (zw 17)):=⟨rfl,rfl,rfl,by decide +kernel,rfl,by decide +kernel,by decide +kernel⟩
def J7 (fl:_) (nl:_) (a:_) (H3:_) (rs:List (List Str)) (needs:List (List Str)):=fun (i:Nat) (σ:St) (H4:Hp)=>(Ex2 fun (v3 v4:Option V)=>An3 (σ = [some (.ref fl),some (.ref nl),some (.ref a),v3,v4]) (Same H3 H4) (((rs.zip needs).take i).all (fun p=>jD p.2 p.1) = true):Prop)
theorem XR {f:Addr} {fd:FuncData} (F:Fun K "_law_meets" "_law_meets" (zw 17) f fd) (B:Blt mg):qC P w K mg base CX0 1 f fd ["_law_first", "_law_needs_here", "_law_rows"] (xt K):=by
  have nd:=ZI.nd
  refine F.ok ZI (fun vs H Q E h=>?_) (fun cdv A outer s H vs Q E hr h=>?_)
  · obtain ⟨v,rs,fl,nl,first,needs,zs,rfl,_⟩:=h
    rfl
  · obtain ⟨v,rs,fl,nl,first,needs,zs,rfl,rd,bd,hfl,hnl,rw_,nlen,dlen,k⟩:=h
    have hbig:200000 < sizeLine:=by rw [sizeLine_eq];decide
    have zl:=rw_.1
    refine ⟨_,(zi (jf (PW.pt (w9 (zR ZQ (zq zy rfl B.len boot_len (zc (pv 2) zg)) (zq zy rfl B.len boot_len (zc (pv 1) zg)) (zO _)) (xU (jP (jB (zq (j6 rfl) rfl B.all boot_all (zc (qF ["_law_first"] [0] rfl rfl (by kernel_rfl) (zD (pv 2)) (fun C0 s0 H0 ex0=>qE) (fun C0 s0 H0 ex0=>(jh Jx (zq (qt (K:=K) rfl) rfl B.len boot_len (zc (pv 0) zg)) (zq (qt (K:=K) rfl) rfl B.len boot_len (zc (pv 1) zg)) (zO _)))) zg)))))))
      (zr (zI jw))
      qw)
      (zi (zU PassesOwn.never rfl (zD (vQ rfl rfl B.list rfl B.zip qK (zc (pv 2) (zc (pv 1) zg)))) (jQ rfl (zV (zB (i:=3) nd rfl (Or.inr rfl)) (zV (zB (i:=4) nd rfl (Or.inr rfl)) jg)))
      (zr (jf (jP (jB (zq (j6 rfl) rfl B.all boot_all (zc (qF ["_law_row", "_law_need"] [3,4] rfl rfl (by kernel_rfl) (zD (pv 4)) (fun C0 s0 H0 ex0=>qE) (fun C0 s0 H0 ex0=>(jh Jw (xm (K:=K) rfl PySem.F.plainAttrs_list PySem.F.slot_list_count PySem.F.type_list_count (XX (K:=K) rfl) (pv 1) (zc (pv 0) zg)) (xm (K:=K) rfl PySem.F.plainAttrs_list PySem.F.slot_list_count PySem.F.type_list_count qA (pv 2) (zc (pv 0) zg)) (zO _)))) zg))))
        (zr (zI jw))
        qw)))
      (zr (zI jw)))),?_⟩
    obtain ⟨a,xs,rfl,qa,ra⟩:=rd
    have lx:=ra.len
    rw [List.length_map] at lx
    have k0:∀ H',Same H H' -> lmB first needs rs = false -> Q (.bl false) H':=fun H' s' e=>by have:=k H' s';rwa [e] at this
    refine ⟨_,rfl,a,xs,rfl,.inl qa,_,rfl,nl,zs,rfl,.inl (SqL.of hnl),rfl,_,rfl,jU (fun c=>?_) (fun c=>?_)⟩
    · refine ifT rfl (k0 H (Same.refl _) ?_)
      unfold lmB
      rw [decide_eq_false (fun z=>?_)]
      · rfl
      · rw [show xs.length = zs.length by omega,decide_eq_true rfl] at c
        cases c
    have hl:rs.length = needs.length:=by
      by_cases z:(xs.length:Int) = (zs.length:Int)
      · omega
      · exact absurd (by rw [decide_eq_false fun y=>z (V.int.inj y)];rfl) c
    refine ⟨_,rfl,a,rfl,⟨_,qa⟩,qp (K:=K) (a:=a) (xs:=xs) (fun i ws H1=>ws = ((rs.take i).map fun r=>decide (r.length = first.length)).map V.bl /\ Same H H1) ⟨rfl,Same.refl _⟩ (fun i ws H1 ⟨_,s1⟩=>s1.seq qa) ?_ ?_⟩
    · rintro i x ws H1 hx ⟨rfl,s1⟩
      obtain ⟨d,ed,r1⟩:=(ra.same s1).get hx
      rw [List.getElem?_map] at ed
      obtain ⟨r,er,rfl⟩:=Option.map_eq_some_iff.mp ed
      have hi:=(List.getElem?_eq_some_iff.mp er).1
      obtain ⟨b,rfl,qb⟩:=ZL r1
      refine ⟨rfl,_,rfl,b,_,rfl,.inl qb,_,rfl,fl,_,rfl,.inl (SqL.of (s1 _ _ hfl)),rfl,?_,?_,s1⟩
      · rw [List.length_map,List.length_map,List.length_take];omega
      · rw [zM er,List.map_append,List.map_append]
        show _ ++ [V.bl (decide (V.int ((r.map V.str).length:Int) = V.int ((first.map V.str).length:Int)))] = _ ++ [V.bl (decide (r.length = first.length))]
        rw [List.length_map,List.length_map,show decide (V.int (r.length:Int) = V.int (first.length:Int)) = decide (r.length = first.length) from decide_eq_decide.mpr ⟨fun z=>by have:=V.int.inj z;omega,fun z=>by rw [z]⟩]
    rintro ws H1 ⟨rfl,s1⟩
    rw [lx,List.take_length]
    refine ⟨by rw [List.length_map,List.length_map];omega,fun D hD=>⟨D,_,rfl,SqL.of zf,_,rfl,?_⟩⟩
    have s2:=s1.trans (ze (o:=.lst ((rs.map fun r=>decide (r.length = first.length)).map V.bl)) hD)
    generalize upd H1 D (.lst ((rs.map fun r=>decide (r.length = first.length)).map V.bl)) = H2 at s2
    rw [List.all_map]
    by_cases ha:(rs.all fun r=>decide (r.length = first.length)) = true
    · refine ifF (by show (!(rs.all fun r=>decide (r.length = first.length))) = false;rw [ha];rfl) ?_
      refine ⟨_,rfl,_,rfl,true,true,a,nl,xs,zs,rfl,s2.seq qa,SqL.of (s2 _ _ hnl),by omega,fun D3 Ts H3 s3 hD3 L3 tl tt=>?_⟩
      have t3:=s2.trans s3
      refine ⟨D3,rfl,⟨_,SqL.of L3⟩,qk (K:=K) (a:=D3) (xs:=Ts.map V.ref) (J7 fl nl a H3 rs needs) ⟨_,_,rfl,Same.refl _,rfl⟩ (fun i σ H4 _ ⟨_,_,_,s4,_⟩=>SqL.of (s4 _ _ L3)) ?_ ?_⟩
      · rintro i x σ H4 hx ⟨v3,v4,rfl,s4,al⟩
        rw [List.getElem?_map] at hx
        obtain ⟨T,eT,rfl⟩:=Option.map_eq_some_iff.mp hx
        have hi:i < min xs.length zs.length:=by rw [<- tl];exact (List.getElem?_eq_some_iff.mp eT).1
        have er:rs[i]? = some (rs[i]'(by omega)):=List.getElem?_eq_getElem _
        have en:needs[i]? = some (needs[i]'(by omega)):=List.getElem?_eq_getElem _
        generalize rs[i]'(by omega) = r at er
        generalize needs[i]'(by omega) = need at en
        have t4:=t3.trans s4
        have exx:xs[i]? = some (xs[i]'(by omega)):=List.getElem?_eq_getElem _
        generalize xs[i]'(by omega) = x at exx
        obtain ⟨d,ed,r1⟩:=(ra.same t4).get exx
        rw [List.getElem?_map,er] at ed
        cases ed
        obtain ⟨b,rfl,qb⟩:=ZL r1
        obtain ⟨na,e3,e4⟩:=rw_.2 i need en
        have hn4:=t4 _ _ e4
        have tT:H4 T = some (.tup [.ref b,.ref na]):=by
          obtain ⟨x',y',f1,f2,f3⟩:=tt i T eT
          rw [exx] at f1
          rw [e3] at f2
          cases f1
          cases f2
          exact s4 _ _ f3
        refine ⟨T,_,rfl,SqT.of tT,rfl,_,_,rfl,_,_,rfl,rfl,?_⟩
        refine ⟨_,rfl,na,rfl,⟨_,SqL.of hn4⟩,qp (K:=K) (a:=na) (xs:=need.map V.str) (fun j ws H5=>ws = ((need.take j).map fun t=>decide (need.count t <= r.count t)).map V.bl /\ Same H4 H5) ⟨rfl,Same.refl _⟩ (fun j ws H5 ⟨_,s5⟩=>SqL.of (s5 _ _ hn4)) ?_ ?_⟩
        · rintro j y ws H5 hy ⟨rfl,s5⟩
          rw [List.getElem?_map] at hy
          obtain ⟨t,et,rfl⟩:=Option.map_eq_some_iff.mp hy
          have hj:=(List.getElem?_eq_some_iff.mp et).1
          have nl1:=dlen need (List.mem_of_getElem? en)
          refine ⟨rfl,_,rfl,.inl ⟨rfl,_,s5.seq qb⟩,_,rfl,b,r,t,rfl,rfl,s5.seq qb,_,rfl,.inl ⟨rfl,_,SqL.of (s5 _ _ hn4)⟩,_,rfl,na,_,_,rfl,rfl,s5 _ _ hn4,_,_,rfl,rfl,?_,?_,s5⟩
          · rw [List.length_map,List.length_map,List.length_take];omega
          · rw [zM et,List.map_append,List.map_append]
            show _ ++ [V.bl (decide ((need.count t:Int) <= (r.count t:Int)))] = _ ++ [V.bl (decide (need.count t <= r.count t))]
            rw [show decide ((need.count t:Int) <= (r.count t:Int)) = decide (need.count t <= r.count t) from decide_eq_decide.mpr (by omega)]
        · rintro ws H5 ⟨rfl,s5⟩
          have nl1:=dlen need (List.mem_of_getElem? en)
          rw [show (need.map V.str).length = need.length from List.length_map _,List.take_length]
          refine ⟨by rw [List.length_map,List.length_map];omega,fun D6 hD6=>⟨D6,_,rfl,SqL.of zf,_,rfl,?_⟩⟩
          have s6:=s5.trans (ze (o:=.lst ((need.map fun t=>decide (need.count t <= r.count t)).map V.bl)) hD6)
          generalize upd H5 D6 (.lst ((need.map fun t=>decide (need.count t <= r.count t)).map V.bl)) = H6 at s6
          have em:(need.map fun t=>decide (need.count t <= r.count t)).all id = jD need r:=by rw [List.all_map];rfl
          rw [em]
          have ez:(rs.zip needs)[i]? = some (r,need):=List.getElem?_zip_eq_some.mpr ⟨er,en⟩
          by_cases hm:jD need r = true
          · rw [hm]
            refine ifF rfl ⟨_,_,rfl,s4.trans s6,?_⟩
            rw [zM ez,List.all_append,al]
            show (true && (jD need r && true)) = true
            rw [hm];rfl
          · have hf:jD need r = false:=by simpa using hm
            rw [hf]
            refine ifT rfl (k0 H6 (t4.trans s6) ?_)
            unfold lmB
            rw [show ((rs.zip needs).all fun p=>jD p.2 p.1) = false from ?_]
            · simp
            · rw [Bool.eq_false_iff]
              intro z
              have:=List.all_eq_true.mp z _ (List.mem_of_getElem? ez)
              have this:jD need r = true:=this
              rw [hf] at this
              cases this
      · rintro σ H4 ⟨v3,v4,rfl,s4,al⟩
        have hm:(Ts.map V.ref).length = (rs.zip needs).length:=by rw [List.length_map,List.length_zip];omega
        rw [hm,List.take_length] at al
        have:=k H4 (t3.trans s4)
        rw [show lmB first needs rs = true from by unfold lmB;rw [al,ha,decide_eq_true hl];rfl] at this
        exact this
    · have hf:(rs.all fun r=>decide (r.length = first.length)) = false:=by simpa using ha
      refine ifT (by show (!(rs.all fun r=>decide (r.length = first.length))) = true;rw [hf];rfl) (k0 H2 s2 ?_)
      unfold lmB
      rw [hf]
      simp
end
structure NeedsOk (first:List Str) (needs:List (List Str)):Prop where
  f0:1 <= first.length
  f1:first.length <= 6
  fn:∀ t ∈ first,Nm t
  nl:needs.length <= 60
  nn:∀ need ∈ needs,need.length <= first.length /\ ∀ t ∈ need,Nm t
structure Tps (first:List Str) (needs:List (List Str)) (tips:List Str):Prop where
  t8:tips.length <= 8
  nm:∀ t ∈ tips,Nm t
  fm:∀ t ∈ first,t ∈ tips
  nm2:∀ need ∈ needs,∀ t ∈ need,t ∈ tips
def RwB (b:Addr) (H:Hp) (rs:List (List Str)) (zs:List V):Prop:=zs.length = rs.length /\ ∀ (j:Nat) (r:List Str),rs[j]? = some r -> ∃ a,zs[j]? = some (.ref a) /\ a ≠ b /\ H a = some (.lst (r.map V.str))
theorem RwB.nil {b:Addr} {H:Hp}:RwB b H [] []:=⟨rfl,fun j k e=>by simp at e⟩
theorem RwB.rws {b:Addr} {H:Hp} {rs:List (List Str)} {zs:List V} (h:RwB b H rs zs):RwS H rs zs:=⟨h.1,fun j k e=>let ⟨T,a,_,c⟩:=h.2 j k e;⟨T,a,c⟩⟩
theorem RwB.draw {b:Addr} {H H':Hp} {rs:List (List Str)} {zs:List V} (h:RwB b H rs zs) (s:SameB b H H'):RwB b H' rs zs:=⟨h.1,fun j k e=>let ⟨T,a,n,c⟩:=h.2 j k e;⟨T,a,n,s _ _ c n⟩⟩
theorem RwB.snoc {b:Addr} {H:Hp} {rs:List (List Str)} {zs:List V} {r:List Str} {T:Addr} (h:RwB b H rs zs) (n:T ≠ b) (e:H T = some (.lst (r.map V.str))):RwB b H (rs ++ [r]) (zs ++ [.ref T]):=by
  refine ⟨by rw [List.length_append,List.length_append,h.1];rfl,fun j q hq=>?_⟩
  by_cases hj:j < rs.length
  · rw [List.getElem?_append_left hj] at hq
    obtain ⟨U,e1,e2⟩:=h.2 j q hq
    exact ⟨U,by rw [List.getElem?_append_left (by rw [h.1];exact hj)];exact e1,e2⟩
  · have hl:=(List.getElem?_eq_some_iff.mp hq).1
    rw [List.length_append] at hl
    have ej:j = rs.length:=by simp at hl;omega
    subst ej
    rw [List.getElem?_append_right (Nat.le_refl _),Nat.sub_self] at hq
    have:r = q:=by simpa using hq
    subst this
    exact ⟨T,by rw [<- h.1,List.getElem?_append_right (Nat.le_refl _),Nat.sub_self];rfl,n,e⟩
theorem we (i:Nat):ixN (i + 1) (-1) = some i:=by
  unfold ixN
  simp
  omega
theorem zap {r:Int} (h0:0 <= r) (h1:r < 4):∃ z:Int,atI [V.int 2,V.int 4,V.int 4,V.int 8] r = some (.int z) /\ 2 <= z /\ z <= 8:=by
  have hc:r = 0 \/ r = 1 \/ r = 2 \/ r = 3:=by omega
  rcases hc with rfl | rfl | rfl | rfl
  · exact ⟨2,rfl,by decide,by decide⟩
  · exact ⟨4,rfl,by decide,by decide⟩
  · exact ⟨4,rfl,by decide,by decide⟩
  · exact ⟨8,rfl,by decide,by decide⟩
theorem yB {ns:List Str} {i:Int} (h:0 <= i) (h':i < ns.length):∃ x,atI (ns.map V.str) i = some (.str x) /\ x ∈ ns:=by
  obtain ⟨v,e1,e2⟩:=WF (xs:=ns.map V.str) h (by rw [List.length_map];exact h')
  rw [List.getElem?_map] at e2
  obtain ⟨x,hx,rfl⟩:=Option.map_eq_some_iff.mp e2
  exact ⟨x,e1,List.mem_of_getElem? hx⟩
section
variable {P:Program} {w:World} {K:PySem.W.Frag} {mg:Str -> Option Value} {base:Heap}
inductive wX (vs:List V) (H:Hp) (Q:VK):Prop
  | mk (b:Addr) (few most n:Int) (_:vs = [.ref b,.int few,.int most]) (_:BoxAt H b n) (_:n < 100000) (_:0 <= few) (_:few <= most) (_:0 <= most) (_:most <= 60) (_:∀ (p fl nl:Addr) (first tips:List Str) (needs:List (List Str)) (zs:List V) H',SameB b H H' -> BoxAt H' b (n + 2000) -> H' p = some (.tup [.ref fl,.ref nl]) -> fl ≠ b -> nl ≠ b -> H' fl = some (.lst (first.map V.str)) -> H' nl = some (.lst zs) -> RwB b H' needs zs -> NeedsOk first needs -> Tps first needs tips -> (needs.length:Int) <= most -> Q (.ref p) H'):wX  vs H Q
def yH:Sp:=fun vs H Q _=>wX  vs H Q
theorem Jg:zJ ["_law_box_here", "_law_few", "_law_most", "_law_size", "_law_tips_here", "_law_first", "_law_needs_here", "_law_turn", "_law_many"] ["_law_box_here", "_law_few", "_law_most"] (zo (zw 16)):=⟨rfl,rfl,rfl,by decide +kernel,rfl,by decide +kernel,by decide +kernel⟩
def J6 (b:_) (few:_) (most:_) (H:_) (n:_):=fun (σ':St) (H':Hp)=>(Ex1 fun (z:Nat)=>An5 (σ' = [some (.ref b),some (.int few),some (.int most),some (.int (z:Int)),none,none,none,none,none]) (1 <= z) (z <= 6) (SameB b H H') (BoxAt H' b (n + 2)):Prop)
def J5 (tips:List Str) (b:_) (H5:_) (n:_):=fun (i:Nat) (zs:List V) (H6:Hp)=>(Ex1 fun (ts:List Str)=>An5 (zs = ts.map V.str) ((∀ t ∈ ts,t ∈ tips)) (ts.length = i) (SameB b H5 H6) (BoxAt H6 b (n + 160 + i)):Prop)
def J4 (b:_) (few:_) (most:_) (z:Nat) (tl:_) (fl:_) (nl:_) (H:_) (n:_) (first:List Str) (tips:List Str):=fun (i:Nat) (σ:St) (HA:Hp)=>(Ex4 fun (needs:List (List Str)) (zs:List V) (v7 v8:Option V)=>zby (σ = [some (.ref b),some (.int few),some (.int most),some (.int (z:Int)),some (.ref tl),some (.ref fl),some (.ref nl),v7,v8]) (SameB b H HA) (BoxAt HA b (n + 300 + 10 * i)) (HA fl = some (.lst (first.map V.str))) (HA nl = some (.lst zs)) (RwB b HA needs zs) ((∀ y ∈ zs,y ≠ .ref nl)) (needs.length = i) ((∀ need ∈ needs,need.length <= z /\ ∀ t ∈ need,t ∈ tips)) (Row HA tl tips):Prop)
def J3 (tips:List Str) (b:_) (HC:_) (n:_) (i:_):=fun (j:Nat) (ws:List V) (HD:Hp)=>(Ex1 fun (ts:List Str)=>An5 (ws = ts.map V.str) ((∀ t ∈ ts,t ∈ tips)) (ts.length = j) (SameB b HC HD) (BoxAt HD b (n + 300 + 10 * i + 2 + j)):Prop)
theorem VX {f:Addr} {fd:FuncData} (F:Fun K "_law_needs" "_law_needs" (zw 16) f fd) (B:Blt mg) (D_take:Dfn P w K mg base "_law_take" 1 ["_law_box_here", "_law_size"] jM) (D_names:Dfn P w K mg base "_law_names" 3 ["_law_box_here", "_law_many"] vF):qC P w K mg base CX0 4 f fd ["_law_box_here", "_law_few", "_law_most"] yH:=by
  have nd:=Jg.nd
  refine F.ok Jg (fun vs H Q E h=>?_) (fun cdv A outer s H vs Q E hr h=>?_)
  · obtain ⟨b,few,most,n,rfl,_⟩:=h
    rfl
  · obtain ⟨b,few,most,n,rfl,B0,hn,few0,few1,mo0,mo1,k⟩:=h
    have hbig:100000 < sizeLine:=by rw [sizeLine_eq];decide
    have e62:(2:Int) ^ 62 = 4611686018427387904:=by decide
    have hu:=hr.units0
    refine ⟨_,(zi (j2 (zx (i:=3) nd rfl (Or.inl rfl) (zA zN zk (zn D_take (hr.mono (by first | decide | exact Nat.le_refl _ | omega)) rfl (zc (pv 0) (zc (xy (zR Jx (zn D_take (hr.mono (by first | decide | exact Nat.le_refl _ | omega)) rfl (zc (pv 0) (zc zk zg))) zk (zO _)) zk zk) zg))))))
      (zi (zx (i:=4) nd rfl (Or.inr rfl) (zn D_names (hr.mono (by first | decide | exact Nat.le_refl _ | omega)) rfl (zc (pv 0) (zc (zA zN zk (zn D_take (hr.mono (by first | decide | exact Nat.le_refl _ | omega)) rfl (zc (pv 0) (zc (qf zP (z9 (zc zk (zc zk (zc zk (zc zk zg))))) (zn D_take (hr.mono (by first | decide | exact Nat.le_refl _ | omega)) rfl (zc (pv 0) (zc zk zg))) (fun _ _=>rfl)) zg)))) zg))))
      (zi (zan ["_law_tips_here", "_law_box_here"] [4,0] rfl rfl (by kernel_rfl) (qj rfl B.range (zc (pv 3) zg)) (fun C0 s0 H0 ex0=>qE) (fun C0 s0 H0 ex0=>(qf (xz (K:=K) rfl) (pv 1) (zn D_take (hr.mono (by first | decide | exact Nat.le_refl _ | omega)) rfl (zc (pv 2) (zc (zq (qt (K:=K) rfl) rfl B.len boot_len (zc (pv 1) zg)) zg))) (fun _ _=>rfl))) (zB (i:=5) nd rfl (Or.inl rfl)))
      (zi (zx (i:=6) nd rfl (Or.inl rfl) (z9 zg))
      (zi (j2 (zU PassesOwn.never rfl (qj rfl B.range (zc (zn D_take (hr.mono (by first | decide | exact Nat.le_refl _ | omega)) rfl (zc (pv 0) (zc (zA zN (xy (zR vV (zn D_take (hr.mono (by first | decide | exact Nat.le_refl _ | omega)) rfl (zc (pv 0) (zc zk zg))) zk (zO _)) (pv 1) (pv 2)) zk) zg))) zg)) (zB (i:=7) nd rfl (Or.inl rfl))
      (zi (zx (i:=8) nd rfl (Or.inl rfl) (qf zP (z9 (zc (pv 3) (zc (zn D_take (hr.mono (by first | decide | exact Nat.le_refl _ | omega)) rfl (zc (pv 0) (zc (zA zN (pv 3) zk) zg))) zg))) (zn D_take (hr.mono (by first | decide | exact Nat.le_refl _ | omega)) rfl (zc (pv 0) (zc zk zg))) (fun _ _=>rfl)))
        (zr (qU (jv PySem.F.plainAttrs_list PySem.F.slot_list_append PySem.F.type_list_append qI (pv 6) (zc (qF ["_law_tips_here", "_law_box_here"] [4,0] rfl rfl (by kernel_rfl) (qj rfl B.range (zc (pv 8) zg)) (fun C0 s0 H0 ex0=>qE) (fun C0 s0 H0 ex0=>(qf (xz (K:=K) rfl) (pv 1) (zn D_take (hr.mono (by first | decide | exact Nat.le_refl _ | omega)) rfl (zc (pv 2) (zc (zq (qt (K:=K) rfl) rfl B.len boot_len (zc (pv 1) zg)) zg))) (fun _ _=>rfl)))) zg)))))))
      (zi (j2 (jf (PW.pt (QE (zR (vU hu) (pv 6) (z9 zg) (zO _)) (yN (zR Jx (zn D_take (hr.mono (by first | decide | exact Nat.le_refl _ | omega)) rfl (zc (pv 0) (zc zk zg))) zk (zO _)))))
      (zr (xV (zK jF rfl B.list qK (zc (qf zP (pv 6) zk (fun _ _=>rfl)) zg)) (vO (pv 6) (VM Qn zk) jN)))
      qw))
      (zr (zI (jC (zc (pv 5) (zc (pv 6) zg))))))))))),?_⟩
    refine ⟨J6 b few most H n,?_,?_⟩
    · refine ⟨_,rfl,_,rfl,b,8,n,rfl,B0,by omega,by decide,by decide,fun r1 H1 r10 r11 B1 S1=>⟨rfl,_,rfl,jU (fun c=>?_) (fun c=>?_)⟩⟩
      · exact ⟨b,6,_,rfl,B1,by omega,by decide,by decide,fun q H2 a0 a1 B2 S2=>⟨_,_,rfl,rfl,(1 + q).toNat,by rw [show (((1 + q).toNat:Nat):Int) = 1 + q by omega];rfl,by omega,by omega,S1.trans S2,B2.mono (by omega)⟩⟩
      · exact ⟨b,3,_,rfl,B1,by omega,by decide,by decide,fun q H2 a0 a1 B2 S2=>⟨_,_,rfl,rfl,(1 + q).toNat,by rw [show (((1 + q).toNat:Nat):Int) = 1 + q by omega];rfl,by omega,by omega,S1.trans S2,B2.mono (by omega)⟩⟩
    rintro σ' H2 ⟨z,rfl,z0,z1,S2,B2⟩
    refine ⟨_,rfl,_,rfl,le4,fun l1 h1=>⟨_,rfl,b,4,_,rfl,B2.new h1,by omega,by decide,by decide,fun r H3 r0 r1 B3 S3=>?_⟩⟩
    have L3:=S3 l1 _ zf (B2.nne h1)
    obtain ⟨pz,ez,pz0,pz1⟩:=zap r0 r1
    refine ⟨l1,_,_,_,rfl,rfl,SqL.of L3,ez,b,pz,_,rfl,B3,by omega,by omega,by omega,fun q H4 q0 q1 B4 S4=>⟨_,_,rfl,rfl,b,1 + q,_,rfl,B4,by omega,by omega,by omega,fun tl tips H5 S5 B5 nt tN Rt tnd tlen=>?_⟩⟩
    have S5':=(((S2.new h1).trans S3).trans S4).trans S5
    clear S2 S3 S4 S5 B2 B3 B4 L3 h1
    have tips0:1 <= tips.length:=by omega
    refine ⟨_,rfl,_,rfl,(by rw [e62];omega),(by rw [e62];omega),?_⟩
    rw [Int.toNat_natCast]
    refine vY (J5 tips b H5 n) ⟨[],rfl,(fun t h=>nomatch h),rfl,SameB.refl _ _,B5.mono (by omega)⟩ ?_ ?_
    · rintro i zs H6 hi ⟨ts,rfl,tn,tl6,S6,B6⟩
      rw [Int.zero_add]
      have R6:=Rt.draw S6 nt
      refine ⟨rfl,_,rfl,_,rfl,_,rfl,tl,_,rfl,.inl (SqL.of R6.1),b,_,_,rfl,B6,by omega,by rw [List.length_map];omega,by rw [List.length_map];omega,fun q H7 q0 q1 B7 S7=>?_⟩
      rw [List.length_map] at q1
      obtain ⟨x,ex,hx⟩:=yB (ns:=tips) q0 q1
      refine ⟨tl,_,_,_,rfl,rfl,SqL.of (R6.draw S7 nt).1,ex,?_,ts ++ [x],by rw [List.map_append];rfl,fun t ht=>?_,by rw [List.length_append,tl6];rfl,S6.trans S7,B7.mono (by omega)⟩
      · rw [List.length_map];omega
      · rcases List.mem_append.mp ht with y | y
        · exact tn t y
        · rw [List.mem_singleton.mp y];exact hx
    rintro zs H6 ⟨first,rfl,fn,fl6,S6,B6⟩
    refine ⟨by rw [List.length_map];omega,fun fl hfl=>⟨le0,fun nl hnl=>?_⟩⟩
    have nf:fl ≠ b:=B6.nne hfl
    have B6':=B6.new (o:=.lst (first.map V.str)) hfl
    have nn:nl ≠ b:=B6'.nne hnl
    have nfn:fl ≠ nl:=fun y=>by rw [<- y,zf] at hnl;cases hnl
    have S7:=((S6.new (o:=.lst (first.map V.str)) hfl)).new (o:=.lst []) hnl
    have B7:=B6'.new (o:=.lst []) hnl
    have F7:upd (upd H6 fl (.lst (first.map V.str))) nl (.lst []) fl = some (.lst (first.map V.str)):=by rw [zu nfn];exact zf
    have N7:upd (upd H6 fl (.lst (first.map V.str))) nl (.lst []) nl = some (.lst []):=zf
    have S7':=S5'.trans S7
    have R7:=Rt.draw S7 nt
    have nN:H nl = none:=S5'.none (S6.none (by rw [zu (Ne.symm nfn)] at hnl;exact hnl) nn) nn
    have tln:tl ≠ nl:=fun y=>by
      have:=(S6.new (o:=.lst (first.map V.str)) hfl) _ _ Rt.1 nt
      rw [y] at this
      rw [this] at hnl
      cases hnl
    generalize upd (upd H6 fl (.lst (first.map V.str))) nl (.lst []) = H7 at S7 B7 F7 N7 S7' R7
    clear S6 B6 B6' hfl hnl S5' B5 S7
    refine ⟨fun σ' H'=>∃ (needs:List (List Str)) (zs:List V) (v7 v8:Option V),σ' = [some (.ref b),some (.int few),some (.int most),some (.int (z:Int)),some (.ref tl),some (.ref fl),some (.ref nl),v7,v8] /\ SameB b H H' /\ BoxAt H' b (n + 1500) /\ H' fl = some (.lst (first.map V.str)) /\ H' nl = some (.lst zs) /\ RwB b H' needs zs /\ (∀ y ∈ zs,y ≠ .ref nl) /\ (needs.length:Int) <= most /\ ∀ need ∈ needs,need.length <= z /\ ∀ t ∈ need,t ∈ tips,?_,?_⟩
    · refine ⟨_,rfl,_,rfl,b,8,_,rfl,B7,by omega,by decide,by decide,fun r8 H8 r80 r81 B8 S8=>⟨_,_,rfl,rfl,_,rfl,jU (fun c=>⟨_,rfl,_,_,rfl,rfl,b,_,_,rfl,B8,by omega,by omega,by omega,fun cnt H9 c0 c1 B9 S9=>⟨_,rfl,(by rw [e62];omega),(by rw [e62];omega),?_⟩⟩) (fun c=>⟨_,rfl,_,_,rfl,rfl,b,_,_,rfl,B8,by omega,by omega,by omega,fun cnt H9 c0 c1 B9 S9=>⟨_,rfl,(by rw [e62];omega),(by rw [e62];omega),?_⟩⟩)⟩⟩
      all_goals
        have S9':=S8.trans S9
        have cl:cnt <= most:=by omega
        clear c c1
        refine qB (J4 b few most z tl fl nl H n first tips)
          ⟨[],[],_,_,rfl,S7'.trans S9',B9.mono (by omega),S9' _ _ F7 nf,S9' _ _ N7 nn,RwB.nil,(fun y h=>nomatch h),rfl,(fun y h=>nomatch h),R7.draw S9' nt⟩ ?_ ?_
        · rintro i σ HA hi ⟨needs,zs,v7,v8,rfl,SA,BA,FA,NA,RA,yA,nlA,nnA,TA⟩
          rw [Int.zero_add]
          refine ⟨_,rfl,_,rfl,_,rfl,_,_,rfl,rfl,b,_,_,rfl,BA,by omega,by omega,by omega,fun q HB q0 q1 BB SB=>⟨le2,fun l hl=>⟨_,rfl,b,2,_,rfl,BB.new hl,by omega,by decide,by decide,fun r HC r0 r1 BC SC=>?_⟩⟩⟩
          have LC:=SC l _ zf (BB.nne hl)
          obtain ⟨m,em,m0,m1⟩:∃ m:Int,atI [V.int (z:Int),V.int q] r = some (.int m) /\ 0 <= m /\ m <= z:=by
            have hc:r = 0 \/ r = 1:=by omega
            rcases hc with rfl | rfl
            · exact ⟨z,rfl,by omega,by omega⟩
            · exact ⟨q,rfl,by omega,by omega⟩
          have SAC:SameB b HA HC:=(SB.new (o:=.lst [.int (z:Int),.int q]) hl).trans SC
          refine ⟨l,_,_,_,rfl,rfl,SqL.of LC,em,?_⟩
          have NC:=SAC _ _ NA nn
          refine ⟨_,rfl,.inl ⟨rfl,_,SqL.of NC⟩,_,rfl,_,rfl,(by rw [e62];omega),(by rw [e62];omega),?_⟩
          refine vY (J3 tips b HC n i) ⟨[],rfl,(fun t h=>nomatch h),rfl,SameB.refl _ _,BC.mono (by omega)⟩ ?_ ?_
          · rintro j ws HD hj ⟨ts,rfl,tn,tlD,SD,BD⟩
            rw [Int.zero_add]
            have RD:=(TA.draw SAC nt).draw SD nt
            refine ⟨rfl,_,rfl,_,rfl,_,rfl,tl,_,rfl,.inl (SqL.of RD.1),b,_,_,rfl,BD,by omega,by rw [List.length_map];omega,by rw [List.length_map];omega,fun q' HE q0' q1' BE SE=>?_⟩
            rw [List.length_map] at q1'
            obtain ⟨x,ex,hx⟩:=yB (ns:=tips) q0' q1'
            refine ⟨tl,_,_,_,rfl,rfl,SqL.of (RD.draw SE nt).1,ex,?_,ts ++ [x],by rw [List.map_append];rfl,fun t ht=>?_,by rw [List.length_append,tlD];rfl,SD.trans SE,BE.mono (by omega)⟩
            · rw [List.length_map];omega
            · rcases List.mem_append.mp ht with y | y
              · exact tn t y
              · rw [List.mem_singleton.mp y];exact hx
          · rintro ws HD ⟨ts,rfl,tn,tlD,SD,BD⟩
            have SAD:=SAC.trans SD
            have ND:=SAD _ _ NA nn
            refine ⟨by rw [List.length_map];omega,fun row hrow=>⟨nl,_,_,rfl,rfl,(ze hrow) _ _ ND,by rw [RA.1];omega,?_⟩⟩
            have nrow:row ≠ b:=BD.nne hrow
            have nrn:row ≠ nl:=fun y=>by rw [y,ND] at hrow;cases hrow
            have SAE:SameB b HA (upd HD row (.lst (ts.map V.str))):=SAD.new hrow
            refine ⟨needs ++ [ts],zs ++ [.ref row],_,_,rfl,(SA.trans SAE).put nN,((BD.new hrow).other nn).mono (by omega),by rw [zu nfn];exact SAE _ _ FA nf,zf,?_,fun y hy=>?_,by rw [List.length_append,nlA];rfl,fun need hneed=>?_,⟨by rw [zu tln];exact (TA.draw SAE nt).1,TA.2⟩⟩
            · have ra:RwB b (upd (upd HD row (.lst (ts.map V.str))) nl (.lst (zs ++ [.ref row]))) needs zs:=⟨RA.1,fun j' r' e=>by
                obtain ⟨a,e1,e2,e3⟩:=RA.2 j' r' e
                have na:a ≠ nl:=fun y=>yA _ (List.mem_of_getElem? e1) (by rw [y])
                exact ⟨a,e1,e2,by rw [zu na];exact SAE _ _ e3 e2⟩⟩
              exact ra.snoc nrow (by rw [zu nrn];exact zf)
            · rcases List.mem_append.mp hy with y' | y'
              · exact yA y y'
              · rw [List.mem_singleton.mp y']
                exact fun w'=>nrn (by cases w';rfl)
            · rcases List.mem_append.mp hneed with y' | y'
              · exact nnA need y'
              · rw [List.mem_singleton.mp y']
                exact ⟨by omega,tn⟩
        · rintro σ HA ⟨needs,zs,v7,v8,rfl,SA,BA,FA,NA,RA,yA,nlA,nnA,TA⟩
          exact ⟨needs,zs,v7,v8,rfl,SA,BA.mono (by omega),FA,NA,RA,yA,by omega,nnA⟩
    rintro σ' H8 ⟨needs,zs,v7,v8,rfl,S8,B8,F8,N8,R8,y8,nl8,nn8⟩
    have fin:∀ H':Hp,Same H' H':=Same.refl
    refine ⟨fun σ' H'=>∃ (needs:List (List Str)) (zs:List V) (v7 v8:Option V),σ' = [some (.ref b),some (.int few),some (.int most),some (.int (z:Int)),some (.ref tl),some (.ref fl),some (.ref nl),v7,v8] /\ SameB b H H' /\ BoxAt H' b (n + 1501) /\ H' fl = some (.lst (first.map V.str)) /\ H' nl = some (.lst zs) /\ RwB b H' needs zs /\ (needs.length:Int) <= most /\ ∀ need ∈ needs,need.length <= z /\ ∀ t ∈ need,t ∈ tips,?_,?_⟩
    · refine ⟨_,rfl,le0,fun el hel=>⟨nl,el,zs,rfl,rfl,SqL.of ((ze hel) _ _ N8),SqL.of zf,_,rfl,?_⟩⟩
      have S9:=(SameB.refl b H8).new (o:=.lst []) hel
      have B9:=B8.new (o:=.lst []) hel
      have N9:=(ze (o:=.lst []) hel) _ _ N8
      generalize upd H8 el (.lst []) = H9 at S9 B9 N9
      refine jU (fun c=>?_) (fun c=>?_)
      · refine ⟨_,rfl,b,4,_,rfl,B9,by omega,by decide,by decide,fun r HA r0 r1 BA SA=>⟨rfl,_,rfl,jU (fun c2=>?_) (fun c2=>?_)⟩⟩
        · have zp:0 < zs.length:=by
            cases zs with
            | nil=>cases c
            | cons x r=>exact Nat.succ_pos _
          have S8A:=S9.trans SA
          have NA:=S8A _ _ N8 nn
          have e0:needs[0]? = some (needs[0]'(by rw [<- R8.1];exact zp)):=List.getElem?_eq_getElem _
          generalize needs[0]'(by rw [<- R8.1];exact zp) = need at e0
          obtain ⟨a,e1,na,e3⟩:=R8.2 0 need e0
          have e3A:=S8A _ _ e3 na
          obtain ⟨i,ei⟩:∃ i,zs.length = i + 1:=⟨zs.length - 1,by omega⟩
          refine ⟨_,rfl,nl,_,_,_,rfl,rfl,SqL.of NA,(show atI zs ((0:Nat):Int) = some (.ref a) from jp e1),a,_,rfl,.inl (SqL.of e3A),fun cl hcl=>?_⟩
          have NB:=(ze (o:=.lst (need.map V.str)) hcl) _ _ NA
          have ncl:cl ≠ b:=BA.nne hcl
          have ncn:cl ≠ nl:=fun y=>by rw [y,NA] at hcl;cases hcl
          refine ⟨_,rfl,1,rfl,nl,_,_,i,rfl,rfl,NB,by rw [ei];exact we i,?_⟩
          have S8B:SameB b H8 (upd HA cl (.lst (need.map V.str))):=S8A.new hcl
          refine ⟨needs.set i need,zs.set i (.ref cl),_,_,rfl,(S8.trans S8B).put nN,((BA.new hcl).other nn).mono (by omega),by rw [zu nfn];exact S8B _ _ F8 nf,zf,⟨by rw [List.length_set,List.length_set,R8.1],fun j r hj=>?_⟩,by rw [List.length_set];exact nl8,fun nd' hnd=>?_⟩
          · by_cases ij:i = j
            · subst ij
              have hlt:i < needs.length:=by rw [<- R8.1,ei];exact Nat.lt_succ_self _
              rw [List.getElem?_set_self hlt] at hj
              cases hj
              exact ⟨cl,List.getElem?_set_self (by rw [ei];exact Nat.lt_succ_self _),ncl,by rw [zu ncn];exact zf⟩
            · rw [List.getElem?_set_ne ij] at hj
              obtain ⟨u,f1,f2,f3⟩:=R8.2 j r hj
              have nu:u ≠ nl:=fun y=>y8 _ (List.mem_of_getElem? f1) (by rw [y])
              exact ⟨u,by rw [List.getElem?_set_ne ij];exact f1,f2,by rw [zu nu];exact S8B _ _ f3 f2⟩
          · rcases List.mem_or_eq_of_mem_set hnd with y | y
            · exact nn8 nd' y
            · rw [y];exact nn8 need (List.mem_of_getElem? e0)
        · exact ⟨needs,zs,_,_,rfl,(S8.trans S9).trans SA,BA.mono (by omega),SA _ _ (S9 _ _ F8 nf) nf,SA _ _ N9 nn,(R8.draw S9).draw SA,nl8,nn8⟩
      · exact ifF rfl ⟨needs,zs,_,_,rfl,S8.trans S9,B9.mono (by omega),S9 _ _ F8 nf,N9,R8.draw S9,nl8,nn8⟩
    · rintro σ' H9 ⟨needs,zs,v7,v8,rfl,S9,B9,F9,N9,R9,nl9,nn9⟩
      refine ⟨_,rfl,_,rfl,le2,fun p hp=>?_⟩
      exact k p fl nl first tips needs zs _ (S9.new hp) ((B9.new hp).mono (by omega)) zf nf nn ((ze hp) _ _ F9) ((ze hp) _ _ N9) (R9.draw (SameB.of (ze hp))) ⟨by omega,by omega,fun t ht=>Rt.2 t (fn t ht),by omega,fun need hn'=>⟨by have:=(nn9 need hn').1;omega,fun t ht=>Rt.2 t ((nn9 need hn').2 t ht)⟩⟩ ⟨by omega,Rt.2,fn,fun need hn'=>(nn9 need hn').2⟩ nl9
end
mutual
def Dat.gd (k:Nat):Dat -> Bool
  | .int i=>decide (i.natAbs <= 10000000000 + k)
  | .str x=>x.cps.toList.all fun c=>decide (c < 128)
  | .lst ds=>Dat.gds k ds
  | .tup ds=>Dat.gds k ds
  | _=>true
def Dat.gds (k:Nat):List Dat -> Bool
  | []=>true
  | d :: ds=>d.gd k && Dat.gds k ds
end
mutual
theorem Dat.gd_up {k m:Nat} (h:k <= m):∀ {d:Dat},d.gd k = true -> d.gd m = true
  | .int i,e=>decide_eq_true (by have:=of_decide_eq_true (p:=i.natAbs <= 10000000000 + k) e;omega)
  | .str _,e=>e
  | .lst ds,e=>Dat.gds_up h (ds:=ds) e
  | .tup ds,e=>Dat.gds_up h (ds:=ds) e
  | .non,_=>rfl
  | .bl _,_=>rfl
theorem Dat.gds_up {k m:Nat} (h:k <= m):∀ {ds:List Dat},Dat.gds k ds = true -> Dat.gds m ds = true
  | [],_=>rfl
  | d :: ds,e=>by
    have e':(d.gd k && Dat.gds k ds) = true:=e
    rw [Bool.and_eq_true] at e'
    show (d.gd m && Dat.gds m ds) = true
    rw [Dat.gd_up h e'.1,Dat.gds_up h e'.2];rfl
end
mutual
theorem Dat.gd_shw {k:Nat} (h:k <= 5000000000):∀ {d:Dat},d.gd k = true -> d.shw = true
  | .int i,e=>decide_eq_true (by have:=of_decide_eq_true (p:=i.natAbs <= 10000000000 + k) e;omega)
  | .str x,e=>List.all_eq_true.mpr fun c hc=>decide_eq_true (Nat.lt_trans (of_decide_eq_true (List.all_eq_true.mp e c hc)) (by decide))
  | .lst ds,e=>Dat.gds_shw h (ds:=ds) e
  | .tup ds,e=>Dat.gds_shw h (ds:=ds) e
  | .non,_=>rfl
  | .bl _,_=>rfl
theorem Dat.gds_shw {k:Nat} (h:k <= 5000000000):∀ {ds:List Dat},Dat.gds k ds = true -> Dat.shws ds = true
  | [],_=>rfl
  | d :: ds,e=>by
    have e':(d.gd k && Dat.gds k ds) = true:=e
    rw [Bool.and_eq_true] at e'
    show (d.shw && Dat.shws ds) = true
    rw [Dat.gd_shw h e'.1,Dat.gds_shw h e'.2];rfl
end
structure GdD (k z D:Nat) (d:Dat):Prop where
  g:d.gd k = true
  b:d.blk <= z
  p:d.py.depth <= D
theorem GdD.up {k z D k' z' D':Nat} {d:Dat} (h:GdD k z D d) (h1:k <= k') (h2:z <= z') (h3:D <= D'):GdD k' z' D' d:=⟨Dat.gd_up h1 h.g,Nat.le_trans h.b h2,Nat.le_trans h.p h3⟩
section
variable {P:Program} {w:World} {K:PySem.W.Frag} {mg:Str -> Option Value} {base:Heap}
def DS (K:PySem.W.Frag) (F:Hp) (k z D:Nat) (v:V):Prop:=∃ d,Rep K F d v /\ GdD k z D d
theorem DS.up {F F':Hp} {k z D k' z' D':Nat} {v:V} (h:DS K F k z D v) (s:Same F F') (h1:k <= k') (h2:z <= z') (h3:D <= D'):DS K F' k' z' D' v:=let ⟨d,r,g⟩:=h;⟨d,r.same s,g.up h1 h2 h3⟩
theorem yL {F:Hp} {k z D:Nat}:∀ {xs:List V},(∀ x ∈ xs,DS K F k z D x) -> ∃ ds,Reps K F ds xs /\ Dat.gds k ds = true /\ Dat.blks ds <= (z + 1) * xs.length /\ PyData.depthAll (Dat.pys ds) <= D
  | [],_=>⟨[],rfl,rfl,Nat.zero_le _,Nat.zero_le _⟩
  | x :: xs,h=>by
    obtain ⟨d,r,g⟩:=h x (by simp)
    obtain ⟨ds,r',g',b',p'⟩:=yL (xs:=xs) fun y hy=>h y (List.mem_cons_of_mem _ hy)
    refine ⟨d :: ds,⟨x,xs,rfl,r,r'⟩,?_,?_,?_⟩
    · show (d.gd k && Dat.gds k ds) = true
      rw [g.g,g'];rfl
    · show d.blk + 1 + Dat.blks ds <= _
      have:=g.b
      rw [List.length_cons,Nat.mul_succ]
      omega
    · show max d.py.depth (PyData.depthAll (Dat.pys ds)) <= D
      have:=g.p
      omega
theorem DS.lst {F:Hp} {k z D z':Nat} {a:Addr} {xs:List V} (h:SqL K F a xs) (all:∀ x ∈ xs,DS K F k z D x) (hz:(z + 1) * xs.length <= z'):DS K F k z' (D + 1) (.ref a):=by
  obtain ⟨ds,r,g,b,p⟩:=yL all
  refine ⟨.lst ds,⟨a,xs,rfl,h,r⟩,g,Nat.le_trans b hz,?_⟩
  show PyData.depth (.list (Dat.pys ds)) <= _
  simp only [PyData.depth]
  omega
theorem DS.tup {F:Hp} {k z D z':Nat} {a:Addr} {xs:List V} (h:SqT K F a xs) (all:∀ x ∈ xs,DS K F k z D x) (hz:(z + 1) * xs.length <= z'):DS K F k z' (D + 1) (.ref a):=by
  obtain ⟨ds,r,g,b,p⟩:=yL all
  refine ⟨.tup ds,⟨a,xs,rfl,h,r⟩,g,Nat.le_trans b hz,?_⟩
  show PyData.depth (.tuple (Dat.pys ds)) <= _
  simp only [PyData.depth]
  omega
theorem WG {F:Hp} {k z D:Nat}:∀ {ds:List Dat} {xs:List V},Reps K F ds xs -> Dat.gds k ds = true -> Dat.blks ds <= z -> PyData.depthAll (Dat.pys ds) <= D -> xs.length <= z /\ ∀ x ∈ xs,DS K F k (z - 1) D x
  | [],_,h,_,_,_=>by rw [show _ = _ from h];exact ⟨Nat.zero_le _,fun x hx=>nomatch hx⟩
  | d :: ds,_,h,g,b,p=>by
    obtain ⟨v,r,e,h1,h2⟩:=h
    subst e
    have g':(d.gd k && Dat.gds k ds) = true:=g
    rw [Bool.and_eq_true] at g'
    have b':d.blk + 1 + Dat.blks ds <= z:=b
    have p':max d.py.depth (PyData.depthAll (Dat.pys ds)) <= D:=p
    obtain ⟨l,al⟩:=WG (z:=z - 1) (k:=k) (D:=D) h2 g'.2 (by omega) (by omega)
    refine ⟨by rw [List.length_cons];omega,fun x hx=>?_⟩
    rcases List.mem_cons.mp hx with q | q
    · rw [q];exact ⟨d,h1,g'.1,by omega,by omega⟩
    · exact (al x q).up (Same.refl _) (Nat.le_refl _) (by omega) (Nat.le_refl _)
theorem SqQ.same {H H':Hp} {t:Bool} {a:Addr} {xs:List V} (h:SqQ K H t a xs) (s:Same H H'):SqQ K H' t a xs:=by
  cases t with
  | true=>exact s.sqT h
  | false=>exact s.seq h
theorem zaO {k:Nat} {i:Int} (h:i.natAbs <= 10000000000 + k) (z D:Nat):GdD k z D (.int i):=⟨decide_eq_true h,Nat.zero_le _,by show PyData.depth (.int i) <= _;simp [PyData.depth]⟩
theorem DS.non {F:Hp} {k z D:Nat}:DS K F k z D .non:=⟨.non,rfl,rfl,Nat.zero_le _,by show PyData.depth .none <= _;simp [PyData.depth]⟩
theorem DS.bl {F:Hp} {k z D:Nat} (b:Bool):DS K F k z D (.bl b):=⟨.bl b,rfl,rfl,Nat.zero_le _,by show PyData.depth (.bool b) <= _;simp [PyData.depth]⟩
theorem DS.int {F:Hp} {k z D:Nat} {i:Int} (h:i.natAbs <= 10000000000 + k):DS K F k z D (.int i):=⟨.int i,rfl,zaO h z D⟩
theorem DS.str {F:Hp} {k z D:Nat} {x:Str} (h:x.length <= z) (hc:∀ c ∈ x.cps.toList,c < 128):DS K F k z D (.str x):=⟨.str x,rfl,List.all_eq_true.mpr fun c hc'=>decide_eq_true (hc c hc'),h,by show PyData.depth (.str x) <= _;simp [PyData.depth]⟩
end
structure Ex (H:Hp) (b:Addr) (ex:List Addr):Prop where
  mem:b ∈ ex
  al:∀ e ∈ ex,∃ o,H e = some o
theorem Ex.same {H H':Hp} {b:Addr} {ex:List Addr} (h:Ex H b ex) (s:Same H H'):Ex H' b ex:=⟨h.mem,fun e he=>let ⟨o,q⟩:=h.al e he;⟨o,s e o q⟩⟩
theorem Ex.cons {H:Hp} {b m:Addr} {o:HO} {ex:List Addr} (h:Ex H b ex) (hm:H m = some o):Ex H b (m :: ex):=⟨List.mem_cons_of_mem _ h.mem,fun e he=>(List.mem_cons.mp he).elim (fun z=>⟨o,by rw [z];exact hm⟩) (h.al e)⟩
section
variable {K:PySem.W.Frag}
end
section
variable {P:Program} {w:World} {K:PySem.W.Frag} {mg:Str -> Option Value} {base:Heap}
def GL (K:PySem.W.Frag) (F:Hp) (k z D:Nat) (xs:List V):Prop:=∃ ds,Reps K F ds xs /\ Dat.gds k ds = true /\ Dat.blks ds <= z /\ PyData.depthAll (Dat.pys ds) <= D
theorem GL.up {F F':Hp} {k z D k' z' D':Nat} {xs:List V} (h:GL K F k z D xs) (s:Same F F') (h1:k <= k') (h2:z <= z') (h3:D <= D'):GL K F' k' z' D' xs:=let ⟨ds,r,g,b,p⟩:=h;⟨ds,r.same s,Dat.gds_up h1 g,Nat.le_trans b h2,Nat.le_trans p h3⟩
theorem GL.nil {F:Hp} {k z D:Nat}:GL K F k z D []:=⟨[],rfl,rfl,Nat.zero_le _,Nat.zero_le _⟩
theorem GL.lst {F:Hp} {k z D:Nat} {a:Addr} {xs:List V} (q:SqL K F a xs) (h:GL K F k z D xs):DS K F k z (D + 1) (.ref a):=by
  obtain ⟨ds,r,g,b,p⟩:=h
  refine ⟨.lst ds,⟨a,xs,rfl,q,r⟩,g,b,?_⟩
  show PyData.depth (.list (Dat.pys ds)) <= _
  simp only [PyData.depth]
  omega
theorem GL.tup {F:Hp} {k z D:Nat} {a:Addr} {xs:List V} (q:SqT K F a xs) (h:GL K F k z D xs):DS K F k z (D + 1) (.ref a):=by
  obtain ⟨ds,r,g,b,p⟩:=h
  refine ⟨.tup ds,⟨a,xs,rfl,q,r⟩,g,b,?_⟩
  show PyData.depth (.tuple (Dat.pys ds)) <= _
  simp only [PyData.depth]
  omega
theorem GL.all {F:Hp} {k z D:Nat} {xs:List V} (h:GL K F k z D xs):xs.length <= z /\ ∀ x ∈ xs,DS K F k z D x:=by
  obtain ⟨ds,r,g,b,p⟩:=h
  obtain ⟨l,al⟩:=WG r g b p
  exact ⟨l,fun x hx=>(al x hx).up (Same.refl _) (Nat.le_refl _) (by omega) (Nat.le_refl _)⟩
end
theorem zaD {t:Str} (h:Nm t):∀ c ∈ t.cps.toList,c < 128:=fun c hc=>by
  have:=List.all_eq_true.mp h.2.2 (ZZ c) (List.mem_map_of_mem hc)
  unfold ZZ at this
  simp at this
  omega
theorem Q5:∀ {ts:List Str},(∀ t ∈ ts,Nm t) -> Dat.gds 0 (ts.map Dat.str) = true /\ Dat.blks (ts.map Dat.str) <= 9 * ts.length /\ PyData.depthAll (Dat.pys (ts.map Dat.str)) <= 0
  | [],_=>⟨rfl,Nat.le_refl _,Nat.le_refl _⟩
  | t :: ts,h=>by
    obtain ⟨h1,h2,h3⟩:=Q5 (ts:=ts) fun u hu=>h u (List.mem_cons_of_mem _ hu)
    have ht:=h t (by simp)
    refine ⟨?_,?_,?_⟩
    · show ((t.cps.toList.all fun c=>decide (c < 128)) && Dat.gds 0 (ts.map Dat.str)) = true
      rw [h1,List.all_eq_true.mpr fun c hc=>decide_eq_true (zaD ht c hc)];rfl
    · show t.length + 1 + Dat.blks (ts.map Dat.str) <= _
      have:=ht.2.1
      rw [List.length_cons];omega
    · show max (PyData.depth (.str t)) (PyData.depthAll (Dat.pys (ts.map Dat.str))) <= 0
      have:PyData.depth (.str t) = 0:=by simp [PyData.depth]
      omega
theorem VD {ts:List Str} (h:∀ t ∈ ts,Nm t) (hl:ts.length <= 6):GdD 0 54 1 (qL ts):=by
  obtain ⟨h1,h2,h3⟩:=Q5 h
  refine ⟨h1,Nat.le_trans h2 (by omega),?_⟩
  show PyData.depth (.list (Dat.pys (ts.map Dat.str))) <= 1
  simp only [PyData.depth]
  omega
theorem Jk:∀ {rs:List (List Str)},(∀ r ∈ rs,r.length <= 6 /\ ∀ t ∈ r,Nm t) -> Dat.gds 0 (rs.map qL) = true /\ Dat.blks (rs.map qL) <= 55 * rs.length /\ PyData.depthAll (Dat.pys (rs.map qL)) <= 1
  | [],_=>⟨rfl,Nat.le_refl _,Nat.zero_le _⟩
  | r :: rs,h=>by
    obtain ⟨h1,h2,h3⟩:=Jk (rs:=rs) fun u hu=>h u (List.mem_cons_of_mem _ hu)
    obtain ⟨hr1,hr2⟩:=h r (by simp)
    have g:=VD hr2 hr1
    refine ⟨?_,?_,?_⟩
    · show ((qL r).gd 0 && Dat.gds 0 (rs.map qL)) = true
      rw [h1,g.g];rfl
    · show (qL r).blk + 1 + Dat.blks (rs.map qL) <= _
      have:=g.b
      rw [List.length_cons];omega
    · show max (qL r).py.depth (PyData.depthAll (Dat.pys (rs.map qL))) <= 1
      have:=g.p
      omega
theorem WO {rs:List (List Str)} (h:∀ r ∈ rs,r.length <= 6 /\ ∀ t ∈ r,Nm t) (hl:rs.length <= 60):GdD 0 3400 2 (.lst (rs.map qL)):=by
  obtain ⟨h1,h2,h3⟩:=Jk h
  refine ⟨h1,Nat.le_trans h2 (by omega),?_⟩
  show PyData.depth (.list (Dat.pys (rs.map qL))) <= 2
  simp only [PyData.depth]
  omega
theorem Bear.shows {first:List Str} {needs rs:List (List Str)} (h:Bear first needs rs) (ok:NeedsOk first needs) (hl:rs.length = needs.length):(∀ r ∈ rs,r.length = first.length /\ ∀ t ∈ r,Nm t) /\ (∀ p ∈ rs.zip needs,∀ t,p.2.count t <= p.1.count t):=by
  have nmz:∀ j,j <= rs.length -> ∀ t ∈ (first :: rs).getD j [],Nm t:=fun j=>by
    induction j with
    | zero=>exact fun _=>ok.fn
    | succ j ih=>
      intro hj t ht
      have ep:rs[j]? = some (rs[j]'(by omega)):=List.getElem?_eq_getElem _
      rw [List.getD_eq_getElem?_getD,show (first :: rs)[j + 1]? = rs[j]? from rfl,ep] at ht
      obtain ⟨need,e1,e2⟩:=h j _ ep
      rcases e2.mem ht with z | z
      · exact ih (by omega) t z
      · exact (ok.nn need (List.mem_of_getElem? e1)).2 t z
  refine ⟨fun r hr=>?_,fun p hp t=>?_⟩
  · obtain ⟨j,hj,e⟩:=List.getElem_of_mem hr
    have ep:rs[j]? = some r:=by rw [<- e];exact List.getElem?_eq_getElem _
    refine ⟨h.len j r ep,fun t ht=>nmz (j + 1) (by omega) t ?_⟩
    rw [List.getD_eq_getElem?_getD,show (first :: rs)[j + 1]? = rs[j]? from rfl,ep]
    exact ht
  · obtain ⟨j,hj,e⟩:=List.getElem_of_mem hp
    have ep:(rs.zip needs)[j]? = some p:=by rw [<- e];exact List.getElem?_eq_getElem _
    obtain ⟨e1,e2⟩:=List.getElem?_zip_eq_some.mp ep
    obtain ⟨need,e3,nr⟩:=h j _ e1
    rw [e2] at e3
    cases e3
    refine nr.meets ?_ t
    rw [h.prev j (by have:=(List.getElem?_eq_some_iff.mp e1).1;omega)]
    exact (ok.nn _ (List.mem_of_getElem? e2)).1
section
variable {K:PySem.W.Frag}
theorem wS {F:Hp}:∀ (ts:List Str),Reps K F (ts.map Dat.str) (ts.map V.str)
  | []=>rfl
  | t :: ts=>⟨.str t,ts.map V.str,rfl,rfl,wS ts⟩
theorem Jl {F:Hp} {a:Addr} {ts:List Str} (h:F a = some (.lst (ts.map V.str))):Rep K F (qL ts) (.ref a):=⟨a,_,rfl,SqL.of h,wS ts⟩
theorem RwS.reps {F:Hp}:∀ {rs:List (List Str)} {ys:List V},RwS F rs ys -> Reps K F (rs.map qL) ys
  | [],ys,h=>by
    have:ys = []:=List.length_eq_zero_iff.mp h.1
    rw [this]
    rfl
  | r :: rs,[],h=>by have:=h.1;simp at this
  | r :: rs,y :: ys,h=>by
    obtain ⟨a,e,ha⟩:=h.2 0 r rfl
    have ey:y = .ref a:=by simpa using e
    exact ⟨y,ys,rfl,by rw [ey];exact Jl ha,RwS.reps ⟨by have:=h.1;simpa using this,fun j q hq=>by
      obtain ⟨a',e',ha'⟩:=h.2 (j + 1) q (by simpa using hq)
      exact ⟨a',by simpa using e',ha'⟩⟩⟩
end
section Bel
variable {α:Type}
def sm (U:List α) (f:α -> Nat):Nat:=(U.map f).sum
theorem QB (f:α -> Nat):sm [] f = 0:=rfl
theorem zT (x:α) (U:List α) (f:α -> Nat):sm (x :: U) f = f x + sm U f:=by unfold sm;rw [List.map_cons,List.sum_cons]
theorem ju {f g:α -> Nat}:∀ {U:List α},(∀ t ∈ U,f t <= g t) -> sm U f <= sm U g
  | [],_=>Nat.le_refl _
  | x :: U,h=>by
    have:=ju (U:=U) fun t ht=>h t (List.mem_cons_of_mem _ ht)
    have:=h x (by simp)
    rw [zT,zT]
    omega
theorem vL (f g:α -> Nat):∀ U:List α,sm U (fun t=>f t + g t) = sm U f + sm U g
  | []=>rfl
  | x :: U=>by
    have:=vL f g U
    rw [zT,zT,zT]
    omega
theorem jd {f g:α -> Nat} {U:List α} (h:∀ t ∈ U,f t = g t):sm U f = sm U g:=Nat.le_antisymm (ju fun t ht=>Nat.le_of_eq (h t ht)) (ju fun t ht=>Nat.le_of_eq (h t ht).symm)
theorem YN {f g:α -> Nat} {a:α}:∀ {U:List α},(∀ t ∈ U,f t <= g t) -> a ∈ U -> f a < g a -> sm U f < sm U g
  | [],_,ha,_=>by cases ha
  | x :: U,h,ha,hl=>by
    have h1:=h x (by simp)
    have h2:∀ t ∈ U,f t <= g t:=fun t ht=>h t (List.mem_cons_of_mem _ ht)
    rw [zT,zT]
    rcases List.mem_cons.mp ha with e | e
    · subst e
      have:=ju h2
      omega
    · have:=YN h2 e hl
      omega
variable [DecidableEq α]
def yO (f:α -> Nat) (b:α):α -> Nat:=fun t=>if t = b then f t + 1 else f t
theorem jZ (f:α -> Nat) {b:α}:∀ {U:List α},U.Nodup -> b ∈ U -> sm U (yO f b) = sm U f + 1
  | [],_,h=>by cases h
  | x :: U,nd,h=>by
    obtain ⟨n1,n2⟩:=List.nodup_cons.mp nd
    rw [zT,zT]
    by_cases e:x = b
    · subst e
      have:sm U (yO f x) = sm U f:=jd fun t ht=>if_neg fun z:t = x=>n1 (by rw [<- z];exact ht)
      have h2:yO f x x = f x + 1:=if_pos rfl
      omega
    · have:=jZ f n2 ((List.mem_cons.mp h).resolve_left fun z=>e z.symm)
      have h2:yO f b x = f x:=if_neg e
      omega
structure Swp (a b:α) (S T:α -> Nat):Prop where
  ne:a ≠ b
  ha:T a = S a + 1
  hb:S b = T b + 1
  eq:∀ t,t ≠ a -> t ≠ b -> S t = T t
theorem Swp.two {U:List α} {a b:α} {f g:α -> Nat} (nd:U.Nodup) (ha:a ∈ U) (hb:b ∈ U) (ab:a ≠ b) (h:∀ t,t ≠ a -> t ≠ b -> f t <= g t) (hs:f a + f b <= g a + g b):sm U f <= sm U g:=by
  have key:∀ (U:List α),U.Nodup -> ∀ F:α -> Nat,sm U F = sm U (fun t=>if t = a then 0 else if t = b then 0 else F t) + (if a ∈ U then F a else 0) + (if b ∈ U then F b else 0):=by
    intro U
    induction U with
    | nil=>intro _ F;simp [QB]
    | cons x U ih=>
      intro nd F
      obtain ⟨n1,n2⟩:=List.nodup_cons.mp nd
      have:=ih n2 F
      rw [zT,zT,this]
      by_cases xa:x = a
      · subst xa
        have e1:(if x ∈ U then F x else 0) = 0:=if_neg n1
        have e2:(b ∈ x :: U) ↔ b ∈ U:=⟨fun z=>(List.mem_cons.mp z).resolve_left fun y=>ab y.symm,List.mem_cons_of_mem _⟩
        rw [e1]
        simp only [e2,List.mem_cons,true_or,if_true]
        omega
      · by_cases xb:x = b
        · subst xb
          have e1:(if x ∈ U then F x else 0) = 0:=if_neg n1
          have e2:(a ∈ x :: U) ↔ a ∈ U:=⟨fun z=>(List.mem_cons.mp z).resolve_left ab,List.mem_cons_of_mem _⟩
          rw [e1]
          simp only [e2,List.mem_cons,true_or,if_true,if_neg xa]
          omega
        · have e1:(a ∈ x :: U) ↔ a ∈ U:=⟨fun z=>(List.mem_cons.mp z).resolve_left fun y=>xa y.symm,List.mem_cons_of_mem _⟩
          have e2:(b ∈ x :: U) ↔ b ∈ U:=⟨fun z=>(List.mem_cons.mp z).resolve_left fun y=>xb y.symm,List.mem_cons_of_mem _⟩
          simp only [e1,e2,if_neg xa,if_neg xb]
          omega
  rw [key U nd f,key U nd g]
  simp only [if_pos ha,if_pos hb]
  have:sm U (fun t=>if t = a then 0 else if t = b then 0 else f t) <= sm U (fun t=>if t = a then 0 else if t = b then 0 else g t):=ju fun t _=>by
    by_cases ta:t = a
    · simp [ta]
    · by_cases tb:t = b
      · simp [tb]
      · simp only [if_neg ta,if_neg tb];exact h t ta tb
  omega
def Q0 (a b:α) (X:α -> Nat):α -> Nat:=fun t=>if t = a then X a - 1 else if t = b then X b + 1 else X t
theorem xN {a b:α} {X:α -> Nat} (ab:a ≠ b) (h:1 <= X a):Swp a b (Q0 a b X) X:=by
  refine ⟨ab,?_,?_,fun t ta tb=>?_⟩
  · show _ = (if a = a then _ else _) + 1
    rw [if_pos rfl];omega
  · show (if b = a then _ else if b = b then _ else _) = _
    rw [if_neg (Ne.symm ab),if_pos rfl]
  · show (if t = a then _ else if t = b then _ else _) = _
    rw [if_neg ta,if_neg tb]
def dst (U:List α) (S T:α -> Nat):Nat:=sm U fun t=>T t - S t
theorem YA (U:List α) (S T X:α -> Nat):dst U S X <= dst U S T + dst U T X:=by
  unfold dst
  rw [<- vL]
  exact ju fun t _=>by omega
def Can (U:List α) (n:Nat):(α -> Nat) -> List (α -> Nat) -> Nat -> Prop
  | _,[],_=>True
  | S,N :: qu,c=>∃ (T:α -> Nat) (c':Nat),(∀ t ∈ U,N t <= T t) /\ sm U T = n /\ dst U S T + c' <= c /\ Can U n T qu c'
theorem Can.tri {U:List α} {n:Nat} {S T:α -> Nat}:∀ {needs:List (α -> Nat)} {c d:Nat},Can U n T needs c -> dst U S T <= d -> Can U n S needs (c + d)
  | [],_,_,_,_=>trivial
  | N :: qu,c,d,h,hd=>by
    obtain ⟨X,c',h1,h2,h3,h4⟩:=h
    have:=YA U S T X
    exact ⟨X,c',h1,h2,by omega,h4⟩
theorem Can.mono {U:List α} {n:Nat} {S:α -> Nat}:∀ {needs:List (α -> Nat)} {c d:Nat},Can U n S needs c -> c <= d -> Can U n S needs d
  | [],_,_,_,_=>trivial
  | N :: qu,c,d,h,hd=>by
    obtain ⟨X,c',h1,h2,h3,h4⟩:=h
    exact ⟨X,c',h1,h2,by omega,h4⟩
def Sooner:List (α -> Nat) -> α -> Nat -> α -> Nat -> Prop
  | [],_,_,_,_=>True
  | N :: r,b,m,a,k=>m <= N b \/ (N a < k /\ Sooner r b m a k)
theorem Sooner.mono {b a:α} {m m' k k':Nat} (hm:m' <= m) (hk:k <= k'):∀ {needs:List (α -> Nat)},Sooner needs b m a k -> Sooner needs b m' a k'
  | [],_=>trivial
  | N :: r,h=>by
    rcases h with h | ⟨h1,h2⟩
    · exact .inl (Nat.le_trans hm h)
    · exact .inr ⟨Nat.lt_of_lt_of_le h1 hk,Sooner.mono hm hk h2⟩
theorem Swp.can {U:List α} {n:Nat} {a b:α} (nd:U.Nodup) (ha:a ∈ U) (hb:b ∈ U):∀ {needs:List (α -> Nat)} {S T:α -> Nat} {c:Nat},Swp a b S T -> Sooner needs b (S b) a (T a) -> Can U n T needs c -> Can U n S needs c
  | [],_,_,_,_,_,_=>trivial
  | N :: qu,S,T,c,w,so,h=>by
    obtain ⟨X,c',h1,h2,h3,h4⟩:=h
    have wa:=w.ha
    have wb:=w.hb
    by_cases q:S b <= X b \/ X a <= S a
    · have:dst U S X <= dst U T X:=Swp.two nd ha hb w.ne (fun t ta tb=>by rw [w.eq t ta tb];exact Nat.le_refl _) (by rcases q with q | q <;> omega)
      exact ⟨X,c',h1,h2,by omega,h4⟩
    · have q1:¬ S b <= X b:=fun z=>q (.inl z)
      have q2:¬ X a <= S a:=fun z=>q (.inr z)
      have hN:=h1 b hb
      have hA:=h1 a ha
      rcases so with so | ⟨so1,so2⟩
      · omega
      · have w':=xN (a:=a) (b:=b) (X:=X) w.ne (by omega)
        have ea:=w'.ha
        have eb:=w'.hb
        have eq:=w'.eq
        generalize Q0 a b X = Y at w' eb ea eq
        refine ⟨Y,c',fun t ht=>?_,?_,?_,Swp.can nd ha hb w' (Sooner.mono (by omega) (by omega) so2) h4⟩
        · by_cases ta:t = a
          · subst ta;omega
          · by_cases tb:t = b
            · subst tb;omega
            · rw [eq t ta tb];exact h1 t ht
        · rw [<- h2]
          refine Nat.le_antisymm (Swp.two nd ha hb w.ne (fun t ta tb=>by rw [eq t ta tb];exact Nat.le_refl _) (by omega)) (Swp.two nd ha hb w.ne (fun t ta tb=>by rw [eq t ta tb];exact Nat.le_refl _) (by omega))
        · have:dst U S Y <= dst U T X:=Swp.two nd ha hb w.ne (fun t ta tb=>by rw [eq t ta tb,w.eq t ta tb];exact Nat.le_refl _) (by omega)
          omega
def Lazy (U:List α) (S N T:α -> Nat):Prop:=∀ t ∈ U,N t <= T t /\ T t <= max (S t) (N t)
theorem Lazy.dst {U:List α} {S N T:α -> Nat} (h:Lazy U S N T):dst U S T = sm U fun t=>N t - S t:=jd fun t ht=>by have:=h t ht;omega
theorem JB {U:List α} {f g:α -> Nat} {a:α} (h:sm U f = sm U g) (ha:a ∈ U) (hl:f a < g a):∃ b ∈ U,g b < f b:=by
  by_cases c:∃ b ∈ U,g b < f b
  · exact c
  · have:sm U f < sm U g:=YN (fun t ht=>Nat.le_of_not_lt fun z=>c ⟨t,ht,z⟩) ha hl
    omega
theorem Swp.sum {U:List α} {a b:α} {S T:α -> Nat} (w:Swp a b S T) (nd:U.Nodup) (ha:a ∈ U) (hb:b ∈ U):sm U S = sm U T:=by
  have wa:=w.ha
  have wb:=w.hb
  exact Nat.le_antisymm (Swp.two nd ha hb w.ne (fun t ta tb=>Nat.le_of_eq (w.eq t ta tb)) (by omega)) (Swp.two nd ha hb w.ne (fun t ta tb=>Nat.le_of_eq (w.eq t ta tb).symm) (by omega))
theorem JD {U:List α} {n:Nat} {S N:α -> Nat} {qu:List (α -> Nat)} (nd:U.Nodup) (hS:sm U S = n):∀ (k:Nat) {T:α -> Nat} {c:Nat},dst U S T <= k -> (∀ t ∈ U,N t <= T t) -> sm U T = n -> Can U n T qu c ->
    ∃ (X:α -> Nat) (d:Nat),Lazy U S N X /\ sm U X = n /\ Can U n X qu d /\ dst U S X + d <= dst U S T + c
  | k,T,c,hk,hm,hT,hc=>by
    by_cases q:∃ b ∈ U,max (S b) (N b) < T b
    · obtain ⟨b,hb,qb⟩:=q
      obtain ⟨a,ha,qa⟩:=JB (hS.trans hT.symm) hb (by omega:S b < T b)
      have ab:b ≠ a:=fun z=>by subst z;omega
      have w:=xN (a:=b) (b:=a) (X:=T) ab (by omega)
      have wa:=w.ha
      have wb:=w.hb
      have weq:=w.eq
      have wsum:=w.sum nd hb ha
      generalize Q0 b a T = Y at w wa wb weq wsum
      have d1:dst U S Y + 1 <= dst U S T:=by
        have:sm U (yO (fun t=>Y t - S t) b) <= sm U fun t=>T t - S t:=Swp.two nd hb ha ab (fun t ta tb=>by
          show (if t = b then _ else _) <= _
          rw [if_neg ta]
          show Y t - S t <= T t - S t
          rw [weq t ta tb];exact Nat.le_refl _) (by
          show (if b = b then _ else _) + (if a = b then _ else _) <= _
          rw [if_pos rfl,if_neg (Ne.symm ab)]
          show Y b - S b + 1 + (Y a - S a) <= T b - S b + (T a - S a)
          omega)
        rw [jZ _ nd hb] at this
        exact this
      have d2:dst U Y T <= 1:=by
        have:dst U Y T <= sm U (yO (fun _=>0) b):=ju fun t ht=>by
          show _ <= if t = b then 0 + 1 else 0
          by_cases tb:t = b
          · rw [if_pos tb];subst tb;omega
          · rw [if_neg tb]
            by_cases ta:t = a
            · subst ta;omega
            · rw [weq t tb ta];omega
        rw [jZ _ nd hb] at this
        have z:sm U (fun _:α=>0) = 0:=by
          have:∀ V:List α,sm V (fun _=>0) = 0:=fun V=>by
            induction V with
            | nil=>rfl
            | cons x V ih=>rw [zT,ih]
          exact this U
        omega
      cases k with
      | zero=>omega
      | succ k=>
        obtain ⟨X,d,r1,r2,r4,r5⟩:=JD (N:=N) nd hS k (T:=Y) (c:=c + 1) (by omega) (fun t ht=>by
          by_cases tb:t = b
          · subst tb;omega
          · by_cases ta:t = a
            · subst ta;have:=hm t ht;omega
            · rw [weq t tb ta];exact hm t ht) (by rw [wsum];exact hT) (hc.tri d2)
        exact ⟨X,d,r1,r2,r4,by omega⟩
    · exact ⟨T,c,fun t ht=>⟨hm t ht,Nat.le_of_not_lt fun z=>q ⟨t,ht,z⟩⟩,hT,hc,Nat.le_refl _⟩
def Far (U:List α) (S N G:α -> Nat) (qu:List (α -> Nat)):Prop:=∀ a ∈ U,∀ b ∈ U,G a < S a -> N b < G b -> Sooner qu b (G b) a (G a + 1)
theorem Z7 {U:List α} {n:Nat} {S N G:α -> Nat} {qu:List (α -> Nat)} (nd:U.Nodup) (hG:sm U G = n) (lG:Lazy U S N G) (far:Far U S N G qu):∀ (k:Nat) {T:α -> Nat} {c:Nat},dst U G T <= k -> Lazy U S N T -> sm U T = n -> Can U n T qu c -> Can U n G qu c
  | k,T,c,hk,lT,hT,hc=>by
    by_cases q:∃ a ∈ U,G a < T a
    · obtain ⟨a,ha,qa⟩:=q
      obtain ⟨b,hb,qb⟩:=JB (hG.trans hT.symm) ha qa
      have ab:a ≠ b:=fun z=>by subst z;omega
      have w:=xN (a:=a) (b:=b) (X:=T) ab (by omega)
      have wa:=w.ha
      have wb:=w.hb
      have weq:=w.eq
      have wsum:=w.sum nd ha hb
      generalize Q0 a b T = Y at w wa wb weq wsum
      have la:=lG a ha
      have lb:=lG b hb
      have ta:=lT a ha
      have tb:=lT b hb
      have so:=far a ha b hb (by omega) (by omega)
      have hc':=w.can nd ha hb (so.mono (by omega) (by omega)) hc
      have d1:dst U G Y + 1 <= dst U G T:=by
        have:sm U (yO (fun t=>Y t - G t) a) <= sm U fun t=>T t - G t:=Swp.two nd ha hb ab (fun t t1 t2=>by
          show (if t = a then _ else _) <= _
          rw [if_neg t1]
          show Y t - G t <= T t - G t
          rw [weq t t1 t2];exact Nat.le_refl _) (by
          show (if a = a then _ else _) + (if b = a then _ else _) <= _
          rw [if_pos rfl,if_neg (Ne.symm ab)]
          show Y a - G a + 1 + (Y b - G b) <= T a - G a + (T b - G b)
          omega)
        rw [jZ _ nd ha] at this
        exact this
      cases k with
      | zero=>omega
      | succ k=>
        refine Z7 nd hG lG far k (T:=Y) (by omega) (fun t ht=>?_) (by rw [wsum];exact hT) hc'
        by_cases t1:t = a
        · subst t1;omega
        · by_cases t2:t = b
          · subst t2;omega
          · rw [weq t t1 t2];exact lT t ht
    · have:dst U G T <= 0:=by
        have h:dst U G T <= sm U (fun _:α=>0):=ju fun t ht=>by
          have:¬ G t < T t:=fun z=>q ⟨t,ht,z⟩
          omega
        have z:∀ V:List α,sm V (fun _=>0) = 0:=fun V=>by
          induction V with
          | nil=>rfl
          | cons x V ih=>rw [zT,ih]
        rw [z U] at h
        exact h
      exact hc.tri this
theorem Vd {U:List α} {n c:Nat} {S N G:α -> Nat} {qu:List (α -> Nat)} (nd:U.Nodup) (hS:sm U S = n) (hG:sm U G = n) (lG:Lazy U S N G) (far:Far U S N G qu) (h:Can U n S (N :: qu) c):∃ d,Can U n G qu d /\ dst U S G + d <= c:=by
  obtain ⟨T,c',h1,h2,h3,h4⟩:=h
  obtain ⟨X,d,r1,r2,r4,r5⟩:=JD nd hS _ (Nat.le_refl _) h1 h2 h4
  refine ⟨d,Z7 nd hG lG far _ (Nat.le_refl _) r1 r2 r4,?_⟩
  have e1:=lG.dst
  have e2:=r1.dst
  omega
end Bel
def cn (l:List Str):Str -> Nat:=fun t=>l.count t
theorem xC (x:Str) (l:List Str):cn (x :: l) = yO (cn l) x:=by
  funext t
  show (x :: l).count t = if t = x then l.count t + 1 else l.count t
  rw [List.count_cons]
  by_cases h:t = x
  · subst h;simp
  · rw [if_neg h,if_neg (by simpa using fun z=>h z.symm)]
    rfl
theorem xu {α:Type}:∀ U:List α,sm U (fun _=>0) = 0
  | []=>rfl
  | x :: U=>by rw [zT,xu U]
theorem je {U:List Str} (nd:U.Nodup):∀ {l:List Str},(∀ t ∈ l,t ∈ U) -> sm U (cn l) = l.length
  | [],_=>xu U
  | x :: l,h=>by
    rw [xC,jZ _ nd (h x (by simp)),je nd fun t ht=>h t (List.mem_cons_of_mem _ ht)]
    rfl
def hd:List Str -> List Str -> Nat
  | x :: r,y :: q=>(if x = y then 0 else 1) + hd r q
  | _,_=>0
theorem QP {U:List Str} (nd:U.Nodup):∀ {r q:List Str},r.length = q.length -> (∀ t ∈ q,t ∈ U) -> dst U (cn r) (cn q) <= hd r q
  | [],[],_,_=>by
    show dst U (cn []) (cn []) <= 0
    have:dst U (cn []) (cn []) = sm U fun _=>0:=jd fun t _=>by omega
    rw [this,xu]
    exact Nat.le_refl _
  | x :: r,y :: q,hl,hq=>by
    have ih:=QP nd (r:=r) (q:=q) (by simpa using hl) fun t ht=>hq t (List.mem_cons_of_mem _ ht)
    have hy:=hq y (by simp)
    show _ <= (if x = y then 0 else 1) + hd r q
    by_cases e:x = y
    · subst e
      rw [if_pos rfl]
      have:dst U (cn (x :: r)) (cn (x :: q)) = dst U (cn r) (cn q):=jd fun t _=>by
        rw [xC,xC]
        show (if t = x then cn q t + 1 else cn q t) - (if t = x then cn r t + 1 else cn r t) = _
        split <;> omega
      omega
    · rw [if_neg e]
      have:dst U (cn (x :: r)) (cn (y :: q)) <= sm U (yO (fun t=>cn q t - cn r t) y):=ju fun t _=>by
        rw [xC,xC]
        show (if t = y then cn q t + 1 else cn q t) - (if t = x then cn r t + 1 else cn r t) <= if t = y then cn q t - cn r t + 1 else cn q t - cn r t
        split <;> split <;> omega
      rw [jZ _ nd hy] at this
      have e2:sm U (fun t=>cn q t - cn r t) = dst U (cn r) (cn q):=rfl
      omega
  | [],_ :: _,h,_=>by simp at h
  | _ :: _,[],h,_=>by simp at h
def chg:List Str -> List (List Str) -> Nat
  | _,[]=>0
  | r,q :: rs=>hd r q + chg q rs
theorem wo {U:List Str} (nd:U.Nodup) {n:Nat}:∀ {needs rs:List (List Str)} {r:List Str},rs.length = needs.length -> r.length = n -> (∀ q ∈ rs,q.length = n /\ ∀ t ∈ q,t ∈ U) -> (∀ p ∈ rs.zip needs,∀ t ∈ U,p.2.count t <= p.1.count t) -> Can U n (cn r) (needs.map cn) (chg r rs)
  | [],_,_,_,_,_,_=>trivial
  | N :: needs,[],_,h,_,_,_=>by simp at h
  | N :: needs,q :: rs,r,hl,hr,hq,hm=>by
    obtain ⟨q1,q2⟩:=hq q (by simp)
    refine ⟨cn q,chg q rs,fun t ht=>hm (q,N) (by simp) t ht,by rw [je nd q2];exact q1,?_,wo nd (by simpa using hl) q1 (fun p hp=>hq p (List.mem_cons_of_mem _ hp)) fun p hp=>hm p (by rw [List.zip_cons_cons];exact List.mem_cons_of_mem _ hp)⟩
    have:=QP nd (r:=r) (q:=q) (by omega) q2
    show _ <= hd r q + chg q rs
    omega
theorem va:∀ (m:Nat) {L:List Nat},L.Nodup -> (∀ x ∈ L,x < m) -> L.length <= m
  | 0,[],_,_=>Nat.le_refl _
  | 0,x :: _,_,h=>absurd (h x (by simp)) (by omega)
  | m + 1,L,nd,h=>by
    have h1:=va m (L:=L.erase m) (List.Nodup.sublist List.erase_sublist nd) fun x hx=>by
      have a:=h x (List.mem_of_mem_erase hx)
      have b:x ≠ m:=fun z=>by
        subst z
        exact (List.Nodup.not_mem_erase nd) hx
      omega
    have h2:L.length <= (L.erase m).length + 1:=by
      rw [List.length_erase]
      split <;> omega
    omega
theorem ZT {lo hi:Nat} {L:List Nat} (nd:L.Nodup) (h:∀ x ∈ L,lo <= x /\ x < hi):L.length <= hi - lo:=by
  have:=va (hi - lo) (L:=L.map fun x=>x - lo) (by
    unfold List.Nodup
    rw [List.pairwise_map]
    exact List.Pairwise.imp_of_mem (fun {a b} ha hb ne=>fun z=>ne (by have:=h a ha;have:=h b hb;omega)) nd) fun x hx=>by
    obtain ⟨y,hy,rfl⟩:=List.mem_map.mp hx
    have:=h y hy
    omega
  rwa [List.length_map] at this
theorem V0 {row:List Str} {i j:Nat} {t:Str} (hi:row.getD i "" = t) (hj:row.getD j "" = t) (il:i < row.length) (jl:j < row.length) (h:i < j):nth row i < nth row j:=by
  have ei:row[i]? = some t:=by
    rw [List.getD_eq_getElem?_getD,List.getElem?_eq_getElem il] at hi
    rw [List.getElem?_eq_getElem il,<- hi]
    rfl
  have ej:row[j]? = some t:=by
    rw [List.getD_eq_getElem?_getD,List.getElem?_eq_getElem jl] at hj
    rw [List.getElem?_eq_getElem jl,<- hj]
    rfl
  rw [xW ei,xW ej]
  have:(row.take (i + 1)).Sublist (row.take j):=by
    rw [show row.take (i + 1) = (row.take j).take (i + 1) by rw [List.take_take,show min (i + 1) j = i + 1 by omega]]
    exact List.take_sublist _ _
  have:=this.count_le t
  rw [zM ei,List.count_append] at this
  simp at this
  omega
theorem V7 {row:List Str} {t:Str} {hs:List Nat} (nd:hs.Nodup) (hl:∀ i ∈ hs,i < row.length):((hs.filter fun i=>decide (row.getD i "" = t)).map (nth row)).Nodup:=by
  unfold List.Nodup
  rw [List.pairwise_map]
  refine List.Pairwise.imp_of_mem (fun {a b} ha hb ne=>fun z=>?_) (List.Nodup.sublist List.filter_sublist nd)
  obtain ⟨a1,a2⟩:=List.mem_filter.mp ha
  obtain ⟨b1,b2⟩:=List.mem_filter.mp hb
  rcases Nat.lt_trichotomy a b with c | c | c
  · have:=V0 (of_decide_eq_true a2) (of_decide_eq_true b2) (hl a a1) (hl b b1) c
    omega
  · exact ne c
  · have:=V0 (of_decide_eq_true b2) (of_decide_eq_true a2) (hl b b1) (hl a a1) c
    omega
theorem wm (row:List Str) (t:Str) (hs:List Nat):(hs.map fun i=>row.getD i "").count t = (hs.filter fun i=>decide (row.getD i "" = t)).length:=by
  rw [List.count_eq_countP,List.countP_map,List.countP_eq_length_filter]
  congr 2
theorem zaC {row:List Str} {i:Nat} (h:i < row.length):nth row i <= row.count (row.getD i ""):=by
  unfold nth
  exact (List.take_sublist _ _).count_le _
theorem w6 {needs:List (List Str)} {a b:Str} {k m za zb:Nat} (hz:zb <= za):∀ (p:Nat),p <= zb -> (∀ l r,p <= l -> l < za -> needs[l]? = some r -> r.count a < k) -> (∀ r,needs[zb]? = some r -> m <= r.count b) -> Sooner ((needs.drop p).map cn) b m a k
  | p,hp,ha,hb=>by
    by_cases c:p < needs.length
    · have e:needs[p]? = some needs[p]:=List.getElem?_eq_getElem _
      rw [List.drop_eq_getElem_cons c,List.map_cons]
      by_cases q:p = zb
      · subst q
        exact .inl (hb _ e)
      · have:needs.length - (p + 1) < needs.length - p:=by omega
        exact .inr ⟨ha p _ (Nat.le_refl _) (by omega) e,w6 hz (p + 1) (by omega) (fun l r h1 h2=>ha l r (by omega) h2) hb⟩
    · rw [List.drop_of_length_le (by omega)]
      trivial
  termination_by p=>needs.length - p
theorem Zb:∀ r:List Str,hd r r = 0
  | []=>rfl
  | x :: r=>by show (if x = x then 0 else 1) + hd r r = 0;rw [if_pos rfl,Zb r]
theorem Wi:∀ {a b c:List Str},a.length = b.length -> b.length = c.length -> hd a c <= hd a b + hd b c
  | [],[],[],_,_=>Nat.le_refl _
  | x :: a,y :: b,z :: c,h1,h2=>by
    have:=Wi (a:=a) (b:=b) (c:=c) (by simpa using h1) (by simpa using h2)
    show (if x = z then 0 else 1) + hd a c <= ((if x = y then 0 else 1) + hd a b) + ((if y = z then 0 else 1) + hd b c)
    by_cases e1:x = y
    · subst e1
      rw [if_pos rfl];omega
    · rw [if_neg e1]
      have:(if x = z then 0 else 1) <= 1:=by split <;> omega
      omega
  | [],[],_ :: _,_,h=>by simp at h
  | [],_ :: _,_,h,_=>by simp at h
  | _ :: _,[],_,h,_=>by simp at h
  | _ :: _,_ :: _,[],_,h=>by simp at h
theorem Wj (v:Str):∀ (xs:List Str) (i:Nat),hd xs (xs.set i v) <= 1
  | [],_=>Nat.zero_le _
  | x :: xs,0=>by
    show (if x = v then 0 else 1) + hd xs xs <= 1
    rw [Zb]
    split <;> omega
  | x :: xs,i + 1=>by
    have:=Wj v xs i
    show (if x = x then 0 else 1) + hd xs (xs.set i v) <= 1
    rw [if_pos rfl];omega
theorem yg:∀ (r:List (Str × Nat)) (xs:List Str),hd xs (zQ xs r) <= r.length
  | [],xs=>Nat.le_of_eq (Zb xs)
  | p :: r,xs=>by
    have h1:=yg r (xs.set p.2 p.1)
    have h2:=Wj p.1 xs p.2
    have h3:=Wi (a:=xs) (b:=xs.set p.2 p.1) (c:=zQ (xs.set p.2 p.1) r) (by rw [List.length_set]) (by rw [jz])
    show hd xs (zQ (xs.set p.2 p.1) r) <= r.length + 1
    omega
theorem NextRow.best {U:List Str} {row need row':List Str} {needs:List (List Str)} {at_:Nat} (nd:U.Nodup) (h:NextRow row needs need at_ row') (hl:need.length <= row.length) (en:needs[at_]? = some need) (hN:∀ t ∈ need,t ∈ U) :
    Lazy U (cn row) (cn need) (cn row') /\ Far U (cn row) (cn need) (cn row') ((needs.drop (at_ + 1)).map cn) /\ hd row row' <= dst U (cn row) (cn row'):=by
  obtain ⟨qs,hs,sok,eh,hp,rfl⟩:=h
  have at_l:at_ < needs.length:=(List.getElem?_eq_some_iff.mp en).1
  have ml:(qM need (fun t=>row.count t) need.length).length <= hs.length:=by
    rw [hp.length_eq]
    unfold qM
    rw [List.length_map]
    exact Jy hl
  have oc:∀ t,(qM need (fun t=>row.count t) need.length).count t = need.count t - row.count t:=fun t=>by
    rw [qW t _ (Nat.le_refl _),List.take_length]
  have om:∀ t ∈ qM need (fun t=>row.count t) need.length,t ∈ U:=fun t ht=>hN t (ZO (Nat.le_refl _) ht)
  generalize qM need (fun t=>row.count t) need.length = ms at ml oc om
  have ndO:(qr row (fun t=>need.count t) row.length).Nodup:=List.Nodup.sublist List.filter_sublist List.nodup_range
  have ndh:hs.Nodup:=hp.nodup_iff.mpr ndO
  have spare:∀ i ∈ hs,i < row.length /\ need.count (row.getD i "") < nth row i:=fun i hi=>by
    obtain ⟨h1,h2⟩:=List.mem_filter.mp (hp.mem_iff.mp hi)
    exact ⟨List.mem_range.mp h1,of_decide_eq_true h2⟩
  have e1:(ms.zip hs).map (·.1) = ms:=List.map_fst_zip ml
  have e2:(ms.zip hs).map (·.2) = hs.take ms.length:=yz ml
  have c:∀ t,(zQ row (ms.zip hs)).count t + ((hs.take ms.length).map fun i=>row.getD i "").count t = row.count t + (need.count t - row.count t):=fun t=>by
    have:=jA t (ms.zip hs) row (by rw [e2];exact List.Nodup.sublist (List.take_sublist _ _) ndh) fun p hp'=>(spare _ (List.of_mem_zip hp').2).1
    rw [e1,e2,oc t] at this
    exact this
  have tot:∀ t,((hs.take ms.length).map fun i=>row.getD i "").count t + ((hs.drop ms.length).map fun i=>row.getD i "").count t = row.count t - need.count t:=fun t=>by
    rw [<- List.count_append,<- List.map_append,List.take_append_drop]
    have h2:(hs.map fun i=>row.getD i "").count t = (qM row (fun t=>need.count t) row.length).count t:=(hp.map _).count_eq t
    rw [qW t _ (Nat.le_refl _),List.take_length] at h2
    exact h2
  have lz:Lazy U (cn row) (cn need) (cn (zQ row (ms.zip hs))):=fun t _=>by
    have h1:=c t
    have h2:=tot t
    show need.count t <= (zQ row (ms.zip hs)).count t /\ (zQ row (ms.zip hs)).count t <= max (row.count t) (need.count t)
    omega
  refine ⟨lz,fun a ha b hb ga gb=>?_,?_⟩
  · have ca:=c a
    have ta:=tot a
    have cb:=c b
    have tb:=tot b
    have ga':(zQ row (ms.zip hs)).count a < row.count a:=ga
    have gb':need.count b < (zQ row (ms.zip hs)).count b:=gb
    show Sooner _ b ((zQ row (ms.zip hs)).count b) a ((zQ row (ms.zip hs)).count a + 1)
    rw [wm] at ca ta cb tb
    rw [wm] at ta tb
    obtain ⟨i,hi,ia,il⟩:∃ i ∈ hs.take ms.length,row.getD i "" = a /\ nth row i <= (zQ row (ms.zip hs)).count a + 1:=by
      refine Classical.byContradiction fun no=>?_
      have:=ZT (lo:=(zQ row (ms.zip hs)).count a + 2) (hi:=row.count a + 1) (V7 (t:=a) (List.Nodup.sublist (List.take_sublist ms.length hs) ndh) fun i hi=>(spare i (List.mem_of_mem_take hi)).1) fun x hx=>by
        obtain ⟨i,hi,rfl⟩:=List.mem_map.mp hx
        obtain ⟨h1,h2⟩:=List.mem_filter.mp hi
        have h3:=of_decide_eq_true h2
        have h4:=zaC (spare i (List.mem_of_mem_take h1)).1
        rw [h3] at h4
        refine ⟨Nat.le_of_not_lt fun z=>no ⟨i,h1,h3,by omega⟩,by omega⟩
      rw [List.length_map] at this
      omega
    obtain ⟨j,hj,jb,jl⟩:∃ j ∈ hs.drop ms.length,row.getD j "" = b /\ (zQ row (ms.zip hs)).count b <= nth row j:=by
      refine Classical.byContradiction fun no=>?_
      have:=ZT (lo:=need.count b + 1) (hi:=(zQ row (ms.zip hs)).count b) (V7 (t:=b) (List.Nodup.sublist (List.drop_sublist ms.length hs) ndh) fun i hi=>(spare i (List.mem_of_mem_drop hi)).1) fun x hx=>by
        obtain ⟨i,hi,rfl⟩:=List.mem_map.mp hx
        obtain ⟨h1,h2⟩:=List.mem_filter.mp hi
        have h3:=of_decide_eq_true h2
        have h4:=(spare i (List.mem_of_mem_drop h1)).2
        rw [h3] at h4
        exact ⟨h4,Nat.lt_of_not_le fun z=>no ⟨i,h1,h3,z⟩⟩
      rw [List.length_map] at this
      omega
    have m1:(i:Int) ∈ (qs.take ms.length).map (·.2):=by
      rw [List.map_take,eh,<- List.map_take]
      exact List.mem_map_of_mem hi
    have m2:(j:Int) ∈ (qs.drop ms.length).map (·.2):=by
      rw [List.map_drop,eh,<- List.map_drop]
      exact List.mem_map_of_mem hj
    obtain ⟨q1,hq1,eq1⟩:=List.mem_map.mp m1
    obtain ⟨q2,hq2,eq2⟩:=List.mem_map.mp m2
    have ord:=sok.ord
    rw [<- List.take_append_drop ms.length qs,List.pairwise_append] at ord
    have lt:=ord.2.2 q1 hq1 q2 hq2
    obtain ⟨z1,h1,rfl,_,n1⟩:=sok.of q1 (List.mem_of_mem_take hq1)
    obtain ⟨z2,h2,rfl,_,n2⟩:=sok.of q2 (List.mem_of_mem_drop hq2)
    have lt':((z2:Int) < (z1:Int) \/ (z2:Int) = (z1:Int) /\ (h2:Int) < (h1:Int)):=of_decide_eq_true lt
    have hz:z2 <= z1:=by omega
    have x1:h1 = i:=by have:(h1:Int) = (i:Int):=eq1;omega
    have x2:h2 = j:=by have:(h2:Int) = (j:Int):=eq2;omega
    subst x1 x2
    rw [ia] at n1
    rw [jb] at n2
    exact (w6 hz (at_ + 1) (n2.1 at_l) (fun l r p1 p2=>n1.2.2.1 l r p1 p2) n2.2.2.2).mono jl il
  · have h1:=yg (ms.zip hs) row
    have h2:(ms.zip hs).length = ms.length:=by rw [List.length_zip];omega
    have h3:dst U (cn row) (cn (zQ row (ms.zip hs))) = sm U (cn ms):=by
      rw [lz.dst]
      exact jd fun t _=>(oc t).symm
    rw [h3,je nd om]
    omega
theorem Bear.mem {U first:List Str} {needs rs:List (List Str)} (h:Bear first needs rs) (hf:∀ t ∈ first,t ∈ U) (hn:∀ need ∈ needs,∀ t ∈ need,t ∈ U):∀ j,j <= rs.length -> ∀ t ∈ (first :: rs).getD j [],t ∈ U
  | 0,_=>hf
  | j + 1,hj=>fun t ht=>by
    have ep:rs[j]? = some (rs[j]'(by omega)):=List.getElem?_eq_getElem _
    rw [List.getD_eq_getElem?_getD,show (first :: rs)[j + 1]? = rs[j]? from rfl,ep] at ht
    obtain ⟨need,e1,e2⟩:=h j _ ep
    rcases e2.mem ht with z | z
    · exact Bear.mem h hf hn j (by omega) t z
    · exact hn need (List.mem_of_getElem? e1) t z
theorem Bear.best {U first:List Str} {needs rs:List (List Str)} (nd:U.Nodup) (h:Bear first needs rs) (hl:rs.length = needs.length) (hf:∀ t ∈ first,t ∈ U) (hn:∀ need ∈ needs,need.length <= first.length /\ ∀ t ∈ need,t ∈ U) :
    ∀ (k j c:Nat),k = needs.length - j -> j <= rs.length -> Can U first.length (cn ((first :: rs).getD j [])) ((needs.drop j).map cn) c -> chg ((first :: rs).getD j []) (rs.drop j) <= c
  | 0,j,c,hk,hj,_=>by
    rw [List.drop_of_length_le (by omega)]
    exact Nat.zero_le _
  | k + 1,j,c,hk,hj,hc=>by
    have hjl:j < needs.length:=by omega
    have en:needs[j]? = some needs[j]:=List.getElem?_eq_getElem _
    have er:rs[j]? = some (rs[j]'(by omega)):=List.getElem?_eq_getElem _
    rw [List.drop_eq_getElem_cons hjl,List.map_cons] at hc
    rw [List.drop_eq_getElem_cons (show j < rs.length by omega)]
    obtain ⟨need,e1,e2⟩:=h j _ er
    rw [en] at e1
    cases e1
    have enx:(first :: rs).getD (j + 1) [] = rs[j]'(by omega):=by
      rw [List.getD_eq_getElem?_getD,show (first :: rs)[j + 1]? = rs[j]? from rfl,er]
      rfl
    have hn':∀ need ∈ needs,∀ t ∈ need,t ∈ U:=fun need hne=>(hn need hne).2
    have l0:=h.prev j hj
    have l1:=h.prev (j + 1) (by omega)
    have m0:=h.mem hf hn' j hj
    have m1:=h.mem hf hn' (j + 1) (by omega)
    have nx:=hn _ (List.mem_of_getElem? en)
    obtain ⟨b1,b2,b3⟩:=e2.best nd (by rw [l0];exact nx.1) en nx.2
    rw [enx] at l1 m1
    obtain ⟨d,c1,c2⟩:=Vd nd (by rw [je nd m0];exact l0) (by rw [je nd m1];exact l1) b1 b2 hc
    have ih:=Bear.best nd h hl hf hn k (j + 1) d (by omega) (by omega) (by rw [enx];exact c1)
    rw [enx] at ih
    show hd _ _ + chg _ _ <= c
    omega
def ddp:List Str -> List Str
  | []=>[]
  | x :: l=>if x ∈ ddp l then ddp l else x :: ddp l
theorem jk {t:Str}:∀ {l:List Str},t ∈ l -> t ∈ ddp l
  | x :: l,h=>by
    show t ∈ if x ∈ ddp l then ddp l else x :: ddp l
    rcases List.mem_cons.mp h with e | e
    · subst e
      split
      · assumption
      · exact List.mem_cons_self
    · have:=jk e
      split
      · exact this
      · exact List.mem_cons_of_mem _ this
theorem wl:∀ l:List Str,(ddp l).Nodup
  | []=>List.Pairwise.nil
  | x :: l=>by
    show (if x ∈ ddp l then ddp l else x :: ddp l).Nodup
    split
    · exact wl l
    · rename_i h
      exact List.nodup_cons.mpr ⟨h,wl l⟩
theorem QU {first:List Str} {needs rs qs:List (List Str)} (h:Bear first needs rs) (hl:rs.length = needs.length) (hn:∀ need ∈ needs,need.length <= first.length) (ql:qs.length = needs.length) (q1:∀ q ∈ qs,q.length = first.length) (qm:∀ p ∈ qs.zip needs,∀ t,p.2.count t <= p.1.count t):chg first rs <= chg first qs:=by
  have nd:=wl (first ++ (needs.flatten ++ qs.flatten))
  have hf:∀ t ∈ first,t ∈ ddp (first ++ (needs.flatten ++ qs.flatten)):=fun t ht=>jk (List.mem_append_left _ ht)
  have hN:∀ need ∈ needs,∀ t ∈ need,t ∈ ddp (first ++ (needs.flatten ++ qs.flatten)):=fun need h1 t h2=>jk (List.mem_append_right _ (List.mem_append_left _ (List.mem_flatten.mpr ⟨need,h1,h2⟩)))
  have hQ:∀ q ∈ qs,∀ t ∈ q,t ∈ ddp (first ++ (needs.flatten ++ qs.flatten)):=fun q h1 t h2=>jk (List.mem_append_right _ (List.mem_append_right _ (List.mem_flatten.mpr ⟨q,h1,h2⟩)))
  have hc:=wo nd (n:=first.length) ql rfl (fun q hq=>⟨q1 q hq,hQ q hq⟩) fun p hp t _=>qm p hp t
  have:=Bear.best nd h hl hf (fun need h1=>⟨hn need h1,hN need h1⟩) needs.length 0 _ (by omega) (Nat.zero_le _) (by rw [List.drop_zero];exact hc)
  rw [List.drop_zero] at this
  exact this
theorem NextOk.uniq {needs:List (List Str)} {at_ m z z':Nat} {tip:Str} (h:NextOk needs at_ tip m z) (h':NextOk needs at_ tip m z') (hl:at_ < needs.length):z = z':=by
  have key:∀ {u v:Nat},NextOk needs at_ tip m u -> NextOk needs at_ tip m v -> ¬ u < v:=fun {u v} hu hv c=>by
    have ul:u < needs.length:=Nat.lt_of_lt_of_le c hv.2.1
    have e:needs[u]? = some needs[u]:=List.getElem?_eq_getElem _
    have h1:=hu.2.2.2 _ e
    have h2:=hv.2.2.1 u _ (hu.1 hl) c e
    omega
  have:=key h h'
  have:=key h' h
  omega
theorem w4 {α:Type} {R:α -> α -> Prop} (as:∀ x y,R x y -> R y x -> False):∀ {l l':List α},l.Pairwise R -> l'.Pairwise R -> (∀ x,x ∈ l ↔ x ∈ l') -> l = l'
  | [],[],_,_,_=>rfl
  | [],y :: t,_,_,h=>by have:=(h y).mpr (by simp);cases this
  | x :: t,[],_,_,h=>by have:=(h x).mp (by simp);cases this
  | x :: t,y :: t',p,p',h=>by
    obtain ⟨p1,p2⟩:=List.pairwise_cons.mp p
    obtain ⟨q1,q2⟩:=List.pairwise_cons.mp p'
    have e:x = y:=Classical.byContradiction fun ne=>by
      have hx:=(List.mem_cons.mp ((h x).mp (by simp))).resolve_left ne
      have hy:=(List.mem_cons.mp ((h y).mpr (by simp))).resolve_left (Ne.symm ne)
      exact as x y (p1 y hy) (q1 x hx)
    subst e
    have irr:∀ z,R z z -> False:=fun z r=>as z z r r
    rw [w4 as p2 q2 fun z=>⟨fun hz=>?_,fun hz=>?_⟩]
    · rcases List.mem_cons.mp ((h z).mp (List.mem_cons_of_mem _ hz)) with e | e
      · subst e;exact (irr _ (p1 _ hz)).elim
      · exact e
    · rcases List.mem_cons.mp ((h z).mpr (List.mem_cons_of_mem _ hz)) with e | e
      · subst e;exact (irr _ (q1 _ hz)).elim
      · exact e
theorem SpareOk.uniq {row:List Str} {needs:List (List Str)} {need:List Str} {at_:Nat} {qs qs':List (Int × Int)} (h:SpareOk row needs need at_ qs) (h':SpareOk row needs need at_ qs') (hl:at_ < needs.length):qs = qs':=by
  have sub:∀ {u v:List (Int × Int)},SpareOk row needs need at_ u -> SpareOk row needs need at_ v -> ∀ p ∈ u,p ∈ v:=fun {u v} hu hv p hp=>by
    have m:p.2 ∈ v.map (·.2):=(hu.pm.trans hv.pm.symm).mem_iff.mp (List.mem_map_of_mem hp)
    obtain ⟨q,hq,eq⟩:=List.mem_map.mp m
    obtain ⟨z,i,rfl,_,n1⟩:=hu.of p hp
    obtain ⟨z',i',rfl,_,n2⟩:=hv.of q hq
    have e:i' = i:=by have:(i':Int) = (i:Int):=eq;omega
    subst e
    rw [n1.uniq n2 hl]
    exact hq
  refine w4 (R:=fun a b=>ltP b a = true) (fun x y h1 h2=>?_) h.ord h'.ord fun p=>⟨sub h h' p,sub h' h p⟩
  have:=V5 h1 h2
  rw [JA] at this
  cases this
theorem NextRow.uniq {row need r r':List Str} {needs:List (List Str)} {at_:Nat} (h:NextRow row needs need at_ r) (h':NextRow row needs need at_ r') (hl:at_ < needs.length):r = r':=by
  obtain ⟨qs,hs,s1,e1,_,rfl⟩:=h
  obtain ⟨qs',hs',s2,e2,_,rfl⟩:=h'
  have:=s1.uniq s2 hl
  subst this
  have e:(hs.map fun i:Nat=>(i:Int)) = hs'.map fun i:Nat=>(i:Int):=e1.symm.trans e2
  have inj:∀ {l l':List Nat},(l.map fun i:Nat=>(i:Int)) = (l'.map fun i:Nat=>(i:Int)) -> l = l':=fun {l l'} e=>by
    have:=congrArg (List.map Int.toNat) e
    rw [List.map_map,List.map_map] at this
    have c:(Int.toNat ∘ fun i:Nat=>(i:Int)) = id:=by funext i;exact Int.toNat_natCast i
    rwa [c,List.map_id,List.map_id] at this
  rw [inj e]
theorem Bear.uniq {first:List Str} {needs rs rs':List (List Str)} (h:Bear first needs rs) (h':Bear first needs rs') (hl:rs.length = needs.length) (hl':rs'.length = needs.length):rs = rs':=by
  have key:∀ j,j <= needs.length -> (first :: rs).getD j [] = (first :: rs').getD j []:=fun j=>by
    induction j with
    | zero=>exact fun _=>rfl
    | succ j ih=>
      intro hj
      have e1:rs[j]? = some (rs[j]'(by omega)):=List.getElem?_eq_getElem _
      have e2:rs'[j]? = some (rs'[j]'(by omega)):=List.getElem?_eq_getElem _
      rw [List.getD_eq_getElem?_getD,List.getD_eq_getElem?_getD,show (first :: rs)[j + 1]? = rs[j]? from rfl,show (first :: rs')[j + 1]? = rs'[j]? from rfl,e1,e2]
      obtain ⟨n1,a1,b1⟩:=h j _ e1
      obtain ⟨n2,a2,b2⟩:=h' j _ e2
      rw [a1] at a2
      cases a2
      rw [ih (by omega)] at b1
      exact b1.uniq b2 (by omega)
  refine List.ext_getElem (by omega) fun j a b=>?_
  have:=key (j + 1) (by omega)
  rw [List.getD_eq_getElem?_getD,List.getD_eq_getElem?_getD,show (first :: rs)[j + 1]? = rs[j]? from rfl,show (first :: rs')[j + 1]? = rs'[j]? from rfl,List.getElem?_eq_getElem a,List.getElem?_eq_getElem b] at this
  exact this
theorem JI (x y:Str):∀ {a b:List Str},a.length = b.length -> hd (a ++ [x]) (b ++ [y]) = hd a b + if x = y then 0 else 1
  | [],[],_=>by
    show (if x = y then 0 else 1) + 0 = 0 + if x = y then 0 else 1
    omega
  | u :: a,v :: b,h=>by
    have:=JI x y (a:=a) (b:=b) (by simpa using h)
    show (if u = v then 0 else 1) + hd (a ++ [x]) (b ++ [y]) = ((if u = v then 0 else 1) + hd a b) + if x = y then 0 else 1
    omega
  | [],_ :: _,h=>by simp at h
  | _ :: _,[],h=>by simp at h
theorem Yv {a b:List Str} {i:Nat} {x y:Str} (hx:a[i]? = some x) (hy:b[i]? = some y):hd (a.take (i + 1)) (b.take (i + 1)) = hd (a.take i) (b.take i) + if x = y then 0 else 1:=by
  have h1:=(List.getElem?_eq_some_iff.mp hx).1
  have h2:=(List.getElem?_eq_some_iff.mp hy).1
  rw [zM hx,zM hy,JI _ _ (by rw [List.length_take,List.length_take];omega)]
theorem Wk:∀ (a b:List Str),hd a b <= a.length
  | [],_=>Nat.zero_le _
  | _ :: _,[]=>Nat.zero_le _
  | x :: a,y :: b=>by
    have:=Wk a b
    show (if x = y then 0 else 1) + hd a b <= a.length + 1
    split <;> omega
theorem xh {ts:List Str} {i:Nat} {v:V} (h:(ts.map V.str)[i]? = some v):∃ x,v = .str x /\ ts[i]? = some x:=by
  rw [List.getElem?_map] at h
  obtain ⟨x,hx,rfl⟩:=Option.map_eq_some_iff.mp h
  exact ⟨x,rfl,hx⟩
theorem JK {α:Type} {l:List α} {i:Nat} {x:α} (h:l[i]? = some x):l.drop i = x :: l.drop (i + 1):=by
  obtain ⟨h1,h2⟩:=List.getElem?_eq_some_iff.mp h
  rw [<- h2,List.drop_eq_getElem_cons h1]
theorem RwS.at {H:Hp} {rs:List (List Str)} {ys:List V} {i:Nat} {x:V} (h:RwS H rs ys) (hx:ys[i]? = some x):∃ (a:Addr) (r:List Str),x = .ref a /\ rs[i]? = some r /\ H a = some (.lst (r.map V.str)):=by
  have hi:=(List.getElem?_eq_some_iff.mp hx).1
  rw [h.1] at hi
  obtain ⟨a,e1,e2⟩:=h.2 i _ (List.getElem?_eq_getElem hi)
  rw [hx] at e1
  exact ⟨a,_,Option.some.inj e1,List.getElem?_eq_getElem hi,e2⟩
section
variable {P:Program} {w:World} {K:PySem.W.Frag} {mg:Str -> Option Value} {base:Heap}
inductive ZE (vs:List V) (H:Hp) (Q:VK):Prop
  | mk (fl rl:Addr) (first:List Str) (rs:List (List Str)) (ys:List V) (_:vs = [.ref fl,.ref rl]) (_:H fl = some (.lst (first.map V.str))) (_:H rl = some (.lst ys)) (_:RwS H rs ys) (_:first.length <= 6) (_:(∀ r ∈ rs,r.length = first.length)) (_:rs.length <= 100) (_:∀ H',Same H H' -> Q (.int (chg first rs:Nat)) H'):ZE  vs H Q
def Qx:Sp:=fun vs H Q _=>ZE  vs H Q
theorem YS:zJ ["first", "rows", "many", "ahead", "row"] ["first", "rows"] (zo (zw 6)):=⟨rfl,rfl,rfl,by decide +kernel,rfl,by decide +kernel,by decide +kernel⟩
def J2 (fl:_) (rl:_) (H:_) (first:List Str) (rs:List (List Str)):=fun (i:Nat) (σ:St) (H2:Hp)=>(Ex4 fun (found:Nat) (ah:Addr) (ans:List Str) (v4:Option V)=>An5 (σ = [some (.ref fl),some (.ref rl),some (.int (found:Int)),some (.ref ah),v4]) (Same H H2) (H2 ah = some (.lst (ans.map V.str))) (ans.length = first.length) (found + chg ans (rs.drop i) = chg first rs):Prop)
theorem zaA {f:Addr} {fd:FuncData} (F:Fun K "changes_in" "changes_in" (zw 6) f fd) (B:Blt mg):qC P w K mg base CX0 2 f fd ["first", "rows"] Qx:=by
  have nd:=YS.nd
  refine F.ok YS (fun vs H Q E h=>?_) (fun cdv A outer s H vs Q E hr h=>?_)
  · obtain ⟨fl,rl,first,rs,ys,rfl,_⟩:=h
    rfl
  · obtain ⟨fl,rl,first,rs,ys,rfl,hf,hr',R,f6,rlen,r100,k⟩:=h
    have hbig:100000 < sizeLine:=by rw [sizeLine_eq];decide
    refine ⟨_,(zi (zx (i:=2) nd rfl (Or.inl rfl) zk)
      (zi (zx (i:=3) nd rfl (Or.inl rfl) (pv 0))
      (zi (zU PassesOwn.never rfl (zD (pv 1)) (zB (i:=4) nd rfl (Or.inl rfl))
      (zi (zao (i:=2) nd rfl (Or.inl rfl) (zq zy rfl B.len boot_len (zc (QF [] [] rfl rfl (by kernel_rfl) (VJ rfl B.zip (zc (pv 3) (zc (pv 4) zg))) (fun C0 s0 H0 ex0=>(vP (zR ZQ (pv 0) (pv 1) (zO _)))) (fun C0 s0 H0 ex0=>(pv 1))) zg)) zaN)
        (zr (zx (i:=3) nd rfl (Or.inl rfl) (pv 4)))))
      (zr (zI (pv 2)))))),?_⟩
    refine ⟨_,rfl,_,rfl,rl,rfl,⟨_,SqL.of hr'⟩,qk (K:=K) (a:=rl) (xs:=ys) (J2 fl rl H first rs)
      ⟨0,fl,first,_,rfl,Same.refl _,hf,rfl,by rw [List.drop_zero,Nat.zero_add]⟩ (fun i σ H2 _ ⟨_,_,_,_,_,s2,_,_,_⟩=>SqL.of (s2 _ _ hr')) ?_ ?_⟩
    · rintro i x σ H2 hx ⟨found,ah,ans,v4,rfl,s2,hah,lah,ec⟩
      obtain ⟨c,ns,rfl,hns,hc⟩:=(R.same s2).at hx
      have lns:=rlen ns (List.mem_of_getElem? hns)
      refine ⟨_,rfl,_,rfl,_,rfl,true,true,ah,c,rfl,⟨_,SqL.of hah⟩,⟨_,SqL.of hc⟩,?_⟩
      refine zaG (K:=K) (k1:=true) (k2:=true) (xs:=ans.map V.str) (ys:=ns.map V.str) (fun i' zs H3=>zs.length = hd (ans.take i') (ns.take i') /\ Same H2 H3) ⟨by rw [List.take_zero,List.take_zero];rfl,Same.refl _⟩ (fun i' zs H3 ⟨_,s3⟩=>⟨SqL.of (s3 _ _ hah),SqL.of (s3 _ _ hc)⟩) ?_ ?_
      · rintro i' vx vy zs H3 T gx gy ⟨ez,s3⟩ hT
        obtain ⟨sx,rfl,ax⟩:=xh gx
        obtain ⟨sy,rfl,ay⟩:=xh gy
        have es:=Yv ax ay
        have le:=Wk (ans.take i') (ns.take i')
        rw [List.length_take] at le
        have s4:=s3.trans (ze (o:=.tup [.str sx,.str sy]) hT)
        refine ⟨T,_,rfl,SqT.of zf,rfl,_,_,rfl,_,_,rfl,rfl,rfl,_,rfl,_,rfl,rfl,_,rfl,jU (fun d=>?_) (fun d=>?_)⟩
        · have ne:¬ sx = sy:=by simpa using d
          refine ⟨_,rfl,by omega,?_,s4⟩
          rw [es,if_neg ne,List.length_append,ez]
          rfl
        · have eq:sx = sy:=by simpa using d
          exact ⟨by rw [es,if_pos eq,ez];rfl,s4⟩
      · rintro zs H3 ⟨ez,s3⟩
        rw [List.length_map,List.length_map,show min ans.length ns.length = ans.length by omega,List.take_length,show ans.length = ns.length by omega,List.take_length] at ez
        have le:=Wk ans ns
        refine ⟨by omega,fun D hD=>⟨D,zs,rfl,.inl (SqL.of zf),_,_,rfl,rfl,?_⟩⟩
        refine ⟨_,rfl,found + zs.length,c,ns,_,by rw [Int.natCast_add];rfl,(s2.trans s3).trans (ze hD),(s3.trans (ze hD)) _ _ hc,by omega,?_⟩
        rw [JK hns] at ec
        have e2:chg ans (ns :: rs.drop (i + 1)) = hd ans ns + chg ns (rs.drop (i + 1)):=rfl
        omega
    · rintro σ H2 ⟨found,ah,ans,v4,rfl,s2,hah,lah,ec⟩
      rw [List.drop_of_length_le (by rw [R.1];exact Nat.le_refl _)] at ec
      have e0:chg ans [] = 0:=rfl
      have:found = chg first rs:=by omega
      subst this
      exact ⟨_,rfl,k H2 s2⟩
inductive Ja (vs:List V) (H:Hp) (Q:VK):Prop
  | mk (fl nl:Addr) (first:List Str) (needs:List (List Str)) (zs:List V) (_:vs = [.ref fl,.ref nl]) (_:H fl = some (.lst (first.map V.str))) (_:H nl = some (.lst zs)) (_:RwS H needs zs) (_:NeedsOk first needs) (_:∀ (rs:List (List Str)) H',Same H H' -> rs.length = needs.length -> Bear first needs rs -> Q (.int (chg first rs:Nat)) H'):Ja  vs H Q
def ZD:Sp:=fun vs H Q _=>Ja  vs H Q
theorem YR:zJ ["first", "needs"] ["first", "needs"] (zo (zw 7)):=⟨rfl,rfl,rfl,by decide +kernel,rfl,by decide +kernel,by decide +kernel⟩
theorem zaz {f:Addr} {fd:FuncData} (F:Fun K "fewest_changes" "fewest_changes" (zw 7) f fd) (B:Blt mg) (Dbear_tips:Dfn P w K mg base "bear_tips" 4 ["first", "needs"] xQ) (Dchanges_in:Dfn P w K mg base "changes_in" 2 ["first", "rows"] Qx):qC P w K mg base CX0 5 f fd ["first", "needs"] ZD:=by
  have nd:=YR.nd
  refine F.ok YR (fun vs H Q E h=>?_) (fun cdv A outer s H vs Q E hr h=>?_)
  · obtain ⟨fl,nl,first,needs,zs,rfl,_⟩:=h
    rfl
  · obtain ⟨fl,nl,first,needs,zs,rfl,hf,hn,R,ok,k⟩:=h
    have f1:=ok.f1
    have n1:=ok.nl
    refine ⟨_,(zr (zI (zn Dchanges_in (hr.mono (by first | decide | exact Nat.le_refl _ | omega)) rfl (zc (pv 0) (zc (zn Dbear_tips (hr.mono (by first | decide | exact Nat.le_refl _ | omega)) rfl (zc (pv 0) (zc (pv 1) zg))) zg))))),?_⟩
    refine ⟨_,rfl,_,rfl,_,rfl,fl,nl,first,needs,zs,rfl,hf,hn,R,by omega,by omega,fun need h=>by have:=(ok.nn need h).1;omega,fun l rs ys H1 hl s1 L1 Rs rl be fresh=>?_⟩
    exact ⟨fl,l,first,rs,ys,rfl,s1 _ _ hf,L1,Rs,f1,fun r hr'=>by
      obtain ⟨j,hj,e⟩:=List.getElem_of_mem hr'
      exact be.len j r (by rw [<- e];exact List.getElem?_eq_getElem hj),by omega,fun H2 s2=>k rs H2 (s1.trans s2) rl be⟩
end
def okT (b:List Str) (t:Str):Bool:=match b.getLast? with
  | none=>true
  | some l=>!ltS t l
def xA (ts b:List Str):List (List Str):=(ts.filter (okT b)).map fun t=>b ++ [t]
def ja (ts:List Str):Nat -> List (List Str)
  | 0=>[[]]
  | n + 1=>((ja ts n).map (xA ts)).flatten
theorem xF {ts:List Str}:∀ {n:Nat} {b:List Str},b ∈ ja ts n -> b.length = n /\ ∀ t ∈ b,t ∈ ts
  | 0,b,h=>by
    rw [List.mem_singleton.mp h]
    exact ⟨rfl,fun t h=>nomatch h⟩
  | n + 1,b,h=>by
    obtain ⟨l,hl,hb⟩:=List.mem_flatten.mp h
    obtain ⟨c,hc,rfl⟩:=List.mem_map.mp hl
    obtain ⟨t,ht,rfl⟩:=List.mem_map.mp hb
    obtain ⟨h1,h2⟩:=xF hc
    refine ⟨by rw [List.length_append,h1];rfl,fun u hu=>?_⟩
    rcases List.mem_append.mp hu with z | z
    · exact h2 u z
    · rw [List.mem_singleton.mp z];exact (List.mem_filter.mp ht).1
theorem Z6 {α:Type} {m:Nat}:∀ {l:List (List α)},(∀ x ∈ l,x.length <= m) -> l.flatten.length <= l.length * m
  | [],_=>Nat.zero_le _
  | x :: l,h=>by
    have h1:=Z6 (l:=l) fun y hy=>h y (List.mem_cons_of_mem _ hy)
    have h2:=h x (by simp)
    rw [List.flatten_cons,List.length_append,List.length_cons,Nat.add_mul,Nat.one_mul]
    omega
theorem Zc (ts b:List Str):(xA ts b).length <= ts.length:=by
  unfold xA
  rw [List.length_map]
  exact List.length_filter_le _ _
theorem vH (ts:List Str):∀ n,(ja ts n).length <= ts.length ^ n
  | 0=>Nat.le_refl _
  | n + 1=>by
    have h1:=vH ts n
    have h2:=Z6 (m:=ts.length) (l:=(ja ts n).map (xA ts)) fun x hx=>by
      obtain ⟨b,_,rfl⟩:=List.mem_map.mp hx
      exact Zc ts b
    rw [List.length_map] at h2
    exact Nat.le_trans h2 (Nat.mul_le_mul h1 (Nat.le_refl _))
theorem V4:∀ {r:List Str},r ≠ [] -> ∃ t ∈ r,∀ y ∈ r,ltS t y = false
  | [],h=>absurd rfl h
  | x :: r,_=>by
    by_cases e:r = []
    · subst e
      exact ⟨x,by simp,fun y hy=>by rw [List.mem_singleton.mp hy];exact Jz x⟩
    · obtain ⟨t,ht,hm⟩:=V4 e
      cases c:ltS t x with
      | true=>
        refine ⟨x,by simp,fun y hy=>?_⟩
        rcases List.mem_cons.mp hy with z | z
        · rw [z];exact Jz x
        · cases d:ltS x y with
          | false=>rfl
          | true=>
            have:=zaF c d
            rw [hm y z] at this
            cases this
      | false=>
        refine ⟨t,List.mem_cons_of_mem _ ht,fun y hy=>?_⟩
        rcases List.mem_cons.mp hy with z | z
        · rw [z];exact c
        · exact hm y z
theorem Zj {ts:List Str}:∀ {n:Nat} {r:List Str},r.length = n -> (∀ t ∈ r,t ∈ ts) -> ∃ b ∈ ja ts n,∀ t,b.count t = r.count t
  | 0,r,hl,_=>by
    rw [List.length_eq_zero_iff.mp hl]
    exact ⟨[],by simp [ja],fun t=>rfl⟩
  | n + 1,r,hl,hm=>by
    obtain ⟨t,ht,mx⟩:=V4 (r:=r) (fun e=>by rw [e] at hl;cases hl)
    obtain ⟨b,hb,hc⟩:=Zj (n:=n) (r:=r.erase t) (by rw [List.length_erase_of_mem ht];omega) fun u hu=>hm u (List.mem_of_mem_erase hu)
    refine ⟨b ++ [t],?_,fun u=>?_⟩
    · refine List.mem_flatten.mpr ⟨xA ts b,List.mem_map_of_mem hb,List.mem_map.mpr ⟨t,List.mem_filter.mpr ⟨hm t ht,?_⟩,rfl⟩⟩
      unfold okT
      cases e:b.getLast? with
      | none=>rfl
      | some l=>
        have lb:l ∈ b:=List.mem_of_getLast? e
        have:0 < (r.erase t).count l:=by rw [<- hc l];exact List.count_pos_iff.mpr lb
        have lr:l ∈ r:=List.mem_of_mem_erase (List.count_pos_iff.mp this)
        show (!ltS t l) = true
        rw [mx l lr]
        rfl
    · have p:=(List.perm_cons_erase ht).count_eq u
      rw [List.count_append,hc u,p,List.count_cons,List.count_cons]
      simp
def Snd (U:List Str) (n:Nat) (first:List Str) (pre:List (Str -> Nat)) (bag:List Str) (v:Nat):Prop:=∀ (qu:List (Str -> Nat)) (c:Nat),Can U n (cn bag) qu c -> Can U n (cn first) (pre ++ qu) (v + c)
theorem Snd.zero {U:List Str} {n:Nat} {first bag:List Str} (h:∀ t ∈ U,bag.count t = first.count t):Snd U n first [] bag 0:=fun qu c hc=>by
  have:dst U (cn first) (cn bag) <= 0:=by
    have e:dst U (cn first) (cn bag) = sm U fun _=>0:=jd fun t ht=>by
      have:=h t ht
      show bag.count t - first.count t = 0
      omega
    rw [e,xu]
    exact Nat.le_refl _
  exact (hc.tri this).mono (by omega)
theorem Snd.step {U:List Str} {n v:Nat} {first o bag need:List Str} {pre:List (Str -> Nat)} (h:Snd U n first pre o v) (hm:∀ t ∈ U,need.count t <= bag.count t) (hs:sm U (cn bag) = n):Snd U n first (pre ++ [cn need]) bag (v + dst U (cn o) (cn bag)):=fun qu c hc=>by
  have:=h (cn need :: qu) (dst U (cn o) (cn bag) + c) ⟨cn bag,c,hm,hs,Nat.le_refl _,hc⟩
  rw [List.append_assoc]
  exact this.mono (by omega)
theorem Y8 {U bag o:List Str} (nd:U.Nodup) (hb:∀ t ∈ bag,t ∈ U):(sm U fun t=>min (bag.count t) (o.count t)) + dst U (cn o) (cn bag) = bag.length:=by
  rw [<- je nd hb,show dst U (cn o) (cn bag) = sm U fun t=>cn bag t - cn o t from rfl,<- vL]
  exact jd fun t _=>by
    show min (bag.count t) (o.count t) + (bag.count t - o.count t) = bag.count t
    omega
theorem Snd.least {U first bag:List Str} {needs rs:List (List Str)} {v:Nat} (nd:U.Nodup) (h:Bear first needs rs) (hl:rs.length = needs.length) (hf:∀ t ∈ first,t ∈ U) (hn:∀ need ∈ needs,need.length <= first.length /\ ∀ t ∈ need,t ∈ U) (s:Snd U first.length first (needs.map cn) bag v):chg first rs <= v:=by
  have hc:=s [] 0 trivial
  rw [List.append_nil] at hc
  have:=Bear.best nd h hl hf hn needs.length 0 v (by omega) (Nat.zero_le _) (by rw [List.drop_zero];exact hc)
  rw [List.drop_zero] at this
  exact this
def BgS (H:Hp) (bs:List (List Str)) (ys:List V):Prop:=ys.length = bs.length /\ ∀ (j:Nat) (b:List Str),bs[j]? = some b -> ∃ a,ys[j]? = some (.ref a) /\ H a = some (.tup (b.map V.str))
theorem BgS.nil {H:Hp}:BgS H [] []:=⟨rfl,fun j k e=>by simp at e⟩
theorem BgS.same {H H':Hp} {rs:List (List Str)} {zs:List V} (h:BgS H rs zs) (s:Same H H'):BgS H' rs zs:=⟨h.1,fun j k e=>let ⟨T,a,b⟩:=h.2 j k e;⟨T,a,s _ _ b⟩⟩
theorem BgS.app {H:Hp} {bs cs:List (List Str)} {ys zs:List V} (h:BgS H bs ys) (h':BgS H cs zs):BgS H (bs ++ cs) (ys ++ zs):=by
  refine ⟨by rw [List.length_append,List.length_append,h.1,h'.1],fun j q hq=>?_⟩
  by_cases hj:j < bs.length
  · rw [List.getElem?_append_left hj] at hq
    obtain ⟨U,e1,e2⟩:=h.2 j q hq
    exact ⟨U,by rw [List.getElem?_append_left (by rw [h.1];exact hj)];exact e1,e2⟩
  · rw [List.getElem?_append_right (by omega)] at hq
    obtain ⟨U,e1,e2⟩:=h'.2 _ q hq
    exact ⟨U,by rw [List.getElem?_append_right (by rw [h.1];omega),h.1];exact e1,e2⟩
theorem BgS.one {H:Hp} {b:List Str} {a:Addr} (h:H a = some (.tup (b.map V.str))):BgS H [b] [.ref a]:=⟨rfl,fun j q hq=>by
  cases j with
  | zero=>cases hq;exact ⟨a,rfl,h⟩
  | succ j=>simp at hq⟩
theorem BgS.at {H:Hp} {rs:List (List Str)} {ys:List V} {i:Nat} {x:V} (h:BgS H rs ys) (hx:ys[i]? = some x):∃ (a:Addr) (r:List Str),x = .ref a /\ rs[i]? = some r /\ H a = some (.tup (r.map V.str)):=by
  have hi:=(List.getElem?_eq_some_iff.mp hx).1
  rw [h.1] at hi
  obtain ⟨a,e1,e2⟩:=h.2 i _ (List.getElem?_eq_getElem hi)
  rw [hx] at e1
  exact ⟨a,_,Option.some.inj e1,List.getElem?_eq_getElem hi,e2⟩
section
variable {X:Cx}
inductive YW (x:V) (y:V) (H:Hp) (Q:VK):Prop
  | mk (a b:Addr) (xs ys:List V) (_:x = .ref a) (_:y = .ref b) (_:H a = some (.tup xs)) (_:H b = some (.tup ys)) (_:xs.length + ys.length <= sizeLine) (_:∀ c H',Same H H' -> H' c = some (.tup (xs ++ ys)) -> Q (.ref c) H'):YW  x y H Q
theorem Yc:OpR X (binaryOp .Add) YW:=by
  intro pins s σ H x y v u Q I rx ry h
  obtain ⟨a,b,xs,ys,rfl,rfl,ha,hb,hz,q⟩:=h
  by_cases e:xs = []
  · subst e
    exact VR pins s σ H v u Q I rx ry ⟨a,b,ys,rfl,rfl,SqT.of ha,SqT.of hb,q b H (Same.refl _) hb⟩
  · refine Yd pins s σ H _ _ v u Q I rx ry ⟨a,b,xs,ys,rfl,rfl,SqT.of ha,SqT.of hb,e,hz,fun e2=>q a H (Same.refl _) ?_,fun _ p hp=>q p _ (ze hp) zf⟩
    rw [e2,List.append_nil]
    exact ha
end
theorem ZN {m i n:Nat} (h1:1 <= m) (h:i <= n):m ^ i <= m ^ n:=Nat.pow_le_pow_right h1 h
theorem Wm {b t:_} {l:List Str} {m:Nat} (h:l[m]? = some t):xA (l.take (m + 1)) b = xA (l.take m) b ++ if okT b t = true then [b ++ [t]] else []:=by
  unfold xA
  rw [zM h,List.filter_append,List.map_append]
  congr 1
  by_cases c:okT b t = true
  · rw [if_pos c,List.filter_cons_of_pos c];rfl
  · rw [if_neg c,List.filter_cons_of_neg c];rfl
theorem WE {xs:List V} {v:V} (h:xs.getLast? = some v):atI xs (-1) = some v:=by
  rw [List.getLast?_eq_getElem?] at h
  have hl:=(List.getElem?_eq_some_iff.mp h).1
  obtain ⟨i,ei⟩:∃ i,xs.length = i + 1:=⟨xs.length - 1,by omega⟩
  unfold atI
  rw [ei,we]
  rw [ei] at h
  exact h
section
variable {P:Program} {w:World} {K:PySem.W.Frag} {mg:Str -> Option Value} {base:Heap}
inductive ZG (vs:List V) (H:Hp) (Q:VK):Prop
  | mk (tl:Addr) (ts:List Str) (n:Nat) (_:vs = [.ref tl,.int (n:Int)]) (_:H tl = some (.lst (ts.map V.str))) (_:1 <= ts.length) (_:n <= 6) (_:ts.length ^ n <= 5000) (_:ts.length <= 64) (_:∀ (l:Addr) (ys:List V) H',Same H H' -> H' l = some (.lst ys) -> BgS H' (ja ts n) ys -> Q (.ref l) H'):ZG  vs H Q
def Qy:Sp:=fun vs H Q _=>ZG  vs H Q
theorem VA:zJ ["_law_tips_here", "_law_size", "_law_found", "_law_k", "_law_longer", "_law_bag"] ["_law_tips_here", "_law_size"] (zo (zw 18)):=⟨rfl,rfl,rfl,by decide +kernel,rfl,by decide +kernel,by decide +kernel⟩
def JZ (tl:_) (n:Nat) (H:_) (ts:List Str):=fun (i:Nat) (σ:St) (H2:Hp)=>(Ex5 fun (fl:Addr) (ys:List V) (v3 v4 v5:Option V)=>An4 (σ = [some (.ref tl),some (.int (n:Int)),some (.ref fl),v3,v4,v5]) (Same H H2) (H2 fl = some (.lst ys)) (BgS H2 (ja ts i) ys):Prop)
def JY (tl:_) (n:Nat) (fl:_) (i:Nat) (H3:_) (ts:List Str):=fun (j:Nat) (σ:St) (H4:Hp)=>(Ex3 fun (g:Addr) (us:List V) (v5:Option V)=>An4 (σ = [some (.ref tl),some (.int (n:Int)),some (.ref fl),some (.int (0 + (i:Int))),some (.ref g),v5]) (Same H3 H4) (H4 g = some (.lst us)) (BgS H4 (((ja ts i).take j).map (xA ts)).flatten us):Prop)
theorem Ym {f:Addr} {fd:FuncData} (F:Fun K "_law_bags" "_law_bags" (zw 18) f fd) (B:Blt mg):qC P w K mg base CX0 1 f fd ["_law_tips_here", "_law_size"] Qy:=by
  have nd:=VA.nd
  refine F.ok VA (fun vs H Q E h=>?_) (fun cdv A outer s H vs Q E hr h=>?_)
  · obtain ⟨tl,ts,n,rfl,_⟩:=h
    rfl
  · obtain ⟨tl,ts,n,rfl,T0,t1,n6,pw,t64,k⟩:=h
    have hbig:1000000 < sizeLine:=by rw [sizeLine_eq];decide
    have e62:(2:Int) ^ 62 = 4611686018427387904:=by decide
    have hu:=hr.units0
    refine ⟨_,(zi (zx (i:=2) nd rfl (Or.inl rfl) (z9 (zc (jC zg) zg)))
      (zi (zU PassesOwn.never rfl (qj rfl B.range (zc (pv 1) zg)) (zB (i:=3) nd rfl (Or.inl rfl))
      (zi (zx (i:=4) nd rfl (Or.inl rfl) (z9 zg))
        (zi (zU PassesOwn.never rfl (zD (pv 2)) (zB (i:=5) nd rfl (Or.inr rfl))
        (zr (zx (i:=4) nd rfl (Or.inl rfl) (zA qY (pv 4) (qF ["_law_bag"] [5] rfl rfl (by kernel_rfl) (zD (pv 0)) (fun C0 s0 H0 ex0=>(vP (PW.pt (w9 (zR (Yb (K:=K) rfl hu) (pv 1) (jC zg) (zO _)) (xU (zR XQ (pv 0) (qf (Yt (K:=K) rfl) (pv 1) (VM Qn zk) (fun _ _=>rfl)) (zO _))))))) (fun C0 s0 H0 ex0=>(zA Yc (pv 1) (jC (zc (pv 0) zg)))))))))
        (zr (zx (i:=2) nd rfl (Or.inl rfl) (pv 4))))))
      (zr (zI (pv 2))))),?_⟩
    refine ⟨le0,fun e he=>⟨le1,fun l hl=>?_⟩⟩
    have s1:=(ze (o:=.tup []) he).trans (ze (o:=.lst [.ref e]) hl)
    have L1:=zf (H:=upd H e (.tup [])) (a:=l) (o:=.lst [.ref e])
    have e1:=(ze (o:=.lst [.ref e]) hl) e _ (zf (H:=H) (o:=.tup []))
    generalize upd (upd H e (.tup [])) l (.lst [.ref e]) = H1 at s1 L1 e1
    refine ⟨_,rfl,_,rfl,(by rw [e62];omega),(by rw [e62];omega),?_⟩
    rw [Int.toNat_natCast]
    refine qB (JZ tl n H ts) ⟨l,_,_,_,_,rfl,s1,L1,BgS.one (b:=[]) e1⟩ ?_ ?_
    · rintro i σ H2 hi ⟨fl,ys,v3,v4,v5,rfl,s2,F2,Y2⟩
      refine ⟨le0,fun g hg=>?_⟩
      have s3:=s2.trans (ze (o:=.lst []) hg)
      have G3:upd H2 g (.lst []) g = some (.lst []):=zf
      have F3:=(ze (o:=.lst []) hg) _ _ F2
      have Y3:=Y2.same (ze (o:=.lst []) hg)
      generalize upd H2 g (.lst []) = H3 at s3 G3 F3 Y3
      have bl:(ja ts i).length <= 5000:=Nat.le_trans (vH ts i) (Nat.le_trans (ZN t1 (by omega)) pw)
      have bl2:(ja ts (i + 1)).length <= 5000:=Nat.le_trans (vH ts (i + 1)) (Nat.le_trans (ZN t1 (by omega)) pw)
      refine ⟨_,rfl,fl,rfl,⟨_,SqL.of F3⟩,qk (K:=K) (a:=fl) (xs:=ys) (JY tl n fl i H3 ts) ⟨g,[],_,rfl,Same.refl _,G3,BgS.nil⟩ (fun j σ H4 _ ⟨_,_,_,_,s4,_,_⟩=>SqL.of (s4 _ _ F3)) ?_ ?_⟩
      · rintro j x σ H4 hx ⟨g,us,v5,rfl,s4,G4,U4⟩
        obtain ⟨a,b,rfl,eb,ha⟩:=(Y3.same s4).at hx
        have T4:=(s3.trans s4) _ _ T0
        have ebl:=Zc ts b
        have ul:us.length <= 5000:=by
          rw [U4.1]
          refine Nat.le_trans ?_ bl2
          show _ <= (((ja ts i).map (xA ts)).flatten).length
          rw [<- List.take_append_drop j (ja ts i),List.map_append,List.flatten_append,List.length_append]
          have e:((((ja ts i).take j ++ (ja ts i).drop j).take j).map (xA ts)) = ((ja ts i).take j).map (xA ts):=by rw [List.take_append_drop]
          rw [e]
          omega
        refine ⟨_,rfl,_,rfl,tl,rfl,⟨_,SqL.of T4⟩,qp (K:=K) (a:=tl) (xs:=ts.map V.str) (fun m zs H5=>Same H4 H5 /\ BgS H5 (xA (ts.take m) b) zs) ⟨Same.refl _,BgS.nil⟩ (fun m zs H5 ⟨s5,_⟩=>SqL.of (s5 _ _ T4)) ?_ ?_⟩
        · rintro m y zs H5 hy ⟨s5,Z5⟩
          obtain ⟨t,rfl,et⟩:=xh hy
          have ha5:=s5 _ _ ha
          have es:=Wm (b:=b) et
          have zl:zs.length <= ts.length:=by rw [Z5.1];exact Nat.le_trans (Zc _ b) (by rw [List.length_take];omega)
          have bl6:b.length <= 6:=by have:=(xF (List.mem_of_getElem? eb)).1;omega
          refine ⟨rfl,_,rfl,le0,fun p0 h0=>?_⟩
          have s6:=ze (H:=H5) (o:=.tup []) h0
          have P6:upd H5 p0 (.tup []) p0 = some (.tup []):=zf
          generalize upd H5 p0 (.tup []) = H6 at s6 P6
          refine ⟨a,p0,_,[],rfl,rfl,SqT.of (s6 _ _ ha5),SqT.of P6,xP b,rfl,_,rfl,?_⟩
          cases e:b.getLast? with
          | none=>
            have eb0:b = []:=List.getLast?_eq_none_iff.mp e
            have ok:okT b t = true:=by unfold okT;rw [e]
            refine ifT (by rw [eb0];rfl) ?_
            refine ⟨_,rfl,_,rfl,le1,fun p1 h1=>⟨a,p1,_,_,rfl,rfl,(s6.trans (ze h1)) _ _ ha5,zf,(by rw [List.length_map];show _ + 1 <= _;omega),fun c H7 s7 C7=>?_⟩⟩
            have t7:=s6.trans ((ze (o:=.tup [.str t]) h1).trans s7)
            refine ⟨by omega,s5.trans t7,?_⟩
            rw [es,if_pos ok]
            exact (Z5.same t7).app (BgS.one (by rw [C7,List.map_append];rfl))
          | some l=>
            have ne:Z8 (b.map V.str) [] = false:=by
              cases b with
              | nil=>cases e
              | cons x b=>rfl
            have el:(b.map V.str).getLast? = some (.str l):=by rw [List.getLast?_map,e];rfl
            refine ifF ne ⟨_,rfl,_,rfl,_,rfl,a,_,_,_,rfl,rfl,SqT.of (s6 _ _ ha5),WE el,_,_,rfl,rfl,_,rfl,jU (fun d=>?_) (fun d=>?_)⟩
            · have ok:okT b t = true:=by unfold okT;rw [e];exact d
              refine ⟨_,rfl,_,rfl,le1,fun p1 h1=>⟨a,p1,_,_,rfl,rfl,(s6.trans (ze h1)) _ _ ha5,zf,(by rw [List.length_map];show _ + 1 <= _;omega),fun c H7 s7 C7=>?_⟩⟩
              have t7:=s6.trans ((ze (o:=.tup [.str t]) h1).trans s7)
              refine ⟨by omega,s5.trans t7,?_⟩
              rw [es,if_pos ok]
              exact (Z5.same t7).app (BgS.one (by rw [C7,List.map_append];rfl))
            · have ok:¬ okT b t = true:=by unfold okT;rw [e];exact d
              refine ⟨s5.trans s6,?_⟩
              rw [es,if_neg ok,List.append_nil]
              exact Z5.same s6
        · rintro zs H5 ⟨s5,Z5⟩
          rw [List.length_map,List.take_length] at Z5
          have zl:zs.length <= 64:=by rw [Z5.1];omega
          refine ⟨by omega,fun D hD=>?_⟩
          have s6:=ze (H:=H5) (o:=.lst zs) hD
          have D6:upd H5 D (.lst zs) D = some (.lst zs):=zf
          generalize upd H5 D (.lst zs) = H6 at s6 D6
          have t6:=s5.trans s6
          refine ⟨g,D,us,zs,rfl,rfl,t6 _ _ G4,D6,by omega,fun q hq=>?_⟩
          have t7:=t6.trans (ze (o:=.lst (us ++ zs)) hq)
          refine ⟨q,us ++ zs,_,rfl,s4.trans t7,zf,?_⟩
          rw [zM eb,List.map_append,List.flatten_append]
          refine (U4.same t7).app ?_
          show BgS _ (xA ts b ++ []) zs
          rw [List.append_nil]
          exact Z5.same (s6.trans (ze hq))
      · rintro σ H4 ⟨g,us,v5,rfl,s4,G4,U4⟩
        rw [Y3.1,List.take_length] at U4
        exact ⟨_,rfl,g,us,_,_,_,rfl,s3.trans s4,G4,U4⟩
    · rintro σ H2 ⟨fl,ys,v3,v4,v5,rfl,s2,F2,Y2⟩
      exact ⟨_,rfl,k fl ys H2 s2 F2 Y2⟩
end
def kyB (b:List Str):List Key:=b.map Sum.inr
theorem Wd (b:List Str):(kyB b).map kV = b.map V.str:=by
  unfold kyB
  rw [List.map_map]
  rfl
theorem JE {b c:List Str} (h:kyB b = kyB c):b = c:=by
  have:=congrArg (List.map fun k:Key=>match k with | .inr s=>s | .inl _=> "") h
  unfold kyB at this
  rw [List.map_map,List.map_map] at this
  have e:((fun k:Key=>match k with | .inr s=>s | .inl _=> "") ∘ Sum.inr) = (id:Str -> Str):=by funext s;rfl
  rwa [e,List.map_id,List.map_id] at this
theorem QX {kvs:List (List Key × V)} {k:List Key} {v:V} (h:qg kvs k = some v):(k,v) ∈ kvs:=by
  unfold qg at h
  obtain ⟨p,hp,rfl⟩:=Option.map_eq_some_iff.mp h
  have h1:=List.find?_some hp
  have h2:=List.mem_of_find?_eq_some hp
  have e:p.1 = k:=of_decide_eq_true h1
  rw [<- e]
  exact h2
theorem W4 {kvs:List (List Key × V)} {k:List Key} {y:V} {p:List Key × V} (h:p ∈ qS kvs k y):p.1 = k \/ ∃ q ∈ kvs,q.1 = p.1:=by
  unfold qS at h
  split at h
  · obtain ⟨q,hq,rfl⟩:=List.mem_map.mp h
    refine .inr ⟨q,hq,?_⟩
    split <;> rfl
  · rcases List.mem_append.mp h with z | z
    · exact .inr ⟨p,z,rfl⟩
    · rw [List.mem_singleton.mp z]
      exact .inl rfl
theorem W5 (kvs:List (List Key × V)) (k:List Key) (y:V):(qS kvs k y).length <= kvs.length + 1:=by
  unfold qS
  split
  · rw [List.length_map];omega
  · rw [List.length_append];exact Nat.le_refl _
structure Kn (ts first:List Str) (needs:List (List Str)) (i:Nat) (kvs:List (List Key × V)):Prop where
  ne:kvs ≠ []
  len:kvs.length <= 5000
  snd:∀ p ∈ kvs,∃ bag:List Str,p.1 = kyB bag /\ bag.length = first.length /\ (∀ t ∈ bag,t ∈ ts) /\ ∃ v:Nat,qg kvs p.1 = some (.int (v:Int)) /\ v <= 1000 * i /\ Snd ts first.length first ((needs.take i).map cn) bag v
  cmp:∀ rs:List (List Str),rs.length = needs.length -> Bear first needs rs -> ∃ (bag:List Str) (v:Nat),qg kvs (kyB bag) = some (.int (v:Int)) /\ (∀ t,bag.count t = ((first :: rs).getD i []).count t) /\ v + chg ((first :: rs).getD i []) (rs.drop i) <= chg first rs
structure Nx (ts first:List Str) (needs:List (List Str)) (i:Nat) (need:List Str) (kn:List (List Key × V)) (fb:List (List Str)) (nx:List (List Key × V)):Prop where
  len:nx.length <= fb.length
  snd:∀ p ∈ nx,∃ bag:List Str,p.1 = kyB bag /\ bag ∈ fb /\ ∃ v:Nat,qg nx p.1 = some (.int (v:Int)) /\ v <= 1000 * (i + 1) /\ Snd ts first.length first ((needs.take i).map cn ++ [cn need]) bag v
  low:∀ bag ∈ fb,∃ v:Nat,qg nx (kyB bag) = some (.int (v:Int)) /\ ∀ (o:List Str) (vo:Nat),qg kn (kyB o) = some (.int (vo:Int)) -> v <= vo + dst ts (cn o) (cn bag)
theorem Nx.nil {ts first need:List Str} {needs:List (List Str)} {i:Nat} {kn:List (List Key × V)}:Nx ts first needs i need kn [] []:=⟨Nat.le_refl _,(fun p h=>nomatch h),fun b h=>nomatch h⟩
theorem zaR {U o bag:List Str} (nd:U.Nodup) (hb:∀ t ∈ bag,t ∈ U):dst U (cn o) (cn bag) <= bag.length:=by
  have:=Y8 (o:=o) nd hb
  omega
theorem Nx.put {ts first need bag:List Str} {needs fb:List (List Str)} {i m:Nat} {kn nx:List (List Key × V)} (h:Nx ts first needs i need kn fb nx) (hm:m <= 1000 * (i + 1)) (s:Snd ts first.length first ((needs.take i).map cn ++ [cn need]) bag m) (lo:∀ (o:List Str) (vo:Nat),qg kn (kyB o) = some (.int (vo:Int)) -> m <= vo + dst ts (cn o) (cn bag)):Nx ts first needs i need kn (fb ++ [bag]) (qS nx (kyB bag) (.int (m:Int))):=by
  refine ⟨?_,fun p hp=>?_,fun b hb=>?_⟩
  · have:=W5 nx (kyB bag) (.int (m:Int))
    have:=h.len
    rw [List.length_append]
    show _ <= fb.length + 1
    omega
  · by_cases e:p.1 = kyB bag
    · exact ⟨bag,e,List.mem_append_right _ (by simp),m,by rw [jt,if_pos e],hm,s⟩
    · rcases W4 hp with z | ⟨q,hq,eq⟩
      · exact absurd z e
      · obtain ⟨b,e1,e2,v,e3,e4,e5⟩:=h.snd q hq
        refine ⟨b,by rw [<- eq];exact e1,List.mem_append_left _ e2,v,?_,e4,e5⟩
        rw [jt,if_neg e,<- eq]
        exact e3
  · by_cases e:b = bag
    · subst e
      exact ⟨m,by rw [jt,if_pos rfl],lo⟩
    · have hb':b ∈ fb:=by
        rcases List.mem_append.mp hb with z | z
        · exact z
        · exact absurd (List.mem_singleton.mp z) e
      obtain ⟨v,e1,e2⟩:=h.low b hb'
      exact ⟨v,by rw [jt,if_neg (fun z=>e (JE z))];exact e1,e2⟩
def j7 (need b:List Str):Bool:=need.all fun t=>decide (need.count t <= b.count t)
theorem ZY {need b:List Str} (h:∀ t,need.count t <= b.count t):j7 need b = true:=List.all_eq_true.mpr fun t _=>decide_eq_true (h t)
theorem V3 {need b:List Str} (h:j7 need b = true) (t:Str):need.count t <= b.count t:=by
  by_cases ht:t ∈ need
  · exact of_decide_eq_true (List.all_eq_true.mp h t ht)
  · rw [List.count_eq_zero_of_not_mem ht]
    exact Nat.zero_le _
theorem Kn.next {ts first need:List Str} {needs:List (List Str)} {i:Nat} {kn nx:List (List Key × V)} (nd:ts.Nodup) (hf:∀ t ∈ first,t ∈ ts) (hn:∀ need ∈ needs,need.length <= first.length /\ ∀ t ∈ need,t ∈ ts) (en:needs[i]? = some need) (bl:(ja ts first.length).length <= 5000)
    (h:Kn ts first needs i kn) (x:Nx ts first needs i need kn ((ja ts first.length).filter (j7 need)) nx):Kn ts first needs (i + 1) nx:=by
  have il:i < needs.length:=(List.getElem?_eq_some_iff.mp en).1
  obtain ⟨nl,nm⟩:=hn need (List.mem_of_getElem? en)
  have fl:=List.length_filter_le (j7 need) (ja ts first.length)
  have et:(needs.take (i + 1)).map cn = (needs.take i).map cn ++ [cn need]:=by rw [zM en,List.map_append];rfl
  refine ⟨?_,by have:=x.len;omega,fun p hp=>?_,fun rs rl be=>?_⟩
  · obtain ⟨b,hb,hc⟩:=Zj (ts:=ts) (n:=first.length) (r:=need ++ first.drop need.length) (by rw [List.length_append,List.length_drop];omega) fun t ht=>by
      rcases List.mem_append.mp ht with z | z
      · exact nm t z
      · exact hf t (List.mem_of_mem_drop z)
    obtain ⟨v,e,_⟩:=x.low b (List.mem_filter.mpr ⟨hb,ZY fun t=>by rw [hc t,List.count_append];omega⟩)
    intro e0
    rw [e0] at e
    cases e
  · obtain ⟨bag,e1,e2,v,e3,e4,e5⟩:=x.snd p hp
    obtain ⟨b1,b2⟩:=xF (List.mem_filter.mp e2).1
    exact ⟨bag,e1,b1,b2,v,e3,e4,by rw [et];exact e5⟩
  · obtain ⟨o,vo,o1,o2,o3⟩:=h.cmp rs rl be
    have er:rs[i]? = some (rs[i]'(by omega)):=List.getElem?_eq_getElem _
    have enx:(first :: rs).getD (i + 1) [] = rs[i]'(by omega):=by
      rw [List.getD_eq_getElem?_getD,show (first :: rs)[i + 1]? = rs[i]? from rfl,er]
      rfl
    have ml:=be.mem hf (fun need h=>(hn need h).2) (i + 1) (by omega)
    have ll:=be.prev (i + 1) (by omega)
    have l0:=be.prev i (by omega)
    rw [enx] at ml ll ⊢
    obtain ⟨need',e1,nr⟩:=be i _ er
    rw [en] at e1
    cases e1
    have mt:=fun t=>nr.meets (by rw [l0];exact nl) t
    rw [JK er] at o3
    generalize rs[i]'(by omega) = r at ml ll mt o3
    obtain ⟨b,hb,hc⟩:=Zj (ts:=ts) ll ml
    obtain ⟨v,v1,v2⟩:=x.low b (List.mem_filter.mpr ⟨hb,ZY fun t=>by rw [hc t];exact mt t⟩)
    refine ⟨b,v,v1,hc,?_⟩
    have v3:=v2 o vo o1
    have ed:dst ts (cn o) (cn b) = dst ts (cn ((first :: rs).getD i [])) (cn r):=jd fun t _=>by
      show b.count t - o.count t = r.count t - _
      rw [hc t,o2 t]
      rfl
    have hd':=QP nd (r:=(first :: rs).getD i []) (q:=r) (by omega) ml
    have e5:chg ((first :: rs).getD i []) (r :: rs.drop (i + 1)) = hd ((first :: rs).getD i []) r + chg r (rs.drop (i + 1)):=rfl
    omega
theorem Kn.first {ts first bag:List Str} {needs:List (List Str)} (hp:bag.Perm first) (hf:∀ t ∈ first,t ∈ ts):Kn ts first needs 0 [(kyB bag,.int ((0:Nat):Int))]:=by
  have c:∀ t,bag.count t = first.count t:=fun t=>hp.count_eq t
  refine ⟨by simp,by show 1 <= 5000;decide,fun p h=>?_,fun rs rl be=>?_⟩
  · rw [List.mem_singleton.mp h]
    exact ⟨bag,rfl,hp.length_eq,fun t ht=>hf t (hp.mem_iff.mp ht),0,qi rfl,Nat.le_refl _,Snd.zero fun t _=>c t⟩
  · refine ⟨bag,0,qi rfl,c,?_⟩
    rw [List.drop_zero,Nat.zero_add]
    exact Nat.le_refl _
theorem Kn.last {ts first:List Str} {needs:List (List Str)} {kvs:List (List Key × V)} {m:Nat} (nd:ts.Nodup) (hf:∀ t ∈ first,t ∈ ts) (hn:∀ need ∈ needs,need.length <= first.length /\ ∀ t ∈ need,t ∈ ts) (h:Kn ts first needs needs.length kvs)
    (hm:∃ p ∈ kvs,qg kvs p.1 = some (.int (m:Int))) (lo:∀ p ∈ kvs,∀ v:Nat,qg kvs p.1 = some (.int (v:Int)) -> m <= v):∀ rs:List (List Str),rs.length = needs.length -> Bear first needs rs -> m = chg first rs:=fun rs rl be=>by
  obtain ⟨p,hp,ep⟩:=hm
  obtain ⟨bag,e1,_,_,v,e2,_,e3⟩:=h.snd p hp
  rw [ep] at e2
  have ev:m = v:=by
    have:V.int (m:Int) = V.int (v:Int):=Option.some.inj e2
    injection this with z
    omega
  subst ev
  rw [List.take_length] at e3
  have l1:=e3.least nd be rl hf hn
  obtain ⟨b,v,v1,_,v3⟩:=h.cmp rs rl be
  have l2:=lo _ (QX v1) v v1
  rw [List.drop_of_length_le (by omega)] at v3
  have:chg ((first :: rs).getD needs.length []) [] = 0:=rfl
  omega
theorem vb {ts names:List Str} (nd:ts.Nodup) (h:∀ t ∈ ts,t ∈ names):ts.length <= names.length:=by
  have e:=je nd (l:=ts) fun t ht=>ht
  rw [<- e]
  have nd2:=wl (ts ++ names)
  have h1:=je nd2 (l:=ts) fun t ht=>jk (List.mem_append_left _ ht)
  have h2:=je nd2 (l:=names) fun t ht=>jk (List.mem_append_right _ ht)
  rw [e,<- h1,<- h2]
  refine ju fun t _=>?_
  show ts.count t <= names.count t
  by_cases ht:t ∈ ts
  · have a:ts.count t <= 1:=List.nodup_iff_count.mp nd t
    have b:0 < names.count t:=List.count_pos_iff.mpr (h t ht)
    omega
  · rw [List.count_eq_zero_of_not_mem ht]
    exact Nat.zero_le _
theorem YB (a c:Nat):decide ((a:Int) <= (c:Int)) = decide (a <= c):=by
  by_cases z:a <= c
  · rw [decide_eq_true z,decide_eq_true (by omega)]
  · rw [decide_eq_false z,decide_eq_false (by omega)]
theorem ji (l:List Str):l.map V.str = (l.map Sum.inr).map kV:=by rw [List.map_map];rfl
section
variable {P:Program} {w:World} {K:PySem.W.Frag} {mg:Str -> Option Value} {base:Heap}
inductive Vn (vs:List V) (H:Hp) (Q:VK):Prop
  | mk (fl nl:Addr) (first:List Str) (needs:List (List Str)) (zs:List V) (names:List Str) (_:vs = [.ref fl,.ref nl]) (_:H fl = some (.lst (first.map V.str))) (_:H nl = some (.lst zs)) (_:RwS H needs zs) (_:1 <= first.length) (_:first.length <= 6) (_:first.length + needs.length < 64) (_:(∀ need ∈ needs,need.length <= first.length)) (_:(∀ t ∈ first,t ∈ names)) (_:(∀ need ∈ needs,∀ t ∈ need,t ∈ names)) (_:names.length <= 8) (_:names.length ^ first.length <= 5000) (_:∀ (v:Nat) H',Same H H' -> (∀ rs:List (List Str),rs.length = needs.length -> Bear first needs rs -> v = chg first rs) -> Q (.int (v:Int)) H'):Vn  vs H Q
def zag:Sp:=fun vs H Q _=>Vn  vs H Q
theorem za6:zJ ["_law_first", "_law_needs_here", "_law_tips_here", "_law_need", "_law_bags_here", "_law_known", "_law_nexts", "_law_bag", "_law_sums", "_law_other", "_law_alike"] ["_law_first", "_law_needs_here"] (zo (zw 19)):=⟨rfl,rfl,rfl,by decide +kernel,rfl,by decide +kernel,by decide +kernel⟩
def JX (fl:_) (nl:_) (H:_) (names:List Str) (first:List Str) (needs:List (List Str)):=fun (i:Nat) (σ:St) (H':Hp)=>(Ex3 fun (tl:Addr) (ts:List Str) (v3:Option V)=>An7 (σ = [some (.ref fl),some (.ref nl),some (.ref tl),v3,none,none,none,none,none,none,none]) (Same H H') (H' tl = some (.lst (ts.map V.str))) (ts.Nodup) ((∀ t ∈ ts,t ∈ names)) ((∀ t ∈ first,t ∈ ts)) (∀ (j:Nat) (need:List Str),j < i -> needs[j]? = some need -> ∀ t ∈ need,t ∈ ts):Prop)
def JW (fl:_) (nl:_) (tl:_) (gl:_) (H5:_) (ts:List Str) (first:List Str) (needs:List (List Str)):=fun (i:Nat) (σ:St) (H':Hp)=>(Ex8 fun (d:Addr) (kvs:List (List Key × V)) (v3 v6 v7 v8 v9 v10:Option V)=>An4 (σ = [some (.ref fl),some (.ref nl),some (.ref tl),v3,some (.ref gl),some (.ref d),v6,v7,v8,v9,v10]) (Same H5 H') (H' d = some (.dT kvs)) (Kn ts first needs i kvs):Prop)
def JV (fl:_) (nl:_) (tl:_) (na:_) (gl:_) (d:_) (e:_) (H9:_) (ts:List Str) (first:List Str) (needs:List (List Str)) (i:Nat) (need:List Str) (kvs:List (List Key × V)) (fb:List (List Str)):=fun (j:Nat) (σ:St) (H':Hp)=>(Ex5 fun (nx:List (List Key × V)) (v7 v8 v9 v10:Option V)=>An4 (σ = [some (.ref fl),some (.ref nl),some (.ref tl),some (.ref na),some (.ref gl),some (.ref d),some (.ref e),v7,v8,v9,v10]) (SameB e H9 H') (H' e = some (.dT nx)) (Nx ts first needs i need kvs (fb.take j) nx):Prop)
def JU (fl:_) (nl:_) (tl:_) (na:_) (gl:_) (d:_) (e:_) (ba:_) (sms:_) (HB:_) (kvs:List (List Key × V)) (i:Nat) (ts:List Str) (first:List Str) (needs:List (List Str)) (b:List Str):=fun (m:Nat) (σ:St) (H':Hp)=>(Ex3 fun (ns:List Int) (v9 v10:Option V)=>An6 (σ = [some (.ref fl),some (.ref nl),some (.ref tl),some (.ref na),some (.ref gl),some (.ref d),some (.ref e),some (.ref ba),some (.ref sms),v9,v10]) (SameB sms HB H') (H' sms = some (.lst (ns.map V.int))) (ns.length = m) ((∀ z ∈ ns,∃ (o:List Str) (vo:Nat),qg kvs (kyB o) = some (.int (vo:Int)) /\ vo <= 1000 * i /\ Snd ts first.length first ((needs.take i).map cn) o vo /\ z = ((vo + dst ts (cn o) (cn b):Nat):Int))) (∀ (m':Nat) (k:List Key) (v:V),m' < m -> kvs[m']? = some (k,v) -> ∀ (o:List Str) (vo:Nat),k = kyB o -> qg kvs k = some (.int (vo:Int)) -> ((vo + dst ts (cn o) (cn b):Nat):Int) ∈ ns):Prop)
def JT (kvs:List (List Key × V)) (HB:_):=fun (m:Nat) (us:List V) (H':Hp)=>(Ex1 fun (ns:List Int)=>An5 (us = ns.map V.int) (ns.length = m) ((∀ z ∈ ns,∃ p ∈ kvs,∃ v:Nat,qg kvs p.1 = some (.int (v:Int)) /\ z = (v:Int))) ((∀ (m':Nat) (p:List Key × V),m' < m -> kvs[m']? = some p -> ∀ v:Nat,qg kvs p.1 = some (.int (v:Int)) -> (v:Int) ∈ ns)) (Same HB H'):Prop)
theorem zbh {f:Addr} {fd:FuncData} (F:Fun K "_law_fewest" "_law_fewest" (zw 19) f fd) (B:Blt mg) (D_bags:Dfn P w K mg base "_law_bags" 1 ["_law_tips_here", "_law_size"] Qy):qC P w K mg base CX0 2 f fd ["_law_first", "_law_needs_here"] zag:=by
  have nd:=za6.nd
  refine F.ok za6 (fun vs H Q E h=>?_) (fun cdv A outer s H vs Q E hr h=>?_)
  · obtain ⟨fl,nl,first,needs,zs,names,rfl,_⟩:=h
    rfl
  · obtain ⟨fl,nl,first,needs,zs,names,rfl,F0,N0,R0,f1,f6,n50,nlen,fnm,nnm,nm8,pw,k⟩:=h
    have hbig:1000000 < sizeLine:=by rw [sizeLine_eq];decide
    have e62:(2:Int) ^ 62 = 4611686018427387904:=by decide
    have hu:=hr.units0
    have hu1:=Z1 hr
    have zl:=R0.1
    refine ⟨_,(zi (zx (i:=2) nd rfl (Or.inl rfl) (zq (zZ hr.hd) rfl B.sorted z7 (zc (zK (qJ hr.hd) rfl B.set qR (zc (zA qY (pv 0) (qF [] [] rfl rfl (by kernel_rfl) (zD (pv 1)) (fun C0 s0 H0 ex0=>(vP (zR (XN (K:=K) rfl hu) (pv 0) (z9 zg) (zO _)))) (fun C0 s0 H0 ex0=>(qf (xz (K:=K) rfl) (pv 0) zk (fun _ _=>rfl))))) zg)) zg)))
      (zi (zU PassesOwn.never rfl (zD (pv 1)) (zB (i:=3) nd rfl (Or.inr rfl))
      (zr (zx (i:=2) nd rfl (Or.inl rfl) (zq (zZ hr.hd) rfl B.sorted z7 (zc (zK (qJ hr.hd) rfl B.set qR (zc (zA qY (pv 2) (pv 3)) zg)) zg)))))
      (zi (zx (i:=4) nd rfl (Or.inl rfl) (zn D_bags (hr.mono (by first | decide | exact Nat.le_refl _ | omega)) rfl (zc (pv 2) (zc (zq zy rfl B.len boot_len (zc (pv 0) zg)) zg))))
      (zi (zx (i:=5) nd rfl (Or.inr rfl) (XJ hu1 (zK wG rfl B.tuple QS (zc (zq Zg rfl B.sorted z7 (zc (pv 0) zg)) zg)) zk))
      (zi (zU PassesOwn.never rfl (zD (pv 1)) (zB (i:=3) nd rfl (Or.inr rfl))
      (zi (zx (i:=6) nd rfl (Or.inl rfl) VP)
        (zi (zU PassesOwn.never rfl (zD (zas ["_law_need"] [3] rfl rfl (by kernel_rfl) (zD (pv 4)) (fun C0 s0 H0 ex0=>(vP (jB (zq (QR (K:=K) rfl rfl) rfl B.all boot_all (zc (qF ["_law_one", "_law_need"] [0,1] rfl rfl (by kernel_rfl) (VL (K:=K) rfl (pv 1)) (fun C0 s0 H0 ex0=>qE) (fun C0 s0 H0 ex0=>(jh Jw (QH PySem.F.slot_tuple_count PySem.F.type_tuple_count (xX (K:=K) rfl) (pv 1) (zc (pv 0) zg)) (xm (K:=K) rfl PySem.F.plainAttrs_list PySem.F.slot_list_count PySem.F.type_list_count qA (pv 2) (zc (pv 0) zg)) (zO _)))) zg))))) (fun C0 s0 H0 ex0=>(pv 0)))) (zB (i:=7) nd rfl (Or.inr rfl))
        (zi (zx (i:=8) nd rfl (Or.inl rfl) (z9 zg))
          (zi (zU PassesOwn.never rfl (zD (zK (vk hr.hd) rfl B.list qK (zc (pv 5) zg))) (zB (i:=9) nd rfl (Or.inr rfl))
          (zi (zx (i:=10) nd rfl (Or.inl rfl) (zq (x0 rfl) rfl B.sum boot_sum (zc (qF ["_law_bag", "_law_other"] [7,9] rfl rfl (by kernel_rfl) (zD (pv 2)) (fun C0 s0 H0 ex0=>qE) (fun C0 s0 H0 ex0=>(zq (ym rfl) rfl B.min xE (zc (QH PySem.F.slot_tuple_count PySem.F.type_tuple_count (xX (K:=K) rfl) (pv 1) (zc (pv 0) zg)) (zc (QH PySem.F.slot_tuple_count PySem.F.type_tuple_count (xX (K:=K) rfl) (pv 2) (zc (pv 0) zg)) zg))))) zg)))
            (zr (qU (jv PySem.F.plainAttrs_list PySem.F.slot_list_append PySem.F.type_list_append qI (pv 8) (zc (zA QI (zA zN (yS hu1 (pv 5) (pv 9) (fun _ _=>rfl)) (zq zy rfl B.len boot_len (zc (pv 0) zg))) (pv 10)) zg))))))
          (zr (W7 hu1 (pv 6) (pv 7) (zq (yk rfl) rfl B.min xE (zc (pv 8) zg)) rfl)))))
        (zr (zx (i:=5) nd rfl (Or.inr rfl) (pv 6))))))
      (zr (zI (zq (yk rfl) rfl B.min xE (zc (qF ["_law_known"] [5] rfl rfl (by kernel_rfl) (zD (zK (vk hr.hd) rfl B.list qK (zc (pv 5) zg))) (fun C0 s0 H0 ex0=>qE) (fun C0 s0 H0 ex0=>(yS hu1 (pv 1) (pv 0) (fun _ _=>rfl)))) zg))))))))),?_⟩
    refine ⟨_,rfl,_,rfl,nl,rfl,⟨_,SqL.of N0⟩,qp (K:=K) (a:=nl) (xs:=zs) (fun i us H1=>∃ vs:List Str,us = vs.map V.str /\ (∀ t ∈ vs,t ∈ names) /\ vs.length <= i /\ Same H H1) ⟨[],rfl,(fun t h=>nomatch h),Nat.le_refl _,Same.refl _⟩ (fun i us H1 ⟨_,_,_,_,s1⟩=>SqL.of (s1 _ _ N0)) ?_ ?_⟩
    · rintro i x us H1 hx ⟨vs,rfl,vn,vl,s1⟩
      obtain ⟨a,need,rfl,en,ha⟩:=(R0.same s1).at hx
      have il:i < zs.length:=(List.getElem?_eq_some_iff.mp hx).1
      refine ⟨rfl,_,rfl,le0,fun p hp=>?_⟩
      have s2:=ze (H:=H1) (o:=.lst []) hp
      refine ⟨a,p,_,rfl,rfl,SqL.of (s2 _ _ ha),SqL.of zf,_,rfl,?_⟩
      cases need with
      | nil=>exact ifF rfl ⟨vs,rfl,vn,by omega,s1.trans s2⟩
      | cons t need=>
        refine ifT rfl ⟨_,rfl,a,_,_,_,rfl,rfl,SqL.of (s2 _ _ ha),(show atI ((t :: need).map V.str) ((0:Nat):Int) = some (.str t) from jp rfl),by rw [List.length_map];omega,vs ++ [t],by rw [List.map_append];rfl,fun u hu'=>?_,by rw [List.length_append];show _ + 1 <= _;omega,s1.trans s2⟩
        rcases List.mem_append.mp hu' with z | z
        · exact vn u z
        · rw [List.mem_singleton.mp z]
          exact nnm _ (List.mem_of_getElem? en) t (by simp)
    rintro us H1 ⟨vs,rfl,vn,vl,s1⟩
    refine ⟨by rw [List.length_map];omega,fun p hp=>?_⟩
    have s2:=s1.trans (ze (H:=H1) (o:=.lst (vs.map V.str)) hp)
    have P2:upd H1 p (.lst (vs.map V.str)) p = some (.lst (vs.map V.str)):=zf
    generalize upd H1 p (.lst (vs.map V.str)) = H2 at s2 P2
    refine ⟨fl,p,_,_,rfl,rfl,s2 _ _ F0,P2,by rw [List.length_map,List.length_map];omega,fun q hq=>?_⟩
    have s3:=s2.trans (ze (H:=H2) (o:=.lst (first.map V.str ++ vs.map V.str)) hq)
    have Q3:upd H2 q (.lst (first.map V.str ++ vs.map V.str)) q = some (.lst (((first ++ vs).map Sum.inr).map kV)):=by rw [zf,<- List.map_append,ji]
    generalize upd H2 q (.lst (first.map V.str ++ vs.map V.str)) = H3 at s3 Q3
    refine ⟨q,(first ++ vs).map Sum.inr,rfl,Q3,by rw [List.length_map,List.length_append];omega,fun sa hsa=>⟨sa,first ++ vs,rfl,zf,by rw [List.length_append];omega,fun tl ts htl _ tnd tm=>?_⟩⟩
    have s5:=s3.trans ((ze (H:=H3) (o:=xS P w sa (jq [] ((first ++ vs).map Sum.inr))) hsa).trans (ze (o:=.lst (ts.map V.str)) htl))
    have tsub:∀ t ∈ ts,t ∈ names:=fun t ht=>(List.mem_append.mp ((tm t).mp ht)).elim (fnm t) (vn t)
    refine ⟨_,rfl,nl,rfl,⟨_,SqL.of (s5 _ _ N0)⟩,qk (K:=K) (a:=nl) (xs:=zs) (JX fl nl H names first needs) ⟨tl,ts,_,rfl,s5,zf,tnd,tsub,fun t ht=>(tm t).mpr (List.mem_append_left _ ht),fun j need h=>by omega⟩ (fun i σ H' _ ⟨_,_,_,_,s',_,_,_,_,_⟩=>SqL.of (s' _ _ N0)) ?_ ?_⟩
    · clear tsub tm tnd htl hsa s5 Q3 hq s3 P2 hp s2
      rintro i x σ H4 hx ⟨tl,ts,v3,rfl,s4,T4,tnd,tsub,tf,tn⟩
      obtain ⟨a,need,rfl,en,ha⟩:=(R0.same s4).at hx
      have tle:=vb tnd tsub
      have nle:=nlen need (List.mem_of_getElem? en)
      refine ⟨_,rfl,_,rfl,tl,a,_,_,rfl,rfl,T4,ha,by rw [List.length_map,List.length_map];omega,fun q hq=>?_⟩
      have s6:=s4.trans (ze (H:=H4) (o:=.lst (ts.map V.str ++ need.map V.str)) hq)
      have Q6:upd H4 q (.lst (ts.map V.str ++ need.map V.str)) q = some (.lst (((ts ++ need).map Sum.inr).map kV)):=by rw [zf,<- List.map_append,ji]
      generalize upd H4 q (.lst (ts.map V.str ++ need.map V.str)) = H6 at s6 Q6
      refine ⟨q,(ts ++ need).map Sum.inr,rfl,Q6,by rw [List.length_map,List.length_append];omega,fun sa hsa=>⟨sa,ts ++ need,rfl,zf,by rw [List.length_append];omega,fun tl' ts' htl _ tnd' tm=>?_⟩⟩
      have s7:=s6.trans ((ze (H:=H6) (o:=xS P w sa (jq [] ((ts ++ need).map Sum.inr))) hsa).trans (ze (o:=.lst (ts'.map V.str)) htl))
      refine ⟨tl',ts',_,rfl,s7,zf,tnd',fun t ht=>(List.mem_append.mp ((tm t).mp ht)).elim (tsub t) (nnm need (List.mem_of_getElem? en) t),fun t ht=>(tm t).mpr (List.mem_append_left _ (tf t ht)),fun j nd' hj ej t ht=>(tm t).mpr ?_⟩
      by_cases z:j = i
      · subst z
        rw [en] at ej
        cases ej
        exact List.mem_append_right _ ht
      · exact List.mem_append_left _ (tn j nd' (by omega) ej t ht)
    clear tsub tm tnd htl hsa s5 Q3 hq s3 P2 hp s2
    rintro σ H4 ⟨tl,ts,v3,rfl,s4,T4,tnd,tsub,tf,tn⟩
    have hn:∀ need ∈ needs,need.length <= first.length /\ ∀ t ∈ need,t ∈ ts:=fun need h=>⟨nlen need h,by
      obtain ⟨j,hj,e⟩:=List.getElem_of_mem h
      exact tn j need (by rw [zl];exact hj) (by rw [<- e];exact List.getElem?_eq_getElem _)⟩
    have tle:=vb tnd tsub
    have t1:1 <= ts.length:=by
      have:0 < first.length:=by omega
      exact List.length_pos_of_mem (tf first[0] (List.getElem_mem _))
    have tpw:ts.length ^ first.length <= 5000:=Nat.le_trans (Nat.pow_le_pow_left tle _) pw
    have bl:=Nat.le_trans (vH ts first.length) tpw
    have F4:=s4 _ _ F0
    refine ⟨_,rfl,_,rfl,fl,_,rfl,.inl (SqL.of F4),tl,ts,first.length,by rw [List.length_map];rfl,T4,t1,f6,tpw,by omega,fun gl ys H5 s5 G5 Y5=>?_⟩
    have s5':=s4.trans s5
    refine fun d0 hd0=>?_
    have sd:=ze (H:=H5) (o:=.dT []) hd0
    have D6:upd H5 d0 (.dT []) d0 = some (.dT []):=zf
    generalize upd H5 d0 (.dT []) = H6 at sd D6
    refine ⟨_,rfl,fl,first,rfl,SqL.of (sd _ _ (s5 _ _ F4)),by omega,fun so sl hso perm _=>⟨so,_,rfl,.inl ⟨SqL.of zf,fun tp htp=>?_⟩⟩⟩
    have s7:=(ze (H:=H6) (o:=.lst (sl.map V.str)) hso).trans (ze (o:=.tup (sl.map V.str)) htp)
    have K7:=zf (H:=upd H6 so (.lst (sl.map V.str))) (a:=tp) (o:=.tup (sl.map V.str))
    generalize upd (upd H6 so (.lst (sl.map V.str))) tp (.tup (sl.map V.str)) = H7 at s7 K7
    refine ⟨_,_,kyB sl,tp,rfl,s7 _ _ D6,rfl,by rw [Wd];exact K7,?_⟩
    have s8:Same H5 (upd H7 d0 (.dT [(kyB sl,.int ((0:Nat):Int))])):=fun c o e=>by
      rw [zu (zj e hd0)]
      exact s7 _ _ (sd _ _ e)
    have D8:=zf (H:=H7) (a:=d0) (o:=.dT [(kyB sl,.int ((0:Nat):Int))])
    have kn0:Kn ts first needs 0 [(kyB sl,.int ((0:Nat):Int))]:=Kn.first perm tf
    have N5:=s5' _ _ N0
    have F5:=s5 _ _ F4
    have T5:=s5 _ _ T4
    refine ⟨_,rfl,nl,rfl,⟨_,SqL.of (s8 _ _ N5)⟩,qk (K:=K) (a:=nl) (xs:=zs) (JW fl nl tl gl H5 ts first needs) ⟨d0,_,_,_,_,_,_,_,rfl,s8,D8,kn0⟩ (fun i σ H' _ ⟨_,_,_,_,_,_,_,_,_,s',_,_⟩=>SqL.of (s' _ _ N5)) ?_ ?_⟩
    · clear D8 kn0 s8 K7 s7 htp hso D6 sd hd0
      rintro i x σ H6 hx ⟨d,kvs,v3,v6,v7,v8,v9,v10,rfl,s6,D6,kn⟩
      obtain ⟨na,need,rfl,en,hna⟩:=(R0.same (s5'.trans s6)).at hx
      have il:i < needs.length:=(List.getElem?_eq_some_iff.mp en).1
      have nle:=nlen need (List.mem_of_getElem? en)
      refine fun e he=>?_
      have se:=ze (H:=H6) (o:=.dT []) he
      have E7:upd H6 e (.dT []) e = some (.dT []):=zf
      generalize upd H6 e (.dT []) = H7 at se E7
      have s7:=s6.trans se
      have G7:=s7 _ _ G5
      have Y7:=Y5.same s7
      have A7:=se _ _ hna
      have D7:=se _ _ D6
      have ned:e ≠ d:=fun z=>by rw [z,D6] at he;cases he
      refine ⟨_,rfl,gl,rfl,⟨_,SqL.of G7⟩,qp (K:=K) (a:=gl) (xs:=ys) (fun m us H'=>Same H7 H' /\ BgS H' (((ja ts first.length).take m).filter (j7 need)) us) ⟨Same.refl _,BgS.nil⟩ (fun m us H' ⟨s',_⟩=>SqL.of (s' _ _ G7)) ?_ ?_⟩
      · rintro m x us H8 hx ⟨s8,U8⟩
        obtain ⟨a,b,rfl,eb,ha⟩:=(Y7.same s8).at hx
        have A8:=s8 _ _ A7
        have ul:us.length <= 5000:=by
          rw [U8.1]
          exact Nat.le_trans (List.length_filter_le _ _) (by rw [List.length_take];omega)
        have et:=zM eb
        refine ⟨rfl,_,rfl,na,rfl,⟨_,SqL.of A8⟩,qp (K:=K) (a:=na) (xs:=need.map V.str) (fun q ws H'=>ws = ((need.take q).map fun t=>decide (need.count t <= b.count t)).map V.bl /\ Same H8 H') ⟨rfl,Same.refl _⟩ (fun q ws H' ⟨_,s'⟩=>SqL.of (s' _ _ A8)) ?_ ?_⟩
        · rintro q y ws H9 hy ⟨rfl,s9⟩
          obtain ⟨t,rfl,et'⟩:=xh hy
          have ha9:=s9 _ _ ha
          have A9:=s9 _ _ A8
          have ql:q < need.length:=(List.getElem?_eq_some_iff.mp et').1
          refine ⟨rfl,_,rfl,⟨a,_,rfl,ha9⟩,_,rfl,a,b,t,rfl,rfl,SqT.of ha9,_,rfl,.inl ⟨rfl,_,SqL.of A9⟩,_,rfl,na,_,_,rfl,rfl,A9,_,_,rfl,rfl,?_,?_,s9⟩
          · rw [List.length_map,List.length_map,List.length_take];omega
          · rw [zM et',List.map_append,List.map_append]
            congr 1
            show [V.bl (decide ((need.count t:Int) <= (b.count t:Int)))] = [V.bl (decide (need.count t <= b.count t))]
            rw [YB]
        · rintro ws H9 ⟨rfl,s9⟩
          rw [show need.take (need.map V.str).length = need by rw [List.length_map,List.take_length]]
          refine ⟨by rw [List.length_map,List.length_map];omega,fun D hD=>⟨D,_,rfl,SqL.of zf,_,rfl,?_⟩⟩
          have t9:=s9.trans (ze (H:=H9) (o:=.lst ((need.map fun t=>decide (need.count t <= b.count t)).map V.bl)) hD)
          have em:(need.map fun t=>decide (need.count t <= b.count t)).all id = j7 need b:=by rw [List.all_map];rfl
          rw [em]
          by_cases c:j7 need b = true
          · refine ifT c ⟨_,rfl,by omega,s8.trans t9,?_⟩
            rw [et,List.filter_append,List.filter_cons_of_pos c]
            exact (U8.same t9).app (BgS.one (t9 _ _ ha))
          · refine ifF (by simpa using c) ⟨s8.trans t9,?_⟩
            rw [et,List.filter_append,List.filter_cons_of_neg c]
            show BgS _ (_ ++ []) us
            rw [List.append_nil]
            exact U8.same t9
      · rintro us H8 ⟨s8,U8⟩
        rw [Y5.1,List.take_length] at U8
        have fbl:((ja ts first.length).filter (j7 need)).length <= 5000:=Nat.le_trans (List.length_filter_le _ _) bl
        have fbm:∀ b ∈ (ja ts first.length).filter (j7 need),b.length = first.length /\ (∀ t ∈ b,t ∈ ts) /\ ∀ t,need.count t <= b.count t:=fun b hb=>by
          obtain ⟨h1,h2⟩:=List.mem_filter.mp hb
          exact ⟨(xF h1).1,(xF h1).2,V3 h2⟩
        have fin:=fun nx=>Kn.next (i:=i) (need:=need) (kn:=kvs) (nx:=nx) tnd tf hn en bl kn
        generalize (ja ts first.length).filter (j7 need) = fb at U8 fbl fbm fin
        have ul:us.length = fb.length:=U8.1
        refine ⟨by omega,fun cl hcl=>?_⟩
        have s9:=s8.trans (ze (H:=H8) (o:=.lst us) hcl)
        have C9:upd H8 cl (.lst us) cl = some (.lst us):=zf
        have U9:=U8.same (ze (H:=H8) (o:=.lst us) hcl)
        generalize upd H8 cl (.lst us) = H9 at s9 C9 U9
        have e5:H5 e = none:=s6.none he
        refine ⟨cl,rfl,⟨_,SqL.of C9⟩,qk (K:=K) (a:=cl) (xs:=us) (JV fl nl tl na gl d e H9 ts first needs i need kvs fb) ⟨[],_,_,_,_,rfl,SameB.refl _ _,s9 _ _ E7,Nx.nil⟩ (fun j σ H' _ ⟨_,_,_,_,_,_,S',_,_⟩=>SqL.of (S' _ _ C9 ?_)) ?_ ?_⟩
        · exact fun z=>by
            have:=s8 _ _ E7
            rw [<- z,hcl] at this
            cases this
        · rintro j x σ HA hx ⟨nx,v7,v8,v9,v10,rfl,SA,EA,nxo⟩
          obtain ⟨ba,b,rfl,eb,hb9⟩:∃ (a:Addr) (r:List Str),x = .ref a /\ fb[j]? = some r /\ H9 a = some (.tup (r.map V.str)):=U9.at hx
          obtain ⟨blen,bmem,bmt⟩:=fbm b (List.mem_of_getElem? eb)
          have jl:j < fb.length:=(List.getElem?_eq_some_iff.mp eb).1
          have E9:=s9 _ _ E7
          have nbe:ba ≠ e:=fun z=>by rw [z,E9] at hb9;cases hb9
          have old5:∀ c o,H5 c = some o -> HA c = some o:=fun c o z=>SA _ _ (s9 _ _ (s7 _ _ z)) (zj z e5)
          have bA:=SA _ _ hb9 nbe
          have DA:=SA _ _ (s9 _ _ D7) ned.symm
          refine ⟨le0,fun sms hsms=>?_⟩
          have sA:=ze (H:=HA) (o:=.lst []) hsms
          have SM:upd HA sms (.lst []) sms = some (.lst []):=zf
          generalize upd HA sms (.lst []) = HA1 at sA SM
          refine ⟨_,rfl,d,kvs,rfl,sA _ _ DA,fun lp as hlp al aa=>?_⟩
          have sB:=ze (H:=HA1) (o:=.lst (as.map V.ref)) hlp
          have LB:upd HA1 lp (.lst (as.map V.ref)) lp = some (.lst (as.map V.ref)):=zf
          have nlp:lp ≠ sms:=(zj SM hlp).symm
          have SMB:=sB _ _ SM
          generalize upd HA1 lp (.lst (as.map V.ref)) = HB at sB LB SMB
          have tAB:=sA.trans sB
          have ksnd:=kn.snd
          have klen:=kn.len
          refine ⟨lp,rfl,⟨_,SqL.of LB⟩,qk (K:=K) (a:=lp) (xs:=as.map V.ref) (JU fl nl tl na gl d e ba sms HB kvs i ts first needs b)
            ⟨[],_,_,rfl,SameB.refl _ _,SMB,rfl,(fun z h=>nomatch h),fun m' k v h=>by omega⟩ (fun m σ H' _ ⟨_,_,_,_,S',_,_,_,_⟩=>SqL.of (S' _ _ LB nlp)) ?_ ?_⟩
          · rintro m x σ HC hx' ⟨ns,v9,v10,rfl,SC,MC,nsl,nsa,nsb⟩
            rw [List.getElem?_map] at hx'
            obtain ⟨oa,eoa,rfl⟩:=Option.map_eq_some_iff.mp hx'
            have ml:m < kvs.length:=by rw [<- al];exact (List.getElem?_eq_some_iff.mp eoa).1
            have ek:kvs[m]? = some (kvs[m].1,kvs[m].2):=List.getElem?_eq_getElem ml
            obtain ⟨o,ko,olen,omem,vo,hvo,vob,osnd⟩:=ksnd _ (List.mem_of_getElem? ek)
            obtain ⟨oa',eoa',hoa⟩:=aa m _ _ ek
            rw [eoa] at eoa'
            cases eoa'
            rw [ko] at hoa
            have noa:oa ≠ sms:=fun z=>by rw [z,SM] at hoa;cases hoa
            have oC:=SC _ _ (sB _ _ hoa) noa
            have oC':HC oa = some (.tup (o.map V.str)):=by rw [oC,Wd]
            have nbs:ba ≠ sms:=zj bA hsms
            have bC:=SC _ _ (tAB _ _ bA) nbs
            have o5:∀ c o',H5 c = some o' -> HC c = some o':=fun c o' z=>SC _ _ (tAB _ _ (old5 c o' z)) (zj (old5 c o' z) hsms)
            have TC:=o5 _ _ T5
            have FC:=o5 _ _ F5
            have DC:=SC _ _ (tAB _ _ DA) (zj DA hsms)
            refine ⟨_,rfl,tl,rfl,⟨_,SqL.of TC⟩,qp (K:=K) (a:=tl) (xs:=ts.map V.str) (fun q zs H'=>zs = ((ts.take q).map fun t=>((min (b.count t) (o.count t):Nat):Int)).map V.int /\ Same HC H') ⟨rfl,Same.refl _⟩ (fun q zs H' ⟨_,s'⟩=>SqL.of (s' _ _ TC)) ?_ ?_⟩
            · rintro q y zs' HD hy ⟨rfl,sD⟩
              obtain ⟨t,rfl,et⟩:=xh hy
              have ql:q < ts.length:=(List.getElem?_eq_some_iff.mp et).1
              have bD:=sD _ _ bC
              have oD:=sD _ _ oC'
              refine ⟨rfl,_,rfl,⟨ba,_,rfl,bD⟩,_,rfl,ba,b,t,rfl,rfl,SqT.of bD,_,rfl,⟨oa,_,rfl,oD⟩,_,rfl,oa,o,t,rfl,rfl,SqT.of oD,_,_,rfl,?_,?_,sD⟩
              · rw [List.length_map,List.length_map,List.length_take];omega
              · rw [zM et,List.map_append,List.map_append]
                congr 1
                show [V.int (if (o.count t:Int) < (b.count t:Int) then (o.count t:Int) else (b.count t:Int))] = [V.int ((min (b.count t) (o.count t):Nat):Int)]
                congr 2
                split <;> omega
            · rintro zs' HD ⟨rfl,sD⟩
              rw [show ts.take (ts.map V.str).length = ts by rw [List.length_map,List.take_length]]
              have sm1:∀ l:List Str,(l.map fun t=>((min (b.count t) (o.count t):Nat):Int)).sum = ((sm l fun t=>min (b.count t) (o.count t):Nat):Int):=fun l=>by
                induction l with
                | nil=>rfl
                | cons x l ih=>
                  rw [List.map_cons,List.sum_cons,ih,zT]
                  omega
              have alk:=Y8 (o:=o) tnd bmem
              refine ⟨by rw [List.length_map,List.length_map];omega,fun al' hal'=>?_⟩
              have sE:=ze (H:=HD) (o:=.lst ((ts.map fun t=>((min (b.count t) (o.count t):Nat):Int)).map V.int)) hal'
              refine ⟨al',_,rfl,SqL.of zf,fun z hz=>?_,by rw [List.length_map];omega,?_⟩
              · obtain ⟨t,_,rfl⟩:=List.mem_map.mp hz
                have:b.count t <= b.length:=List.count_le_length
                omega
              rw [sm1]
              generalize upd HD al' (.lst ((ts.map fun t=>((min (b.count t) (o.count t):Nat):Int)).map V.int)) = HE at sE
              have tE:=sD.trans sE
              have ME:=tE _ _ MC
              refine ⟨_,rfl,.inl ⟨rfl,_,SqL.of ME⟩,_,rfl,_,rfl,d,.int (vo:Int),rfl,?_,_,rfl,fl,_,rfl,.inl (SqL.of (tE _ _ FC)),_,_,rfl,rfl,_,rfl,_,_,rfl,rfl,sms,_,_,rfl,rfl,ME,by rw [List.length_map];omega,?_⟩
              · rw [<- hvo,ko]
                exact DGet.t (tE _ _ DC) (tE _ _ oC)
              have ez:(vo:Int) + ((first.map V.str).length:Int) - ((sm ts fun t=>min (b.count t) (o.count t):Nat):Int) = ((vo + dst ts (cn o) (cn b):Nat):Int):=by
                rw [List.length_map]
                omega
              refine ⟨ns ++ [((vo + dst ts (cn o) (cn b):Nat):Int)],_,_,rfl,fun c o' h1 h2=>by rw [zu h2];exact tE _ _ (SC _ _ h1 h2),?_,by rw [List.length_append,nsl];rfl,fun z hz=>?_,fun m' k' v' hm' ek' o' vo' eo' hv'=>?_⟩
              · rw [zf,List.map_append]
                show some (HO.lst (ns.map V.int ++ [V.int ((vo:Int) + ((first.map V.str).length:Int) - ((sm ts fun t=>min (b.count t) (o.count t):Nat):Int))])) = _
                rw [ez]
                rfl
              · rcases List.mem_append.mp hz with z1 | z1
                · exact nsa z z1
                · rw [List.mem_singleton.mp z1]
                  exact ⟨o,vo,by rw [<- ko];exact hvo,vob,osnd,rfl⟩
              · by_cases z1:m' = m
                · subst z1
                  rw [ek] at ek'
                  cases ek'
                  have eo2:o' = o:=JE (eo'.symm.trans ko)
                  subst eo2
                  rw [hvo] at hv'
                  have:V.int (vo:Int) = V.int (vo':Int):=Option.some.inj hv'
                  injection this with z2
                  have z3:vo = vo':=by omega
                  subst z3
                  exact List.mem_append_right _ (by simp)
                · exact List.mem_append_left _ (nsb m' k' v' (by omega) ek' o' vo' eo' hv')
          · rintro σ HC ⟨ns,v9,v10,rfl,SC,MC,nsl,nsa,nsb⟩
            rw [List.length_map,al] at nsl nsb
            have nne:ns ≠ []:=fun z=>by
              rw [z] at nsl
              exact kn.ne (List.length_eq_zero_iff.mp nsl.symm)
            have nbs:ba ≠ sms:=zj bA hsms
            have bC:=SC _ _ (tAB _ _ bA) nbs
            have nes:e ≠ sms:=zj EA hsms
            have EC:=SC _ _ (tAB _ _ EA) nes
            refine ⟨_,rfl,sms,ns,rfl,SqL.of MC,nne,fun m hm lo=>?_⟩
            obtain ⟨o,vo,o1,o2,o3,rfl⟩:=nsa m hm
            refine ⟨_,rfl,_,rfl,e,_,rfl,DPut.t (k:=kyB b) EC (by rw [Wd];exact bC) (by have:=nxo.len;rw [List.length_take] at this;omega),?_⟩
            refine ⟨qS nx (kyB b) (.int ((vo + dst ts (cn o) (cn b):Nat):Int)),_,_,_,_,rfl,fun c o' h1 h2=>?_,zf,?_⟩
            · rw [zu h2]
              have h3:=SA _ _ h1 h2
              exact SC _ _ (tAB _ _ h3) (zj h3 hsms)
            · rw [zM eb]
              have dl:=zaR (o:=o) tnd bmem
              refine nxo.put (by omega) (o3.step (fun t _=>bmt t) (by rw [je tnd bmem];exact blen)) fun o' vo' h'=>?_
              obtain ⟨q,hq,eq⟩:=List.getElem_of_mem (QX h')
              have:=nsb q (kyB o') (.int (vo':Int)) hq (by rw [<- eq];exact List.getElem?_eq_getElem _) o' vo' rfl h'
              have:=lo _ this
              omega
        · rintro σ HA ⟨nx,v7,v8,v9,v10,rfl,SA,EA,nxo⟩
          rw [ul,List.take_length] at nxo
          exact ⟨_,rfl,e,nx,_,_,_,_,_,_,rfl,fun c o z=>SA _ _ (s9 _ _ (s7 _ _ z)) (zj z e5),EA,fin nx nxo⟩
    · rintro σ H6 ⟨d,kvs,v3,v6,v7,v8,v9,v10,rfl,s6,D6,kn⟩
      rw [zl] at kn
      have ksnd:=kn.snd
      have klen:=kn.len
      refine ⟨_,rfl,d,kvs,rfl,D6,fun lp as hlp al aa=>?_⟩
      have sB:=ze (H:=H6) (o:=.lst (as.map V.ref)) hlp
      have LB:upd H6 lp (.lst (as.map V.ref)) lp = some (.lst (as.map V.ref)):=zf
      generalize upd H6 lp (.lst (as.map V.ref)) = HB at sB LB
      refine ⟨lp,rfl,⟨_,SqL.of LB⟩,qp (K:=K) (a:=lp) (xs:=as.map V.ref) (JT kvs HB) ⟨[],rfl,rfl,(fun z h=>nomatch h),(fun m' p h=>by omega),Same.refl _⟩ (fun m us H' ⟨_,_,_,_,_,s'⟩=>SqL.of (s' _ _ LB)) ?_ ?_⟩
      · rintro m x us HC hx ⟨ns,rfl,nsl,nsa,nsb,sC⟩
        rw [List.getElem?_map] at hx
        obtain ⟨oa,eoa,rfl⟩:=Option.map_eq_some_iff.mp hx
        have ml:m < kvs.length:=by rw [<- al];exact (List.getElem?_eq_some_iff.mp eoa).1
        have ek:kvs[m]? = some (kvs[m].1,kvs[m].2):=List.getElem?_eq_getElem ml
        obtain ⟨o,ko,_,_,vo,hvo,_,_⟩:=ksnd _ (List.mem_of_getElem? ek)
        obtain ⟨oa',eoa',hoa⟩:=aa m _ _ ek
        rw [eoa] at eoa'
        cases eoa'
        refine ⟨rfl,_,rfl,_,rfl,d,.int (vo:Int),rfl,?_,by rw [List.length_map];omega,ns ++ [(vo:Int)],by rw [List.map_append];rfl,by rw [List.length_append,nsl];rfl,fun z hz=>?_,fun m' p' hm' ek' v' hv'=>?_,sC⟩
        · rw [<- hvo]
          exact DGet.t (sC _ _ (sB _ _ D6)) (sC _ _ (sB _ _ hoa))
        · rcases List.mem_append.mp hz with z1 | z1
          · exact nsa z z1
          · rw [List.mem_singleton.mp z1]
            exact ⟨_,List.mem_of_getElem? ek,vo,hvo,rfl⟩
        · by_cases z1:m' = m
          · subst z1
            rw [ek] at ek'
            cases ek'
            rw [hvo] at hv'
            have:V.int (vo:Int) = V.int (v':Int):=Option.some.inj hv'
            injection this with z2
            rw [<- z2]
            exact List.mem_append_right _ (by simp)
          · exact List.mem_append_left _ (nsb m' p' (by omega) ek' v' hv')
      · rintro us HC ⟨ns,rfl,nsl,nsa,nsb,sC⟩
        rw [List.length_map,al] at nsl nsb
        have nne:ns ≠ []:=fun z=>by
          rw [z] at nsl
          exact kn.ne (List.length_eq_zero_iff.mp nsl.symm)
        refine ⟨by rw [List.length_map];omega,fun D hD=>⟨D,ns,rfl,SqL.of zf,nne,fun m hm lo=>?_⟩⟩
        obtain ⟨p,hp,v,hv,rfl⟩:=nsa m hm
        refine k v _ (s5'.trans (s6.trans (sB.trans (sC.trans (ze hD))))) (kn.last tnd tf hn ⟨p,hp,hv⟩ fun p' hp' v' hv'=>?_)
        obtain ⟨q,hq,eq⟩:=List.getElem_of_mem hp'
        have:=lo _ (nsb q p' hq (by rw [<- eq];exact List.getElem?_eq_getElem _) v' hv')
        omega
end
section
variable {α:Type} [DecidableEq α] {U:List α} {n:Nat}
theorem Qa (U:List α) (S:α -> Nat):dst U S S = 0:=by
  unfold dst
  rw [jd (g:=fun _=>0) fun t _=>Nat.sub_self _]
  exact xu U
theorem Can.swap {r1 r2:List (α -> Nat)} (h:∀ S c,sm U S = n -> Can U n S r1 c -> Can U n S r2 c):∀ (pre:List (α -> Nat)) {S:α -> Nat} {c:Nat},sm U S = n -> Can U n S (pre ++ r1) c -> Can U n S (pre ++ r2) c
  | [],S,c,hs,hc=>h S c hs hc
  | _ :: pre,_,_,_,⟨T,c',h1,h2,h3,h4⟩=>⟨T,c',h1,h2,h3,Can.swap h pre h2 h4⟩
theorem Can.put0 {S N:α -> Nat} {c:Nat} {post:List (α -> Nat)} (hs:sm U S = n) (h0:∀ t ∈ U,N t = 0) (h:Can U n S post c):Can U n S (N :: post) c:=⟨S,c,fun t ht=>by rw [h0 t ht];exact Nat.zero_le _,hs,by rw [Qa];omega,h⟩
theorem Can.out {S N:α -> Nat} {c:Nat} {post:List (α -> Nat)} (h:Can U n S (N :: post) c):Can U n S post c:=by
  obtain ⟨T,c',_,_,h3,h4⟩:=h
  exact (h4.tri (Nat.le_refl _)).mono (by omega)
theorem Can.two {S N:α -> Nat} {c:Nat} {post:List (α -> Nat)} (h:Can U n S (N :: post) c):Can U n S (N :: N :: post) c:=by
  obtain ⟨T,c',h1,h2,h3,h4⟩:=h
  exact ⟨T,c',h1,h2,h3,T,c',h1,h2,by rw [Qa];omega,h4⟩
theorem Can.front:∀ (pre:List (α -> Nat)) {post:List (α -> Nat)} {S:α -> Nat} {c:Nat},Can U n S (pre ++ post) c -> Can U n S pre c
  | [],_,_,_,_=>trivial
  | _ :: pre,_,_,_,⟨T,c',h1,h2,h3,h4⟩=>⟨T,c',h1,h2,h3,Can.front pre h4⟩
theorem JQ {f g:α -> Nat}:∀ {U:List α},U.Nodup -> (∀ t ∈ U,g t <= f t) -> ∀ e,e + sm U g <= sm U f -> ∃ h:α -> Nat,(∀ t ∈ U,g t <= h t /\ h t <= f t) /\ sm U h + e = sm U f
  | [],_,_,e,he=>⟨f,(fun t z=>nomatch z),by rw [QB,QB] at *;omega⟩
  | x :: U,nd,hfg,e,he=>by
    obtain ⟨n1,n2⟩:=List.nodup_cons.mp nd
    rw [zT,zT] at he
    have hx:=hfg x List.mem_cons_self
    have hU:∀ t ∈ U,g t <= f t:=fun t ht=>hfg t (List.mem_cons_of_mem _ ht)
    have hs:=ju hU
    obtain ⟨h,h1,h2⟩:=JQ n2 hU (e - min e (f x - g x)) (by omega)
    refine ⟨fun t=>if t = x then f x - min e (f x - g x) else h t,fun t ht=>?_,?_⟩
    · rcases List.mem_cons.mp ht with rfl | ht
      · dsimp only;rw [if_pos rfl];omega
      · dsimp only;rw [if_neg fun z:t = x=>n1 (z ▸ ht)];exact h1 t ht
    · rw [zT,zT,if_pos rfl,jd (g:=h) fun t ht=>if_neg fun z:t = x=>n1 (z ▸ ht)]
      omega
theorem Can.one {S N:α -> Nat} {c:Nat} {post:List (α -> Nat)} (nd:U.Nodup) (hs:sm U S = n) (hN:sm U N <= n) (h:∀ T,sm U T = n -> Can U n T post c):Can U n S (N :: post) (sm U N + c):=by
  have e1:sm U (fun t=>N t - S t) + sm U S = sm U (fun t=>max (S t) (N t)):=by
    rw [<- vL]
    exact jd fun t _=>by omega
  have e2:sm U N <= sm U (fun t=>max (S t) (N t)):=ju fun t _=>Nat.le_max_right _ _
  obtain ⟨T,t1,t2⟩:=JQ (f:=fun t=>max (S t) (N t)) (g:=N) nd (fun t _=>Nat.le_max_right _ _) (sm U fun t=>N t - S t) (by omega)
  refine ⟨T,c,fun t ht=>(t1 t ht).1,by omega,?_,h T (by omega)⟩
  have:dst U S T <= sm U N:=by
    unfold dst
    exact ju fun t ht=>by have:=(t1 t ht).2;omega
  omega
theorem Can.more (nd:U.Nodup):∀ {more:List (α -> Nat)} {S:α -> Nat},sm U S = n -> (∀ N ∈ more,sm U N <= n) -> Can U n S more ((more.map (sm U)).sum)
  | [],_,_,_=>trivial
  | N :: more,S,hs,hm=>by
    rw [List.map_cons,List.sum_cons]
    exact Can.one nd hs (hm N List.mem_cons_self) fun T hT=>Can.more nd hT fun M hM=>hm M (List.mem_cons_of_mem _ hM)
theorem Can.back (nd:U.Nodup) {more:List (α -> Nat)} (hm:∀ N ∈ more,sm U N <= n):∀ (pre:List (α -> Nat)) {S:α -> Nat} {c:Nat},sm U S = n -> Can U n S pre c -> Can U n S (pre ++ more) (c + (more.map (sm U)).sum)
  | [],_,_,hs,_=>(Can.more nd hs hm).mono (by omega)
  | _ :: pre,_,_,_,⟨T,c',h1,h2,h3,h4⟩=>⟨T,c' + (more.map (sm U)).sum,h1,h2,by omega,Can.back nd hm pre h2 h4⟩
end
section
variable {α β:Type} [DecidableEq α] [DecidableEq β] {U:List α} {W:List β} {n:Nat} {φ:β -> α}
theorem Vq (h:W.map φ = U) (F:α -> Nat):sm W (fun t=>F (φ t)) = sm U F:=by
  unfold sm
  rw [<- h,List.map_map];rfl
theorem Can.ren {γ:Type} {A:γ -> α -> Nat} {B:γ -> β -> Nat} (h:W.map φ = U):∀ {L:List γ} {S:α -> Nat} {S':β -> Nat} {c:Nat},(∀ t ∈ W,S' t = S (φ t)) -> (∀ x ∈ L,∀ t ∈ W,B x t = A x (φ t)) -> Can U n S (L.map A) c -> Can W n S' (L.map B) c
  | [],_,_,_,_,_,_=>trivial
  | x :: L,S,S',c,hS,hB,⟨T,c',h1,h2,h3,h4⟩=>by
    refine ⟨fun t=>T (φ t),c',fun t ht=>?_,by rw [Vq h];exact h2,?_,Can.ren h (S:=T) (fun t _=>rfl) (fun y hy=>hB y (List.mem_cons_of_mem _ hy)) h4⟩
    · rw [hB x List.mem_cons_self t ht]
      exact h1 _ (by rw [<- h];exact List.mem_map.mpr ⟨t,ht,rfl⟩)
    · have:dst W S' (fun t=>T (φ t)) = dst U S T:=by
        unfold dst
        rw [<- Vq h fun t=>T t - S t]
        exact jd fun t ht=>by rw [hS t ht]
      omega
end
def Fw (U first:List Str) (needs:List (List Str)) (c:Nat):Prop:=Can U first.length (cn first) (needs.map cn) c /\ ∀ d,Can U first.length (cn first) (needs.map cn) d -> c <= d
structure Fits (U first:List Str) (needs:List (List Str)):Prop where
  nd:U.Nodup
  fm:∀ t ∈ first,t ∈ U
  nm:∀ need ∈ needs,need.length <= first.length /\ ∀ t ∈ need,t ∈ U
theorem Fits.sum {U first:List Str} {needs:List (List Str)} (h:Fits U first needs):sm U (cn first) = first.length:=je h.nd h.fm
theorem Fits.sub {U first:List Str} {needs needs':List (List Str)} (h:Fits U first needs) (hs:∀ need ∈ needs',need ∈ needs):Fits U first needs':=⟨h.nd,h.fm,fun need hn=>h.nm need (hs need hn)⟩
theorem Fw.of {U first:List Str} {needs rs:List (List Str)} (ft:Fits U first needs) (h:Bear first needs rs) (hl:rs.length = needs.length):Fw U first needs (chg first rs):=by
  have hn':∀ need ∈ needs,∀ t ∈ need,t ∈ U:=fun need hne=>(ft.nm need hne).2
  refine ⟨wo ft.nd hl rfl (fun q hq=>?_) (fun p hp t _=>?_),fun d hd=>?_⟩
  · obtain ⟨j,hj,e⟩:=List.getElem_of_mem hq
    have ej:rs[j]? = some q:=by rw [List.getElem?_eq_getElem hj,e]
    have m:=h.mem ft.fm hn' (j + 1) (by omega)
    rw [List.getD_eq_getElem?_getD,show (first :: rs)[j + 1]? = rs[j]? from rfl,ej] at m
    exact ⟨h.len j q ej,m⟩
  · obtain ⟨j,hj,e⟩:=List.getElem_of_mem hp
    rw [List.length_zip] at hj
    rw [List.getElem_zip] at e
    have er:rs[j]? = some p.1:=by rw [List.getElem?_eq_getElem (by omega),<- e]
    have en:needs[j]? = some p.2:=by rw [List.getElem?_eq_getElem (by omega),<- e]
    obtain ⟨need,e1,nr⟩:=h j p.1 er
    rw [en] at e1
    cases e1
    refine nr.meets ?_ t
    rw [h.prev j (by omega)]
    exact (ft.nm p.2 (List.mem_of_getElem? en)).1
  · have:=Bear.best ft.nd h hl ft.fm ft.nm needs.length 0 d (by omega) (Nat.zero_le _) (by rw [List.drop_zero];exact hd)
    rw [List.drop_zero] at this
    exact this
theorem Fw.eq {U U' first first':List Str} {needs needs':List (List Str)} {c c':Nat} (h:Fw U first needs c) (h':Fw U' first' needs' c')
    (a:Can U first.length (cn first) (needs.map cn) c -> Can U' first'.length (cn first') (needs'.map cn) c) (b:Can U' first'.length (cn first') (needs'.map cn) c' -> Can U first.length (cn first) (needs.map cn) c'):c = c':=
  Nat.le_antisymm (h.2 _ (b h'.1)) (h'.2 _ (a h.1))
theorem Ze {l l':List Str} (h:l.Perm l'):cn l = cn l':=funext fun t=>h.count_eq t
theorem Fw.shuffle {U first first':List Str} {needs needs':List (List Str)} {c c':Nat} (h:Fw U first needs c) (h':Fw U first' needs' c') (pf:first'.Perm first) (pn:needs'.map cn = needs.map cn):c' = c:=by
  refine Fw.eq h' h (fun z=>?_) (fun z=>?_)
  · rwa [Ze pf,pf.length_eq,pn] at z
  · rwa [Ze pf,pf.length_eq,pn]
theorem Fw.empty {U first:List Str} {pre post:List (List Str)} {c c':Nat} (ft:Fits U first (pre ++ post)) (h:Fw U first (pre ++ post) c) (h':Fw U first (pre ++ [] :: post) c'):c' = c:=by
  refine Fw.eq h' h (fun z=>?_) (fun z=>?_)
  · rw [List.map_append] at z ⊢
    exact Can.swap (fun S c _=>Can.out) (pre.map cn) ft.sum z
  · rw [List.map_append] at z ⊢
    exact Can.swap (fun S c hs hc=>Can.put0 hs (fun _ _=>rfl) hc) (pre.map cn) ft.sum z
theorem Fw.twice {U first need:List Str} {pre post:List (List Str)} {c c':Nat} (ft:Fits U first (pre ++ need :: post)) (h:Fw U first (pre ++ need :: post) c) (h':Fw U first (pre ++ need :: need :: post) c'):c' = c:=by
  refine Fw.eq h' h (fun z=>?_) (fun z=>?_)
  · rw [List.map_append] at z ⊢
    exact Can.swap (fun S c _=>Can.out) (pre.map cn) ft.sum z
  · rw [List.map_append] at z ⊢
    exact Can.swap (fun S c _=>Can.two) (pre.map cn) ft.sum z
theorem Fw.grow {U first:List Str} {pre more:List (List Str)} {c c':Nat} (ft:Fits U first (pre ++ more)) (h:Fw U first pre c) (h':Fw U first (pre ++ more) c'):c <= c' /\ c' <= c + (more.map List.length).sum:=by
  have e:(more.map cn).map (sm U) = more.map List.length:=by
    rw [List.map_map]
    exact List.map_congr_left fun m hm=>je ft.nd (ft.nm m (List.mem_append_right _ hm)).2
  refine ⟨h.2 _ ?_,h'.2 _ ?_⟩
  · have:=h'.1
    rw [List.map_append] at this
    exact this.front
  · rw [List.map_append,<- e]
    exact Can.back ft.nd (fun N hN=>by
      obtain ⟨m,hm,rfl⟩:=List.mem_map.mp hN
      have:=ft.nm m (List.mem_append_right _ hm)
      rw [je ft.nd this.2]
      exact this.1) (pre.map cn) ft.sum h.1
def jG (U a b:List Str):Nat:=sm U fun t=>min (a.count t) (b.count t)
theorem xY {U a b:List Str} (nd:U.Nodup) (hb:∀ t ∈ b,t ∈ U):dst U (cn a) (cn b) + jG U a b = b.length:=by
  rw [<- je nd hb]
  unfold dst jG
  rw [<- vL]
  exact jd fun t _=>by show b.count t - a.count t + min (a.count t) (b.count t) = b.count t;omega
theorem wy (U a b:List Str):jG U a b = jG U b a:=jd fun t _=>Nat.min_comm _ _
theorem Fw.other {U first other:List Str} {needs:List (List Str)} {c d:Nat} (ft:Fits U first needs) (fo:Fits U other needs) (hl:other.length = first.length) (h:Fw U first needs c) (h':Fw U other needs d):d <= c + (first.length - jG U first other) /\ c <= d + (first.length - jG U first other):=by
  have e1:=xY ft.nd fo.fm (a:=first)
  have e2:=xY ft.nd ft.fm (a:=other)
  have e3:=wy U first other
  have h1:=h.1
  have h2:=h'.1
  constructor
  · refine h'.2 _ ?_
    rw [hl]
    exact h1.tri (by omega)
  · refine h.2 _ ?_
    rw [hl] at h2
    exact h2.tri (by omega)
theorem JO:∀ {rs qs:List (List Str)} {r e:List Str},(r :: rs).getLast? = some e -> chg r (rs ++ qs) = chg r rs + chg e qs
  | [],qs,r,e,h=>by
    have:r = e:=by simpa using h
    subst this
    show chg r qs = 0 + _
    omega
  | q :: rs,qs,r,e,h=>by
    have h':(q :: rs).getLast? = some e:=by rw [List.getLast?_cons_cons] at h;exact h
    have:=JO (qs:=qs) h'
    show hd r q + chg q (rs ++ qs) = hd r q + chg q rs + _
    omega
theorem jy {f:Str -> Str} {U:List Str} (inj:∀ x ∈ U,∀ y ∈ U,f x = f y -> x = y) {t:Str} (ht:t ∈ U):∀ {l:List Str},(∀ x ∈ l,x ∈ U) -> (l.map f).count (f t) = l.count t
  | [],_=>rfl
  | x :: l,h=>by
    have ih:=jy inj ht (l:=l) fun y hy=>h y (List.mem_cons_of_mem _ hy)
    rw [List.map_cons,List.count_cons,List.count_cons,ih]
    by_cases e:x = t
    · subst e;simp
    · have e':¬ f x = f t:=fun z=>e (inj x (h x List.mem_cons_self) t ht z)
      simp [e,e']
theorem Fw.rename {U first:List Str} {needs:List (List Str)} {c c':Nat} {f g:Str -> Str} (ft:Fits U first needs) (hg:∀ t ∈ U,g (f t) = t) (h:Fw U first needs c) (h':Fw (U.map f) (first.map f) (needs.map (List.map f)) c'):c' = c:=by
  have inj:∀ x ∈ U,∀ y ∈ U,f x = f y -> x = y:=fun x hx y hy e=>by rw [<- hg x hx,e,hg y hy]
  have hr:(U.map f).map g = U:=by
    rw [List.map_map]
    exact (List.map_congr_left fun t ht=>hg t ht).trans (List.map_id _)
  have hL:(needs.map (List.map f)).map cn = needs.map fun need=>cn (need.map f):=by rw [List.map_map];rfl
  refine Fw.eq h' h (fun z=>?_) (fun z=>?_)
  · rw [hL,List.length_map] at z
    exact Can.ren (φ:=f) (W:=U) (γ:=List Str) (A:=fun need=>cn (need.map f)) (B:=cn) (S:=cn (first.map f)) (S':=cn first) rfl (fun t ht=>(jy inj ht ft.fm).symm) (fun need hn t ht=>(jy inj ht (ft.nm need hn).2).symm) z
  · rw [hL,List.length_map]
    refine Can.ren (φ:=g) hr (fun t ht=>?_) (fun need hn t ht=>?_) z
    · obtain ⟨u,hu,rfl⟩:=List.mem_map.mp ht
      rw [hg u hu]
      exact jy inj hu ft.fm
    · obtain ⟨u,hu,rfl⟩:=List.mem_map.mp ht
      rw [hg u hu]
      exact jy inj hu (ft.nm need hn).2
section
variable {P:Program} {w:World} {K:PySem.W.Frag} {mg:Str -> Option Value} {base:Heap}
inductive Zy (K:PySem.W.Frag) (vs:List V) (H:Hp) (Q:VK):Prop
  | mk (b a:Addr) (n:Int) (xs:List V) (_:vs = [.ref b,.ref a]) (_:BoxAt H b n) (_:n < 1000000) (_:a ≠ b) (_:H a = some (.lst xs)) (_:xs.length <= 1000) (_:∀ (l:Addr) (ys:List V) H',SameB b H H' -> BoxAt H' b (n + xs.length) -> l ≠ b -> H l = none -> H' l = some (.lst ys) -> ys.Perm xs -> Q (.ref l) H'):Zy K vs H Q
def Qs (K:PySem.W.Frag):Sp:=fun vs H Q _=>Zy K vs H Q
theorem Vu:zJ ["_law_box_here", "_law_some", "_law_found", "_law_one"] ["_law_box_here", "_law_some"] (zo (zw 15)):=⟨rfl,rfl,rfl,by decide +kernel,rfl,by decide +kernel,by decide +kernel⟩
def Xb (b:_) (a:_) (l:_) (H:_) (n:_) (xs:List V):=fun (i:Nat) (σ:St) (H4:Hp)=>(Ex2 fun (ys:List V) (v3:Option V)=>An6 (σ = [some (.ref b),some (.ref a),some (.ref l),v3]) (SameB b H H4) (BoxAt H4 b (n + i)) (H4 a = some (.lst xs)) (H4 l = some (.lst ys)) (ys.Perm (xs.take i)):Prop)
theorem Yg {f:Addr} {fd:FuncData} (F:Fun K "_law_shuffled" "_law_shuffled" (zw 15) f fd) (B:Blt mg) (D_take:Dfn P w K mg base "_law_take" 1 ["_law_box_here", "_law_size"] jM):qC P w K mg base CX0 2 f fd ["_law_box_here", "_law_some"] (Qs K):=by
  have nd:=Vu.nd
  refine F.ok Vu (fun vs H Q E h=>?_) (fun cdv A outer s H vs Q E hr h=>?_)
  · obtain ⟨b,a,n,xs,rfl,_⟩:=h
    rfl
  · obtain ⟨b,a,n,xs,rfl,B0,hn,nab,ha,hxl,k⟩:=h
    have hbig:100000 < sizeLine:=by rw [sizeLine_eq];decide
    have e62:(2:Int) ^ 62 = 4611686018427387904:=by decide
    refine ⟨_,(zi (zx (i:=2) nd rfl (Or.inl rfl) (z9 zg))
      (zi (zU PassesOwn.never rfl (zD (pv 1)) (zB (i:=3) nd rfl (Or.inl rfl))
      (zr (qU (jv PySem.F.plainAttrs_list PySem.F.slot_list_insert PySem.F.type_list_insert XW (pv 2) (zc (zn D_take (hr.mono (by first | decide | exact Nat.le_refl _ | omega)) rfl (zc (pv 0) (zc (zA zN (zq zy rfl B.len boot_len (zc (pv 2) zg)) zk) zg))) (zc (pv 3) zg))))))
      (zr (zI (pv 2))))),?_⟩
    refine ⟨le0,fun l hl=>?_⟩
    have nl:=B0.nne hl
    have nal:a ≠ l:=zj ha hl
    refine ⟨_,rfl,a,rfl,⟨_,SqL.of ((ze hl) _ _ ha)⟩,qk (K:=K) (a:=a) (xs:=xs) (Xb b a l H n xs)
      ⟨[],_,rfl,(SameB.refl b H).new hl,(B0.new hl).mono (by omega),(ze hl) _ _ ha,zf,.nil⟩ (fun i σ H4 _ ⟨_,_,_,_,_,h,_,_⟩=>SqL.of h) ?_ ?_⟩
    · rintro i x σ H4 hx ⟨ys,v3,rfl,S4,B4,A4,L4,pm⟩
      have hi:=(List.getElem?_eq_some_iff.mp hx).1
      have yl:ys.length = i:=by rw [pm.length_eq,List.length_take];omega
      refine ⟨_,rfl,.inl ⟨rfl,_,SqL.of L4⟩,_,rfl,_,rfl,l,_,rfl,.inl (SqL.of L4),_,_,rfl,rfl,b,_,_,rfl,B4,by omega,by omega,by omega,fun q H5 q0 q1 B5 S5=>⟨_,rfl,?_⟩⟩
      refine ⟨l,ys,q,x,rfl,rfl,S5 l _ L4 nl,q0,by rw [e62];omega,by omega,?_⟩
      refine ⟨_,_,rfl,(S4.trans S5).put hl,(B5.other nl).mono (by omega),by rw [zu nal];exact S5 a _ A4 nab,zf,?_⟩
      have e1:xs.take (i + 1) = xs.take i ++ [x]:=by
        obtain ⟨h1,h2⟩:=List.getElem?_eq_some_iff.mp hx
        rw [<- h2,List.take_append_getElem]
      rw [e1]
      refine List.perm_middle.trans ?_
      rw [List.take_append_drop]
      exact ((List.Perm.cons x pm).trans (List.perm_append_singleton x _).symm)
    · rintro σ H4 ⟨ys,v3,rfl,S4,B4,A4,L4,pm⟩
      rw [List.take_length] at pm
      exact ⟨_,rfl,k l ys H4 S4 B4 nl hl L4 pm⟩
end
section
variable {P:Program} {w:World} {K:PySem.W.Frag} {mg:Str -> Option Value} {base:Heap}
inductive vJ (vs:List V) (H:Hp) (Q:VK):Prop
  | mk (a d:Addr) (kvs:List (Key × V)) (xs:List Str) (f:Str -> Str) (_:vs = [.ref a,.ref d]) (_:H a = some (.lst (xs.map V.str))) (_:H d = some (.dK kvs)) (_:(∀ t ∈ xs,qg kvs (Sum.inr t) = some (.str (f t)))) (_:xs.length <= 1000) (_:∀ (l:Addr) H',H l = none -> Same H H' -> H' l = some (.lst ((xs.map f).map V.str)) -> Q (.ref l) H'):vJ  vs H Q
def vK:Sp:=fun vs H Q _=>vJ  vs H Q
theorem ZJ:zJ ["_law_some", "_law_others"] ["_law_some", "_law_others"] (zo (zw 20)):=⟨rfl,rfl,rfl,by decide +kernel,rfl,by decide +kernel,by decide +kernel⟩
theorem XT {f:Addr} {fd:FuncData} (F:Fun K "_law_called" "_law_called" (zw 20) f fd) (B:Blt mg):qC P w K mg base CX0 1 f fd ["_law_some", "_law_others"] vK:=by
  have nd:=ZJ.nd
  refine F.ok ZJ (fun vs H Q E h=>?_) (fun cdv A outer s H vs Q E hr h=>?_)
  · obtain ⟨a,d,kvs,xs,g,rfl,_⟩:=h
    rfl
  · obtain ⟨a,d,kvs,xs,g,rfl,ha,hd,hv,hl,k⟩:=h
    have hbig:100000 < sizeLine:=by rw [sizeLine_eq];decide
    have hu:=hr.units0
    have hu1:=Z1 hr
    refine ⟨_,(zr (zI (qF ["_law_others"] [1] rfl rfl (by kernel_rfl) (zD (pv 0)) (fun C0 s0 H0 ex0=>qE) (fun C0 s0 H0 ex0=>(yS hu1 (pv 1) (pv 0) (fun _ _=>rfl)))))),?_⟩
    refine ⟨_,rfl,a,rfl,⟨_,SqL.of ha⟩,qp (K:=K) (a:=a) (xs:=xs.map V.str) (fun i zs H1=>zs = ((xs.take i).map g).map V.str /\ Same H H1) ⟨rfl,Same.refl _⟩ (fun i zs H1 ⟨_,s1⟩=>SqL.of (s1 _ _ ha)) ?_ ?_⟩
    · rintro i x zs H1 hx ⟨rfl,s1⟩
      obtain ⟨t,rfl,et⟩:=xh hx
      have il:=(List.getElem?_eq_some_iff.mp et).1
      refine ⟨rfl,_,rfl,_,rfl,d,_,rfl,(by rw [<- hv t (List.mem_of_getElem? et)];exact DGet.k (k:=.inr t) (s1 _ _ hd)),?_,?_,s1⟩
      · rw [List.length_map,List.length_map,List.length_take];omega
      · rw [zM et,List.map_append,List.map_append];rfl
    · rintro zs H1 ⟨rfl,s1⟩
      have el:(xs.map V.str).length = xs.length:=List.length_map ..
      rw [el,List.take_length]
      refine ⟨by rw [List.length_map,List.length_map];omega,fun D hD=>k D _ (s1.free hD) (s1.trans (ze hD)) zf⟩
end
theorem qO (xs:List V) (i:Nat):qv xs none (some (i:Int)) = xs.take i:=by
  unfold qv
  rw [HT.sIx_nat,HT.sIx_none,List.drop_zero,Nat.sub_zero]
  by_cases h:i <= xs.length
  · rw [Nat.min_eq_left h]
  · rw [Nat.min_eq_right (by omega),List.take_length,List.take_of_length_le (by omega)]
theorem Qc (xs:List V) {i j:Nat} (h:i <= j):qv xs (some (i:Int)) (some (j:Int)) = (xs.drop i).take (j - i):=by
  unfold qv
  rw [HT.sIx_nat,HT.sIx_nat]
  by_cases h1:i <= xs.length
  · rw [Nat.min_eq_left h1]
    by_cases h2:j <= xs.length
    · rw [Nat.min_eq_left h2]
    · rw [Nat.min_eq_right (by omega),List.take_of_length_le (by rw [List.length_drop];omega),List.take_of_length_le (by rw [List.length_drop];omega)]
  · rw [Nat.min_eq_right (show xs.length <= i by omega),Nat.min_eq_right (show xs.length <= j by omega),List.drop_length,List.drop_of_length_le (by omega),List.take_nil,List.take_nil]
theorem xZ (xs:List V) (i:Nat):qv xs (some (i:Int)) none = xs.drop i:=by
  unfold qv
  rw [HT.sIx_nat,HT.sIx_none]
  by_cases h:i <= xs.length
  · rw [Nat.min_eq_left h,List.take_of_length_le (by rw [List.length_drop];exact Nat.le_refl _)]
  · rw [Nat.min_eq_right (by omega),List.drop_length,List.drop_of_length_le (by omega),List.take_nil]
def SameE (E:Addr -> Prop) (H H':Hp):Prop:=∀ a o,H a = some o -> ¬ E a -> H' a = some o
def E2 (b c:Addr) (a:Addr):Prop:=a = b \/ a = c
theorem SameE.refl (E:Addr -> Prop) (H:Hp):SameE E H H:=fun _ _ e _=>e
theorem SameE.trans {E:Addr -> Prop} {H H1 H2:Hp} (a:SameE E H H1) (c:SameE E H1 H2):SameE E H H2:=fun d o e hd=>c d o (a d o e hd) hd
theorem SameE.of {E:Addr -> Prop} {H H1:Hp} (a:Same H H1):SameE E H H1:=fun d o e _=>a d o e
theorem SameE.ofB {b c:Addr} {H H1:Hp} (a:SameB b H H1):SameE (E2 b c) H H1:=fun d o e h=>a d o e fun z=>h (.inl z)
theorem SameE.put {b c:Addr} {o:HO} {H:Hp}:SameE (E2 b c) H (upd H c o):=fun d u e h=>by rw [zu fun z=>h (.inr z)];exact e
theorem yV {b c p:Addr} {H:Hp} {n:Int} {o:HO} (hb:BoxAt H b n) (hc:H c = some o) (h:H p = none):¬ E2 b c p:=fun z=>z.elim (hb.nne h) fun e=>(zj hc h) e.symm
def RwE (E:Addr -> Prop) (H:Hp) (rs:List (List Str)) (zs:List V):Prop:=zs.length = rs.length /\ ∀ (j:Nat) (r:List Str),rs[j]? = some r -> ∃ a,zs[j]? = some (.ref a) /\ ¬ E a /\ H a = some (.lst (r.map V.str))
theorem RwE.rws {E:Addr -> Prop} {H:Hp} {rs:List (List Str)} {zs:List V} (h:RwE E H rs zs):RwS H rs zs:=⟨h.1,fun j k e=>let ⟨T,a,_,c⟩:=h.2 j k e;⟨T,a,c⟩⟩
theorem RwE.draw {E:Addr -> Prop} {H H':Hp} {rs:List (List Str)} {zs:List V} (h:RwE E H rs zs) (s:SameE E H H'):RwE E H' rs zs:=⟨h.1,fun j k e=>let ⟨T,a,n,c⟩:=h.2 j k e;⟨T,a,n,s _ _ c n⟩⟩
theorem RwE.of {b c:Addr} {H:Hp} {rs:List (List Str)} {zs:List V} (h:RwB b H rs zs) (hc:H c = none):RwE (E2 b c) H rs zs:=⟨h.1,fun j k e=>let ⟨T,a,n,u⟩:=h.2 j k e;⟨T,a,fun z=>z.elim n (zj u hc),u⟩⟩
theorem RwE.take {E:Addr -> Prop} {H:Hp} {rs:List (List Str)} {zs:List V} (h:RwE E H rs zs) (i:Nat):RwE E H (rs.take i) (zs.take i):=⟨by rw [List.length_take,List.length_take,h.1],fun j k e=>by
  rw [List.getElem?_take] at e ⊢
  by_cases z:j < i
  · rw [if_pos z] at e ⊢;exact h.2 j k e
  · rw [if_neg z] at e;cases e⟩
theorem RwE.drop {E:Addr -> Prop} {H:Hp} {rs:List (List Str)} {zs:List V} (h:RwE E H rs zs) (i:Nat):RwE E H (rs.drop i) (zs.drop i):=⟨by rw [List.length_drop,List.length_drop,h.1],fun j k e=>by
  rw [List.getElem?_drop] at e ⊢
  exact h.2 _ k e⟩
theorem RwE.app {E:Addr -> Prop} {H:Hp} {rs qs:List (List Str)} {zs ys:List V} (h:RwE E H rs zs) (g:RwE E H qs ys):RwE E H (rs ++ qs) (zs ++ ys):=⟨by rw [List.length_append,List.length_append,h.1,g.1],fun j k e=>by
  by_cases z:j < rs.length
  · rw [List.getElem?_append_left z] at e
    rw [List.getElem?_append_left (by rw [h.1];exact z)];exact h.2 j k e
  · rw [List.getElem?_append_right (by omega)] at e
    rw [List.getElem?_append_right (by rw [h.1];omega),h.1];exact g.2 _ k e⟩
theorem RwE.one {E:Addr -> Prop} {H:Hp} {r:List Str} {a:Addr} (n:¬ E a) (h:H a = some (.lst (r.map V.str))):RwE E H [r] [.ref a]:=⟨rfl,fun j k e=>by
  cases j with
  | zero=>cases e;exact ⟨a,rfl,n,h⟩
  | succ j=>cases e⟩
def Tell (first:List Str) (needs:List (List Str)) (c:Nat):Prop:=∃ rs,rs.length = needs.length /\ Bear first needs rs /\ chg first rs = c
theorem Tell.fw {U first:List Str} {needs:List (List Str)} {c:Nat} (h:Tell first needs c) (ft:Fits U first needs):Fw U first needs c:=by
  obtain ⟨rs,h1,h2,rfl⟩:=h
  exact Fw.of ft h2 h1
inductive Case (E:Addr -> Prop) (H:Hp) (x:V) (c:Nat):Prop
  | mk (T fl nl:Addr) (first:List Str) (needs:List (List Str)) (zs:List V) (_:x = .ref T) (_:¬ E T) (_:H T = some (.tup [.ref fl,.ref nl])) (_:¬ E fl) (_:H fl = some (.lst (first.map V.str))) (_:¬ E nl) (_:H nl = some (.lst zs)) (_:RwE E H needs zs) (_:NeedsOk first needs)
    (_:∀ rs,rs.length = needs.length -> Bear first needs rs -> chg first rs = c):Case E H x c
theorem Case.draw {E:Addr -> Prop} {H H':Hp} {x:V} {c:Nat} (h:Case E H x c) (s:SameE E H H'):Case E H' x c:=by
  obtain ⟨T,fl,nl,first,needs,zs,e,h1,h2,h3,h4,h5,h6,h7,h8,h9⟩:=h
  exact ⟨T,fl,nl,first,needs,zs,e,h1,s _ _ h2 h1,h3,s _ _ h4 h3,h5,s _ _ h6 h5,h7.draw s,h8,h9⟩
def unS:V -> Str
  | .str t=>t
  | _=> ""
theorem QZ:∀ l:List Str,(l.map V.str).map unS = l
  | []=>rfl
  | t :: l=>congrArg (t :: ·) (QZ l)
theorem yb {ys:List V} {l:List Str} (h:ys.Perm (l.map V.str)):∃ l':List Str,ys = l'.map V.str /\ l'.Perm l:=by
  refine ⟨ys.map unS,?_,?_⟩
  · rw [List.map_map]
    refine ((List.map_congr_left fun v hv=>?_).trans (List.map_id _)).symm
    obtain ⟨t,_,rfl⟩:=List.mem_map.mp (h.mem_iff.mp hv)
    rfl
  · have:=h.map unS
    rwa [QZ] at this
theorem wP {k:Key} {v:V}:∀ {kps acc:List (Key × V)},(kps.map (·.1)).Nodup -> (k,v) ∈ kps -> qg (qH acc kps) k = some v
  | [],_,_,h=>nomatch h
  | (k',v') :: kps,acc,nd,h=>by
    obtain ⟨n1,n2⟩:=List.nodup_cons.mp nd
    have none:∀ (kps acc:List (Key × V)),k ∉ kps.map (·.1) -> qg (qH acc kps) k = qg acc k:=by
      intro kps
      induction kps with
      | nil=>intro acc _;rfl
      | cons q kps ih=>
        intro acc hk
        have e1:k ≠ q.1:=fun z=>hk (by rw [z];exact List.mem_cons_self)
        show qg (qH (qS acc q.1 q.2) kps) k = _
        rw [ih _ fun z=>hk (List.mem_cons_of_mem _ z),jt,if_neg e1]
    show qg (qH (qS acc k' v') kps) k = _
    rcases List.mem_cons.mp h with e | e
    · cases e
      rw [none _ _ n1,jt,if_pos rfl]
    · exact wP n2 e
theorem W8 {H:Hp} {ts os:List Str} {Ts:List Addr} (tu:Tups H (ts.map V.str) (os.map V.str) Ts) (hl:Ts.length = min (ts.map V.str).length (os.map V.str).length):PrsL H (Ts.map V.ref) ((ts.zip os).map fun p=>(Sum.inr p.1,V.str p.2)):=by
  refine ⟨by rw [List.length_map,List.length_map,List.length_zip,hl,List.length_map,List.length_map],fun j x hx=>?_⟩
  rw [List.getElem?_map] at hx
  obtain ⟨T,eT,rfl⟩:=Option.map_eq_some_iff.mp hx
  obtain ⟨x,y,ex,ey,hT⟩:=tu j T eT
  rw [List.getElem?_map] at ex ey
  obtain ⟨t,et,rfl⟩:=Option.map_eq_some_iff.mp ex
  obtain ⟨u,eu,rfl⟩:=Option.map_eq_some_iff.mp ey
  refine ⟨T,.inr t,.str u,rfl,hT,?_⟩
  rw [List.getElem?_map,(List.getElem?_zip_eq_some (z:=(t,u))).mpr ⟨et,eu⟩]
  rfl
theorem Zp:∀ {ts os:List Str},os.length = ts.length -> ((ts.zip os).map fun p=>((Sum.inr p.1:Key),V.str p.2)).map (·.1) = ts.map Sum.inr
  | [],_,_=>rfl
  | t :: ts,[],h=>nomatch h
  | t :: ts,o :: os,h=>congrArg ((Sum.inr t:Key) :: ·) (Zp (by simpa using h))
theorem yW {first:List Str} {needs rs:List (List Str)} (hl:rs.length = needs.length) (h1:∀ r ∈ rs,r.length = first.length) (h2:∀ p ∈ rs.zip needs,∀ t,p.2.count t <= p.1.count t):lmB first needs rs = true:=by
  unfold lmB
  rw [decide_eq_true hl,List.all_eq_true.mpr fun r hr=>decide_eq_true (h1 r hr)]
  show ((rs.zip needs).all fun p=>jD p.2 p.1) = true
  exact List.all_eq_true.mpr fun p hp=>List.all_eq_true.mpr fun t _=>decide_eq_true (h2 p hp t)
def jo (as bs:List Str) (t:Str):Str:=bs.getD (as.idxOf t) ""
theorem xD {as bs:List Str} (nd:as.Nodup) {i:Nat} {t u:Str} (ha:as[i]? = some t) (hb:bs[i]? = some u):jo as bs t = u:=by
  obtain ⟨h1,h2⟩:=List.getElem?_eq_some_iff.mp ha
  have hi:as.idxOf t < as.length:=List.idxOf_lt_length_of_mem (List.mem_of_getElem? ha)
  have e:as.idxOf t = i:=by
    have e1:as[as.idxOf t] = as[i]:=by rw [h2];exact List.getElem_idxOf hi
    have pw:=List.pairwise_iff_getElem.mp nd
    rcases Nat.lt_trichotomy (as.idxOf t) i with z | z | z
    · exact absurd e1 (pw _ _ hi h1 z)
    · exact z
    · exact absurd e1.symm (pw _ _ h1 hi z)
  unfold jo
  rw [e,List.getD_eq_getElem?_getD,hb]
  rfl
theorem yn {as bs:List Str} (nd:as.Nodup) (hl:bs.length = as.length) {t:Str} (ht:t ∈ as):jo as bs t ∈ bs /\ (t,jo as bs t) ∈ as.zip bs:=by
  obtain ⟨i,hi,e⟩:=List.getElem_of_mem ht
  have ea:as[i]? = some t:=by rw [List.getElem?_eq_getElem hi,e]
  have eb:bs[i]? = some bs[i]:=List.getElem?_eq_getElem (by omega)
  rw [xD nd ea eb]
  refine ⟨List.getElem_mem _,?_⟩
  have hz:i < (as.zip bs).length:=by rw [List.length_zip];omega
  have:(as.zip bs)[i] = (t,bs[i]):=by rw [List.getElem_zip,e]
  rw [<- this]
  exact List.getElem_mem _
theorem Va {as bs:List Str} (nd:as.Nodup) (nd':bs.Nodup) (hl:bs.length = as.length) {t:Str} (ht:t ∈ as):jo bs as (jo as bs t) = t:=by
  obtain ⟨i,hi,e⟩:=List.getElem_of_mem ht
  have ea:as[i]? = some t:=by rw [List.getElem?_eq_getElem hi,e]
  have eb:bs[i]? = some bs[i]:=List.getElem?_eq_getElem (by omega)
  rw [xD nd ea eb]
  exact xD nd' eb ea
theorem Vb {as bs:List Str} (nd:as.Nodup) (hl:bs.length = as.length):as.map (jo as bs) = bs:=by
  refine List.ext_getElem (by rw [List.length_map,hl]) fun i h1 h2=>?_
  rw [List.length_map] at h1
  rw [List.getElem_map]
  exact xD nd (List.getElem?_eq_getElem h1) (List.getElem?_eq_getElem h2)
section
variable {P:Program} {w:World} {K:PySem.W.Frag} {mg:Str -> Option Value} {base:Heap}
inductive wZ (vs:List V) (H:Hp) (Q:VK):Prop
  | mk (b fl nl:Addr) (n:Int) (c:Nat) (first tips:List Str) (needs:List (List Str)) (zs:List V) (_:vs = [.ref b,.ref fl,.ref nl,.int (c:Int)]) (_:BoxAt H b n) (_:n < 500000) (_:fl ≠ b) (_:nl ≠ b) (_:H fl = some (.lst (first.map V.str))) (_:H nl = some (.lst zs)) (_:RwB b H needs zs) (_:NeedsOk first needs) (_:Tps first needs tips) (_:needs.length <= 59) (_:Tell first needs c) (_:∀ H',SameB b H H' -> BoxAt H' b (n + 1000) -> Q (.bl true) H'):wZ  vs H Q
def yI:Sp:=fun vs H Q _=>wZ  vs H Q
theorem Ji:zJ ["_law_box_here", "_law_first", "_law_needs_here", "_law_many", "_law_names_here", "_law_need", "_law_others", "_law_at", "_law_cases", "_law_one", "_law_other"] ["_law_box_here", "_law_first", "_law_needs_here", "_law_many"] (zo (zw 21)):=⟨rfl,rfl,rfl,by decide +kernel,rfl,by decide +kernel,by decide +kernel⟩
def Xa (b:_) (fl:_) (nl:_) (c:Nat) (H:_) (tips:List Str) (first:List Str) (needs:List (List Str)):=fun (i:Nat) (σ:St) (H':Hp)=>(Ex3 fun (tl:Addr) (ts:List Str) (v5:Option V)=>An8 (σ = [some (.ref b),some (.ref fl),some (.ref nl),some (.int (c:Int)),some (.ref tl),v5,none,none,none,none,none]) (Same H H') (tl ≠ b) (H' tl = some (.lst (ts.map V.str))) (ts.Nodup) ((∀ t ∈ ts,t ∈ tips)) ((∀ t ∈ first,t ∈ ts)) (∀ (j:Nat) (need:List Str),j < i -> needs[j]? = some need -> ∀ t ∈ need,t ∈ ts):Prop)
def J9 (b:_) (cl:_) (needs:List (List Str)) (HA:_) (n:_):=fun (j:Nat) (us:List V) (H':Hp)=>(Ex1 fun (ns:List (List Str))=>An5 (RwE (E2 b cl) H' ns us) (ns.map cn = (needs.take j).map cn) ((∀ r ∈ ns,∃ need ∈ needs,r.Perm need)) (SameB b HA H') (BoxAt H' b (n + 300 + 6 * j)):Prop)
def J8 (b:_) (fl:_) (nl:_) (c:Nat) (tl:_) (v5:_) (d:_) (i:Nat) (cl:_) (HI:_):=fun (j:Nat) (σ:St) (H':Hp)=>(Ex2 fun (v9 v10:Option V)=>An2 (σ = [some (.ref b),some (.ref fl),some (.ref nl),some (.int (c:Int)),some (.ref tl),v5,some (.ref d),some (.int (i:Int)),some (.ref cl),v9,v10]) (Same HI H'):Prop)
theorem VZ {f:Addr} {fd:FuncData} (F:Fun K "_law_alike_right" "_law_alike_right" (zw 21) f fd) (B:Blt mg) (D_names:Dfn P w K mg base "_law_names" 3 ["_law_box_here", "_law_many"] vF) (D_take:Dfn P w K mg base "_law_take" 1 ["_law_box_here", "_law_size"] jM) (D_called:Dfn P w K mg base "_law_called" 1 ["_law_some", "_law_others"] vK) (D_shuffled:Dfn P w K mg base "_law_shuffled" 2 ["_law_box_here", "_law_some"] (Qs K)) (Dfewest_changes:Dfn P w K mg base "fewest_changes" 5 ["first", "needs"] ZD) (Dbear_tips:Dfn P w K mg base "bear_tips" 4 ["first", "needs"] xQ) (D_meets:Dfn P w K mg base "_law_meets" 1 ["_law_first", "_law_needs_here", "_law_rows"] (xt K)):qC P w K mg base CX0 6 f fd ["_law_box_here", "_law_first", "_law_needs_here", "_law_many"] yI:=by
  have nd:=Ji.nd
  refine F.ok Ji (fun vs H Q E h=>?_) (fun cdv A outer s H vs Q E hr h=>?_)
  · obtain ⟨b,fl,nl,n,c,first,tips,needs,zs,rfl,_⟩:=h
    rfl
  · obtain ⟨b,fl,nl,n,c,first,tips,needs,zs,rfl,B0,hn,nfb,nnb,F0,N0,R0,ok,tp,n59,tell,k⟩:=h
    have hbig:1000000 < sizeLine:=by rw [sizeLine_eq];decide
    have hu:=hr.units0
    have hu1:=Z1 hr
    have zl:=R0.1
    have f0:=ok.f0
    have f1:=ok.f1
    have t8:=tp.t8
    refine ⟨_,(zi (zx (i:=4) nd rfl (Or.inl rfl) (zq (zZ hr.hd) rfl B.sorted z7 (zc (zK (qJ hr.hd) rfl B.set qR (zc (pv 1) zg)) zg)))
      (zi (zU PassesOwn.never rfl (zD (pv 2)) (zB (i:=5) nd rfl (Or.inl rfl))
      (zr (zx (i:=4) nd rfl (Or.inl rfl) (zq (zZ hr.hd) rfl B.sorted z7 (zc (zK (qJ hr.hd) rfl B.set qR (zc (zA qY (pv 4) (pv 5)) zg)) zg)))))
      (zi (zx (i:=6) nd rfl (Or.inr rfl) (zK (QQ hr.hd) rfl B.dict Vc (zc (vQ rfl rfl B.list rfl B.zip qK (zc (pv 4) (zc (zn D_names (hr.mono (by first | decide | exact Nat.le_refl _ | omega)) rfl (zc (pv 0) (zc (zq zy rfl B.len boot_len (zc (pv 4) zg)) zg))) zg))) zg)))
      (zi (zx (i:=7) nd rfl (Or.inl rfl) (zn D_take (hr.mono (by first | decide | exact Nat.le_refl _ | omega)) rfl (zc (pv 0) (zc (zA zN (zq zy rfl B.len boot_len (zc (pv 2) zg)) zk) zg))))
      (zi (zx (i:=8) nd rfl (Or.inl rfl) (z9 (zc (jC (zc (zn D_called (hr.mono (by first | decide | exact Nat.le_refl _ | omega)) rfl (zc (pv 1) (zc (pv 6) zg))) (zc (qF ["_law_others"] [6] rfl rfl (by kernel_rfl) (zD (pv 2)) (fun C0 s0 H0 ex0=>qE) (fun C0 s0 H0 ex0=>(zn D_called (hr.mono (by first | decide | exact Nat.le_refl _ | omega)) rfl (zc (pv 0) (zc (pv 1) zg))))) zg))) zg)))
      (zi (qU (jv PySem.F.plainAttrs_list PySem.F.slot_list_append PySem.F.type_list_append qI (pv 8) (zc (jC (zc (zn D_shuffled (hr.mono (by first | decide | exact Nat.le_refl _ | omega)) rfl (zc (pv 0) (zc (pv 1) zg))) (zc (qF ["_law_box_here"] [0] rfl rfl (by kernel_rfl) (zD (pv 2)) (fun C0 s0 H0 ex0=>qE) (fun C0 s0 H0 ex0=>(zn D_shuffled (hr.mono (by first | decide | exact Nat.le_refl _ | omega)) rfl (zc (pv 1) (zc (pv 0) zg))))) zg))) zg)))
      (zi (qU (jv PySem.F.plainAttrs_list PySem.F.slot_list_append PySem.F.type_list_append qI (pv 8) (zc (jC (zc (pv 1) (zc (zA qY (zA qY (zW qh (pv 2) qz (zX (pv 7))) (z9 (zc (z9 zg) zg))) (zW qh (pv 2) (zX (pv 7)) qz)) zg))) zg)))
      (zi (qU (jv PySem.F.plainAttrs_list PySem.F.slot_list_append PySem.F.type_list_append qI (pv 8) (zc (jC (zc (pv 1) (zc (zA qY (zA qY (zW qh (pv 2) qz (zX (pv 7))) (zW qh (pv 2) (zX (pv 7)) (zX (zA zN (pv 7) zk)))) (zW qh (pv 2) (zX (pv 7)) qz)) zg))) zg)))
      (zi (zU PassesOwn.never rfl (zD (pv 8)) (jQ rfl (zV (zB (i:=9) nd rfl (Or.inl rfl)) (zV (zB (i:=10) nd rfl (Or.inl rfl)) jg)))
      (zr (jf (PW.pt (w9 (zR ZQ (zn Dfewest_changes (hr.mono (by first | decide | exact Nat.le_refl _ | omega)) rfl (zc (pv 9) (zc (pv 10) zg))) (pv 3) (zO _)) (xU (jP (jB (zn D_meets (hr.mono (by first | decide | exact Nat.le_refl _ | omega)) rfl (zc (pv 9) (zc (pv 10) (zc (zn Dbear_tips (hr.mono (by first | decide | exact Nat.le_refl _ | omega)) rfl (zc (pv 9) (zc (pv 10) zg))) zg)))))))))
        (zr (zI jw))
        qw)))
      (zr (zI jw))))))))))),?_⟩
    refine ⟨_,rfl,fl,first.map Sum.inr,rfl,(by rw [<- ji];exact F0),by rw [List.length_map];omega,fun sa hsa=>⟨sa,first,rfl,zf,by omega,fun tl ts htl _ tnd tm=>?_⟩⟩
    have s1:=(ze (H:=H) (o:=xS P w sa (jq [] (first.map Sum.inr))) hsa).trans (ze (o:=.lst (ts.map V.str)) htl)
    refine ⟨_,rfl,nl,rfl,⟨_,SqL.of (s1 _ _ N0)⟩,qk (K:=K) (a:=nl) (xs:=zs) (Xa b fl nl c H tips first needs) ⟨tl,ts,_,rfl,s1,(B0.same (ze hsa)).nne htl,zf,tnd,fun t ht=>tp.fm t ((tm t).mp ht),fun t ht=>(tm t).mpr ht,fun j need h=>by omega⟩ (fun i σ H' _ ⟨_,_,_,_,s',_,_,_,_,_,_⟩=>SqL.of (s' _ _ N0)) ?_ ?_⟩
    · clear tm tnd htl hsa s1
      rintro i x σ H4 hx ⟨tl,ts,v5,rfl,s4,_,T4,tnd,tsub,tf,tn⟩
      obtain ⟨a,need,rfl,en,ha⟩:=(R0.rws.same s4).at hx
      have tle:=vb tnd tsub
      have nle:=(ok.nn need (List.mem_of_getElem? en)).1
      refine ⟨_,rfl,_,rfl,tl,a,_,_,rfl,rfl,T4,ha,by rw [List.length_map,List.length_map];omega,fun q hq=>?_⟩
      have s6:=s4.trans (ze (H:=H4) (o:=.lst (ts.map V.str ++ need.map V.str)) hq)
      have Q6:upd H4 q (.lst (ts.map V.str ++ need.map V.str)) q = some (.lst (((ts ++ need).map Sum.inr).map kV)):=by rw [zf,<- List.map_append,ji]
      generalize upd H4 q (.lst (ts.map V.str ++ need.map V.str)) = H6 at s6 Q6
      refine ⟨q,(ts ++ need).map Sum.inr,rfl,Q6,by rw [List.length_map,List.length_append];omega,fun sa hsa=>⟨sa,ts ++ need,rfl,zf,by rw [List.length_append];omega,fun tl' ts' htl _ tnd' tm=>?_⟩⟩
      have s7:=s6.trans ((ze (H:=H6) (o:=xS P w sa (jq [] ((ts ++ need).map Sum.inr))) hsa).trans (ze (o:=.lst (ts'.map V.str)) htl))
      refine ⟨tl',ts',_,rfl,s7,(B0.same (s6.trans (ze hsa))).nne htl,zf,tnd',fun t ht=>(List.mem_append.mp ((tm t).mp ht)).elim (tsub t) (tp.nm2 need (List.mem_of_getElem? en) t),fun t ht=>(tm t).mpr (List.mem_append_left _ (tf t ht)),fun j nd' hj ej t ht=>(tm t).mpr ?_⟩
      by_cases z:j = i
      · subst z
        rw [en] at ej
        cases ej
        exact List.mem_append_right _ ht
      · exact List.mem_append_left _ (tn j nd' (by omega) ej t ht)
    clear tm tnd htl hsa s1
    rintro σ H1 ⟨tl,ts,v5,rfl,s1,ntl,T1,tnd,tsub,tf,tn⟩
    have ft:Fits ts first needs:=⟨tnd,tf,fun need h=>⟨(ok.nn need h).1,by
      obtain ⟨j,hj,e⟩:=List.getElem_of_mem h
      exact tn j need (by rw [zl];exact hj) (by rw [<- e];exact List.getElem?_eq_getElem _)⟩⟩
    have tle:=vb tnd tsub
    have B1:=B0.same s1
    have ml:(ts.map V.str).length = ts.length:=List.length_map ..
    have fw:=tell.fw ft
    refine ⟨_,rfl,_,rfl,_,rfl,tl,_,rfl,.inl (SqL.of T1),b,_,n,rfl,B1,by omega,by omega,by omega,fun l2 os H2 S2 B2 nlb hl2 R2 ond ol=>?_⟩
    have olt:os.length = ts.length:=by omega
    refine ⟨true,true,tl,l2,_,_,rfl,SqL.of (S2 _ _ T1 ntl),SqL.of R2.1,by rw [List.length_map,List.length_map];omega,fun D Ts H3 s3 hD D3 Tl tu=>⟨D,_,_,rfl,D3,W8 tu Tl,fun d hd=>?_⟩⟩
    have hv:∀ t ∈ ts,qg (qH [] ((ts.zip os).map fun p=>(Sum.inr p.1,V.str p.2))) (Sum.inr t) = some (.str (jo ts os t)):=fun t ht=>wP (by rw [Zp olt];exact tnd.map _ (fun a b h e=>h (Sum.inr.inj e))) (List.mem_map.mpr ⟨_,(yn tnd olt ht).2,rfl⟩)
    have S4:SameB b H (upd H3 d (.dK (qH [] ((ts.zip os).map fun p=>(Sum.inr p.1,V.str p.2))))):=((SameB.of s1).trans S2).trans (SameB.of (s3.trans (ze hd)))
    have B4:=B2.same (s3.trans (ze (o:=.dK (qH [] ((ts.zip os).map fun p=>(Sum.inr p.1,V.str p.2)))) hd))
    have ndb:=(B2.same s3).nne hd
    have D4:=zf (H:=H3) (a:=d) (o:=.dK (qH [] ((ts.zip os).map fun p=>(Sum.inr p.1,V.str p.2))))
    generalize qH [] ((ts.zip os).map fun p=>(Sum.inr p.1,V.str p.2)) = kvs at hv S4 B4 D4
    generalize upd H3 d (.dK kvs) = H4 at S4 B4 D4
    clear tu Tl D3 hD s3 hd
    refine ⟨_,rfl,_,rfl,nl,_,rfl,.inl (SqL.of (S4 _ _ N0 nnb)),_,_,rfl,rfl,b,_,_,rfl,B4,by omega,by omega,by omega,fun q H5 q0 q1 B5 S5=>?_⟩
    have onm:∀ t ∈ ts,Nm (jo ts os t):=fun t ht=>R2.2 _ (yn tnd olt ht).1
    obtain ⟨i,rfl⟩:∃ i:Nat,q = (i:Int):=⟨q.toNat,by omega⟩
    have il:i <= needs.length:=by omega
    have S5':=S4.trans S5
    have D5:=S5 _ _ D4 ndb
    have F5:=S5' _ _ F0 nfb
    have N5:=S5' _ _ N0 nnb
    have R5:=R0.draw S5'
    clear B4 D4 S4 S5 B2 B1 T1
    refine ⟨_,rfl,_,rfl,fl,d,kvs,first,jo ts os,rfl,F5,D5,fun t ht=>hv t (tf t ht),by omega,fun g1 H6 hg1 s6 G6=>?_⟩
    have N6:=s6 _ _ N5
    have B6:=B5.same s6
    refine ⟨_,rfl,nl,rfl,⟨_,SqL.of N6⟩,qp (K:=K) (a:=nl) (xs:=zs) (fun j us H'=>RwB b H' ((needs.take j).map (List.map (jo ts os))) us /\ Same H6 H') ⟨RwB.nil,Same.refl _⟩ (fun j us H' ⟨_,s'⟩=>SqL.of (s' _ _ N6)) ?_ ?_⟩
    · rintro j x us H7 hx ⟨R7,s7⟩
      obtain ⟨a,need,rfl,en,ha⟩:=(R5.rws.same (s6.trans s7)).at hx
      have jl:j < needs.length:=(List.getElem?_eq_some_iff.mp en).1
      have nm:=ft.nm need (List.mem_of_getElem? en)
      refine ⟨rfl,_,rfl,_,rfl,a,d,kvs,need,jo ts os,rfl,ha,s7 _ _ (s6 _ _ D5),fun t ht=>hv t (nm.2 t ht),by omega,fun l H8 hl s8 L8=>⟨by rw [R7.1,List.length_map,List.length_take];omega,?_,s7.trans s8⟩⟩
      rw [zM en,List.map_append]
      exact (R7.draw (SameB.of s8)).snoc ((B6.same s7).nne hl) L8
    rintro us H7 ⟨R7,s7⟩
    rw [zl,List.take_length] at R7
    have ul:=R7.1
    rw [List.length_map] at ul
    refine ⟨by omega,fun m1 hm1=>⟨le2,fun T1 hT1=>⟨le1,fun cl hcl=>?_⟩⟩⟩
    have B7:=B6.same s7
    have nm1:=B7.nne hm1
    have B8:=B7.same (ze (o:=.lst us) hm1)
    have nT1:=B8.nne hT1
    have s8:=(ze (H:=H7) (o:=.lst us) hm1).trans (ze (o:=.tup [.ref g1,.ref m1]) hT1)
    have M8:upd (upd H7 m1 (.lst us)) T1 (.tup [.ref g1,.ref m1]) m1 = some (.lst us):=(ze hT1) _ _ zf
    have T8:upd (upd H7 m1 (.lst us)) T1 (.tup [.ref g1,.ref m1]) T1 = some (.tup [.ref g1,.ref m1]):=zf
    have B9:=B8.same (ze (o:=.tup [.ref g1,.ref m1]) hT1)
    generalize upd (upd H7 m1 (.lst us)) T1 (.tup [.ref g1,.ref m1]) = H8 at hcl s8 M8 T8 B9
    have ncb:=B9.nne hcl
    have c1:Case (E2 b cl) H8 (.ref T1) c:=by
      have s68:=s7.trans s8
      refine ⟨T1,g1,m1,first.map (jo ts os),needs.map (List.map (jo ts os)),us,rfl,fun z=>z.elim nT1 (zj T8 hcl),T8,fun z=>z.elim (B5.nne hg1) (zj (s68 _ _ G6) hcl),s68 _ _ G6,fun z=>z.elim nm1 (zj M8 hcl),M8,RwE.of (R7.draw (SameB.of s8)) hcl,⟨by rw [List.length_map];exact f0,by rw [List.length_map];exact f1,fun t ht=>?_,by rw [List.length_map];omega,fun need hne=>?_⟩,fun rs rl be=>?_⟩
      · obtain ⟨u,hu',rfl⟩:=List.mem_map.mp ht
        exact onm u (tf u hu')
      · obtain ⟨nd',hnd,rfl⟩:=List.mem_map.mp hne
        have:=ft.nm nd' hnd
        refine ⟨by rw [List.length_map,List.length_map];exact this.1,fun t ht=>?_⟩
        obtain ⟨u,hu',rfl⟩:=List.mem_map.mp ht
        exact onm u (this.2 u hu')
      · refine Fw.rename ft (fun t ht=>Va tnd ond olt ht) fw (Fw.of ⟨?_,fun t ht=>?_,fun need hne=>?_⟩ be rl)
        · rw [Vb tnd olt];exact ond
        · obtain ⟨u,hu',rfl⟩:=List.mem_map.mp ht
          exact List.mem_map.mpr ⟨u,tf u hu',rfl⟩
        · obtain ⟨nd',hnd,rfl⟩:=List.mem_map.mp hne
          have:=ft.nm nd' hnd
          refine ⟨by rw [List.length_map,List.length_map];exact this.1,fun t ht=>?_⟩
          obtain ⟨u,hu',rfl⟩:=List.mem_map.mp ht
          exact List.mem_map.mpr ⟨u,this.2 u hu',rfl⟩
    have nfc:¬ E2 b cl fl:=fun z=>z.elim nfb (zj (s8 _ _ (s7 _ _ (s6 _ _ F5))) hcl)
    have nnc:¬ E2 b cl nl:=fun z=>z.elim nnb (zj (s8 _ _ (s7 _ _ (s6 _ _ N5))) hcl)
    have R8:=RwE.of (R5.draw (SameB.of (s6.trans (s7.trans s8)))) hcl
    have hclH:H cl = none:=S5'.none ((s6.trans (s7.trans s8)).none hcl) ncb
    have s9:=ze (H:=H8) (o:=.lst [.ref T1]) hcl
    have S9:=(S5'.trans (SameB.of (s6.trans (s7.trans s8)))).trans (SameB.of s9)
    have c1:=c1.draw (SameE.of s9)
    have R9:=R8.draw (SameE.of s9)
    have C9:upd H8 cl (.lst [.ref T1]) cl = some (.lst [.ref T1]):=zf
    have B9:=B9.same s9
    generalize upd H8 cl (.lst [.ref T1]) = H9 at s9 S9 c1 R9 C9 B9
    clear hcl R8 M8 T8 s8 B8 hT1 hm1 B7 R7 s7 B6 N6 s6 G6 hg1 R5 N5 F5 D5 S5' hv onm
    have F9:=S9 _ _ F0 nfb
    have N9:=S9 _ _ N0 nnb
    refine ⟨_,rfl,.inl ⟨rfl,_,SqL.of C9⟩,_,rfl,_,rfl,b,fl,_,_,rfl,B9,by omega,nfb,F9,by rw [List.length_map];omega,fun g2 yf HA SA BA ngb hg2 GA pm=>?_⟩
    obtain ⟨first2,rfl,pf⟩:=yb pm
    rw [List.length_map] at BA
    have NA:=SA _ _ N9 nnb
    have CA:=SA _ _ C9 ncb
    have RA:=R9.draw (SameE.ofB SA)
    refine ⟨_,rfl,nl,rfl,⟨_,SqL.of NA⟩,qp (K:=K) (a:=nl) (xs:=zs) (J9 b cl needs HA n) ⟨[],⟨rfl,fun j k e=>by simp at e⟩,rfl,(fun r h=>nomatch h),SameB.refl _ _,BA.mono (by omega)⟩ (fun j us H' ⟨_,_,_,_,s',_⟩=>SqL.of (s' _ _ NA nnb)) ?_ ?_⟩
    · rintro j x us HB hx ⟨ns,RB,en',pn,SB,BB⟩
      have RB':=RA.draw (SameE.ofB SB)
      obtain ⟨need,en⟩:∃ need,needs[j]? = some need:=by
        have jl:=(List.getElem?_eq_some_iff.mp hx).1
        exact ⟨_,List.getElem?_eq_getElem (by omega)⟩
      obtain ⟨a,ea,nae,ha⟩:=RB'.2 j need en
      rw [hx] at ea
      cases ea
      have jl:j < needs.length:=(List.getElem?_eq_some_iff.mp en).1
      have nl6:=(ok.nn need (List.mem_of_getElem? en)).1
      have CB:=SB _ _ CA ncb
      refine ⟨rfl,_,rfl,_,rfl,b,a,_,_,rfl,BB,by omega,fun z=>nae (.inl z),ha,by rw [List.length_map];omega,fun l ys HC SC BC nlb' hl LC pm'=>?_⟩
      obtain ⟨r,rfl,pr⟩:=yb pm'
      have nsl:ns.length = j:=by
        have:=congrArg List.length en'
        rw [List.length_map,List.length_map,List.length_take] at this
        omega
      refine ⟨by rw [RB.1];omega,ns ++ [r],(RB.draw (SameE.ofB SC)).app (RwE.one (yV BB CB hl) LC),?_,fun r' hr'=>?_,SB.trans SC,BC.mono (by rw [List.length_map];omega)⟩
      · rw [zM en,List.map_append,List.map_append,en']
        show _ ++ [cn r] = _ ++ [cn need]
        rw [Ze pr]
      · rcases List.mem_append.mp hr' with z | z
        · exact pn r' z
        · rw [List.mem_singleton.mp z]
          exact ⟨need,List.mem_of_getElem? en,pr⟩
    rintro us2 HB ⟨ns,RB,en',pn,SB,BB⟩
    rw [zl,List.take_length] at en'
    have nsl:ns.length = needs.length:=by
      have:=congrArg List.length en'
      rwa [List.length_map,List.length_map] at this
    have CB:=SB _ _ CA ncb
    have GB:=SB _ _ GA ngb
    have ng2:=yV B9 C9 hg2
    refine ⟨by rw [RB.1];omega,fun m2 hm2=>⟨le2,fun T2 hT2=>⟨cl,_,_,rfl,rfl,(ze hT2) _ _ ((ze hm2) _ _ CB),by show 1 < _;omega,?_⟩⟩⟩
    have sC:=(ze (H:=HB) (o:=.lst us2) hm2).trans (ze (o:=.tup [.ref g2,.ref m2]) hT2)
    have c2:Case (E2 b cl) (upd (upd HB m2 (.lst us2)) T2 (.tup [.ref g2,.ref m2])) (.ref T2) c:=by
      refine ⟨T2,g2,m2,first2,ns,us2,rfl,yV (BB.same (ze (o:=.lst us2) hm2)) ((ze hm2) _ _ CB) hT2,zf,ng2,sC _ _ GB,yV BB CB hm2,(ze hT2) _ _ zf,RB.draw (SameE.of sC),⟨by rw [pf.length_eq];exact f0,by rw [pf.length_eq];exact f1,fun t ht=>ok.fn t (pf.mem_iff.mp ht),by omega,fun r hr'=>?_⟩,fun rs rl be=>?_⟩
      · obtain ⟨need,hne,pr⟩:=pn r hr'
        have:=ok.nn need hne
        exact ⟨by rw [pr.length_eq,pf.length_eq];exact this.1,fun t ht=>this.2 t (pr.mem_iff.mp ht)⟩
      · refine Fw.shuffle fw (Fw.of ⟨tnd,fun t ht=>tf t (pf.mem_iff.mp ht),fun r hr'=>?_⟩ be rl) pf en'
        obtain ⟨need,hne,pr⟩:=pn r hr'
        have:=ft.nm need hne
        exact ⟨by rw [pr.length_eq,pf.length_eq];exact this.1,fun t ht=>this.2 t (pr.mem_iff.mp ht)⟩
    have SE:SameE (E2 b cl) H9 (upd (upd (upd HB m2 (.lst us2)) T2 (.tup [.ref g2,.ref m2])) cl (.lst ([.ref T1] ++ [.ref T2]))):=((SameE.ofB (SA.trans SB)).trans (SameE.of sC)).trans SameE.put
    have c2:=c2.draw (SameE.put (o:=.lst ([.ref T1] ++ [.ref T2])))
    have BC:BoxAt (upd (upd (upd HB m2 (.lst us2)) T2 (.tup [.ref g2,.ref m2])) cl (.lst ([.ref T1] ++ [.ref T2]))) b (n + 700):=((BB.same sC).other ncb).mono (by omega)
    have CC:upd (upd (upd HB m2 (.lst us2)) T2 (.tup [.ref g2,.ref m2])) cl (.lst ([.ref T1] ++ [.ref T2])) cl = some (.lst [.ref T1,.ref T2]):=zf
    generalize upd (upd (upd HB m2 (.lst us2)) T2 (.tup [.ref g2,.ref m2])) cl (.lst ([.ref T1] ++ [.ref T2])) = HC at SE c2 BC CC
    have c1:=c1.draw SE
    have RC:=R9.draw SE
    have FC:=SE _ _ F9 nfc
    have NC:=SE _ _ N9 nnc
    clear sC hT2 hm2 ng2 GB CB pn en' RB BB SB RA CA NA pm GA hg2 BA SA B9 C9 R9
    have zt:(zs.take i).length <= 60:=by rw [List.length_take];omega
    have zd:(zs.drop i).length <= 60:=by rw [List.length_drop];omega
    refine ⟨_,rfl,.inl ⟨rfl,_,SqL.of CC⟩,_,rfl,_,rfl,_,rfl,_,rfl,nl,_,rfl,SqL.of NC,fun p1 h1=>?_⟩
    rw [qO]
    have sD:=ze (H:=HC) (o:=.lst (zs.take i)) h1
    have P1:upd HC p1 (.lst (zs.take i)) p1 = some (.lst (zs.take i)):=zf
    generalize upd HC p1 (.lst (zs.take i)) = HD at sD P1
    refine ⟨le0,fun e0 he0=>⟨le1,fun e1 he1=>⟨p1,e1,_,_,rfl,rfl,(ze he1) _ _ ((ze he0) _ _ P1),zf,by show _ + 1 <= _;omega,fun p2 h2=>?_⟩⟩⟩
    have ne0:=yV (BC.same sD) (sD _ _ CC) he0
    have tD:=(ze (o:=.lst []) he0).trans ((ze (o:=.lst [.ref e0]) he1).trans (ze (o:=.lst (zs.take i ++ [.ref e0])) h2))
    have E0:=((ze (o:=.lst [.ref e0]) he1).trans (ze (o:=.lst (zs.take i ++ [.ref e0])) h2)) _ _ (zf (H:=HD) (a:=e0) (o:=.lst []))
    have P2:=zf (H:=upd (upd HD e0 (.lst [])) e1 (.lst [.ref e0])) (a:=p2) (o:=.lst (zs.take i ++ [.ref e0]))
    generalize upd (upd (upd HD e0 (.lst [])) e1 (.lst [.ref e0])) p2 (.lst (zs.take i ++ [.ref e0])) = HE at tD E0 P2
    have sE:=sD.trans tD
    refine ⟨_,rfl,_,rfl,_,rfl,nl,_,rfl,SqL.of (sE _ _ NC),fun p3 h3=>?_⟩
    rw [xZ]
    refine ⟨p2,p3,_,_,rfl,rfl,(ze h3) _ _ P2,zf,by rw [List.length_append];show _ + 1 + _ <= _;omega,fun p4 h4=>⟨le2,fun T3 hT3=>?_⟩⟩
    have tE:=(ze (o:=.lst (zs.drop i)) h3).trans ((ze (o:=.lst ((zs.take i ++ [.ref e0]) ++ zs.drop i)) h4).trans (ze (o:=.tup [.ref fl,.ref p4]) hT3))
    have sF:=sE.trans tE
    have nT3:=yV (BC.same (sE.trans ((ze (o:=.lst (zs.drop i)) h3).trans (ze (o:=.lst ((zs.take i ++ [.ref e0]) ++ zs.drop i)) h4)))) ((sE.trans ((ze (o:=.lst (zs.drop i)) h3).trans (ze (o:=.lst ((zs.take i ++ [.ref e0]) ++ zs.drop i)) h4))) _ _ CC) hT3
    have np4:=yV (BC.same (sE.trans (ze (o:=.lst (zs.drop i)) h3))) ((sE.trans (ze (o:=.lst (zs.drop i)) h3)) _ _ CC) h4
    have P4:=(ze (o:=.tup [.ref fl,.ref p4]) hT3) _ _ (zf (H:=upd HE p3 (.lst (zs.drop i))) (a:=p4) (o:=.lst ((zs.take i ++ [.ref e0]) ++ zs.drop i)))
    have TF:=zf (H:=upd (upd HE p3 (.lst (zs.drop i))) p4 (.lst ((zs.take i ++ [.ref e0]) ++ zs.drop i))) (a:=T3) (o:=.tup [.ref fl,.ref p4])
    have E0:=tE _ _ E0
    generalize upd (upd (upd HE p3 (.lst (zs.drop i))) p4 (.lst ((zs.take i ++ [.ref e0]) ++ zs.drop i))) T3 (.tup [.ref fl,.ref p4]) = HF at sF P4 TF E0
    have c3:Case (E2 b cl) HF (.ref T3) c:=by
      have RF:=RC.draw (SameE.of sF)
      refine ⟨T3,fl,p4,first,(needs.take i ++ [[]]) ++ needs.drop i,_,rfl,nT3,TF,nfc,sF _ _ FC,np4,P4,((RF.take i).app (RwE.one (r:=[]) ne0 E0)).app (RF.drop i),⟨f0,f1,ok.fn,by rw [List.length_append,List.length_append,List.length_take,List.length_drop];show _ + 1 + _ <= _;omega,fun r hr'=>?_⟩,fun rs rl be=>?_⟩
      · rcases List.mem_append.mp hr' with z | z
        · rcases List.mem_append.mp z with z | z
          · exact ok.nn r (List.mem_of_mem_take z)
          · rw [List.mem_singleton.mp z];exact ⟨Nat.zero_le _,fun t h=>nomatch h⟩
        · exact ok.nn r (List.mem_of_mem_drop z)
      · rw [List.append_assoc] at be rl
        have fw':=Fw.of (U:=ts) ⟨tnd,tf,fun r hr'=>?_⟩ be rl
        · have e:=List.take_append_drop i needs
          exact Fw.empty (pre:=needs.take i) (post:=needs.drop i) (by rw [e];exact ft) (by rw [e];exact fw) fw'
        · rcases List.mem_append.mp hr' with z | z
          · exact ft.nm r (List.mem_of_mem_take z)
          · rcases List.mem_cons.mp z with z | z
            · rw [z];exact ⟨Nat.zero_le _,fun t h=>nomatch h⟩
            · exact ft.nm r (List.mem_of_mem_drop z)
    refine ⟨cl,_,_,rfl,rfl,sF _ _ CC,by show 2 < _;omega,?_⟩
    have SF:SameE (E2 b cl) HC (upd HF cl (.lst ([.ref T1,.ref T2] ++ [.ref T3]))):=(SameE.of sF).trans SameE.put
    have c3:=c3.draw (SameE.put (o:=.lst ([.ref T1,.ref T2] ++ [.ref T3])))
    have BF:=(BC.same sF).other (o:=.lst ([.ref T1,.ref T2] ++ [.ref T3])) ncb
    have CF:upd HF cl (.lst ([.ref T1,.ref T2] ++ [.ref T3])) cl = some (.lst [.ref T1,.ref T2,.ref T3]):=zf
    generalize upd HF cl (.lst ([.ref T1,.ref T2] ++ [.ref T3])) = HG at SF c3 BF CF
    have c1:=c1.draw SF
    have c2:=c2.draw SF
    have RG:=RC.draw SF
    have FG:=SF _ _ FC nfc
    have NG:=SF _ _ NC nnc
    have SE:=SE.trans SF
    clear TF P4 np4 nT3 sF tE hT3 h4 h3 sE P2 E0 tD ne0 h2 he1 he0 P1 sD h1 RC FC NC BC CC SF
    refine ⟨_,rfl,.inl ⟨rfl,_,SqL.of CF⟩,_,rfl,_,rfl,_,rfl,_,rfl,nl,_,rfl,SqL.of NG,fun p1 h1=>?_⟩
    rw [qO]
    have sD:=ze (H:=HG) (o:=.lst (zs.take i)) h1
    have P1:upd HG p1 (.lst (zs.take i)) p1 = some (.lst (zs.take i)):=zf
    generalize upd HG p1 (.lst (zs.take i)) = HD at sD P1
    refine ⟨_,rfl,_,rfl,_,rfl,_,rfl,_,_,rfl,rfl,_,rfl,nl,_,rfl,SqL.of (sD _ _ NG),fun p2 h2=>?_⟩
    rw [show (i:Int) + 1 = ((i + 1:Nat):Int) by omega,Qc zs (Nat.le_succ i),show i + 1 - i = 1 by omega]
    have z1:((zs.drop i).take 1).length <= 1:=by rw [List.length_take];omega
    refine ⟨p1,p2,_,_,rfl,rfl,(ze h2) _ _ P1,zf,by omega,fun p3 h3=>?_⟩
    have tD:=(ze (o:=.lst ((zs.drop i).take 1)) h2).trans (ze (o:=.lst (zs.take i ++ (zs.drop i).take 1)) h3)
    have P3:=zf (H:=upd HD p2 (.lst ((zs.drop i).take 1))) (a:=p3) (o:=.lst (zs.take i ++ (zs.drop i).take 1))
    generalize upd (upd HD p2 (.lst ((zs.drop i).take 1))) p3 (.lst (zs.take i ++ (zs.drop i).take 1)) = HE at tD P3
    have sE:=sD.trans tD
    refine ⟨_,rfl,_,rfl,_,rfl,nl,_,rfl,SqL.of (sE _ _ NG),fun p5 h5=>?_⟩
    rw [xZ]
    refine ⟨p3,p5,_,_,rfl,rfl,(ze h5) _ _ P3,zf,by rw [List.length_append];omega,fun p4 h4=>⟨le2,fun T4 hT4=>?_⟩⟩
    have tE:=(ze (o:=.lst (zs.drop i)) h5).trans ((ze (o:=.lst ((zs.take i ++ (zs.drop i).take 1) ++ zs.drop i)) h4).trans (ze (o:=.tup [.ref fl,.ref p4]) hT4))
    have sF:=sE.trans tE
    have nT4:=yV (BF.same (sE.trans ((ze (o:=.lst (zs.drop i)) h5).trans (ze (o:=.lst ((zs.take i ++ (zs.drop i).take 1) ++ zs.drop i)) h4)))) ((sE.trans ((ze (o:=.lst (zs.drop i)) h5).trans (ze (o:=.lst ((zs.take i ++ (zs.drop i).take 1) ++ zs.drop i)) h4))) _ _ CF) hT4
    have np4:=yV (BF.same (sE.trans (ze (o:=.lst (zs.drop i)) h5))) ((sE.trans (ze (o:=.lst (zs.drop i)) h5)) _ _ CF) h4
    have P4:=(ze (o:=.tup [.ref fl,.ref p4]) hT4) _ _ (zf (H:=upd HE p5 (.lst (zs.drop i))) (a:=p4) (o:=.lst ((zs.take i ++ (zs.drop i).take 1) ++ zs.drop i)))
    have TF:=zf (H:=upd (upd HE p5 (.lst (zs.drop i))) p4 (.lst ((zs.take i ++ (zs.drop i).take 1) ++ zs.drop i))) (a:=T4) (o:=.tup [.ref fl,.ref p4])
    generalize upd (upd (upd HE p5 (.lst (zs.drop i))) p4 (.lst ((zs.take i ++ (zs.drop i).take 1) ++ zs.drop i))) T4 (.tup [.ref fl,.ref p4]) = HF at sF P4 TF
    have c4:Case (E2 b cl) HF (.ref T4) c:=by
      have RF:=RG.draw (SameE.of sF)
      have mem4:∀ r ∈ (needs.take i ++ (needs.drop i).take 1) ++ needs.drop i,r ∈ needs:=fun r hr'=>by
        rcases List.mem_append.mp hr' with z | z
        · rcases List.mem_append.mp z with z | z
          · exact List.mem_of_mem_take z
          · exact List.mem_of_mem_drop (List.mem_of_mem_take z)
        · exact List.mem_of_mem_drop z
      refine ⟨T4,fl,p4,first,(needs.take i ++ (needs.drop i).take 1) ++ needs.drop i,_,rfl,nT4,TF,nfc,sF _ _ FG,np4,P4,((RF.take i).app ((RF.drop i).take 1)).app (RF.drop i),⟨f0,f1,ok.fn,by rw [List.length_append,List.length_append,List.length_take,List.length_take,List.length_drop];omega,fun r hr'=>ok.nn r (mem4 r hr')⟩,fun rs rl be=>?_⟩
      have fw':=Fw.of (U:=ts) (ft.sub mem4) be rl
      have e:=List.take_append_drop i needs
      cases hd:needs.drop i with
      | nil=>
        rw [hd,List.append_nil] at e
        rw [hd,e,List.take_nil,List.append_nil,List.append_nil] at fw'
        exact Fw.eq fw' fw id id
      | cons need post=>
        rw [hd] at e fw'
        rw [List.append_assoc] at fw'
        exact Fw.twice (pre:=needs.take i) (need:=need) (post:=post) (by rw [e];exact ft) (by rw [e];exact fw) fw'
    refine ⟨cl,_,_,rfl,rfl,sF _ _ CF,by show 3 < _;omega,?_⟩
    have SF:SameE (E2 b cl) HG (upd HF cl (.lst ([.ref T1,.ref T2,.ref T3] ++ [.ref T4]))):=(SameE.of sF).trans SameE.put
    have c4:=c4.draw (SameE.put (o:=.lst ([.ref T1,.ref T2,.ref T3] ++ [.ref T4])))
    have BI:=(BF.same sF).other (o:=.lst ([.ref T1,.ref T2,.ref T3] ++ [.ref T4])) ncb
    have CI:upd HF cl (.lst ([.ref T1,.ref T2,.ref T3] ++ [.ref T4])) cl = some (.lst [.ref T1,.ref T2,.ref T3,.ref T4]):=zf
    generalize upd HF cl (.lst ([.ref T1,.ref T2,.ref T3] ++ [.ref T4])) = HI at SF c4 BI CI
    have c1:=c1.draw SF
    have c2:=c2.draw SF
    have c3:=c3.draw SF
    have SI:SameB b H HI:=fun d o e hd=>(SE.trans SF) d o (S9 d o e hd) fun z=>z.elim hd (zj e hclH)
    have call:∀ x ∈ [V.ref T1,.ref T2,.ref T3,.ref T4],Case (E2 b cl) HI x c:=fun x hx=>by
      rcases List.mem_cons.mp hx with rfl | hx
      · exact c1
      rcases List.mem_cons.mp hx with rfl | hx
      · exact c2
      rcases List.mem_cons.mp hx with rfl | hx
      · exact c3
      rw [List.mem_singleton.mp hx];exact c4
    clear TF P4 np4 nT4 sF tE hT4 h4 h5 sE P3 tD h3 z1 h2 P1 sD h1 RG FG NG BF CF SF c1 c2 c3 c4 SE
    refine ⟨_,rfl,cl,rfl,⟨_,SqL.of CI⟩,qk (K:=K) (a:=cl) (xs:=[V.ref T1,.ref T2,.ref T3,.ref T4]) (J8 b fl nl c tl v5 d i cl HI) ⟨_,_,rfl,Same.refl _⟩ (fun j σ H' _ ⟨_,_,_,s'⟩=>SqL.of (s' _ _ CI)) ?_ ?_⟩
    · rintro j x σ HJ hx ⟨v9,v10,rfl,sJ⟩
      obtain ⟨T,g,m,first',needs',zs',rfl,_,TT,_,GG,_,MM,RR,ok',tl'⟩:=(call x (List.mem_of_getElem? hx)).draw (SameE.of sJ)
      have f1':=ok'.f1
      have n60':=ok'.nl
      have n1000:∀ need ∈ needs',need.length <= 1000:=fun need h=>by have:=(ok'.nn need h).1;omega
      refine ⟨T,_,rfl,SqT.of TT,rfl,_,_,rfl,_,_,rfl,rfl,?_⟩
      refine ⟨_,rfl,_,rfl,g,m,first',needs',zs',rfl,GG,MM,RR.rws,ok',fun rs HK sK rl be=>⟨_,rfl,?_⟩⟩
      rw [tl' rs rl be]
      have t1:=sK
      refine ⟨rfl,_,rfl,ifF (by simp) ?_⟩
      refine ⟨_,rfl,_,rfl,_,rfl,_,rfl,g,m,first',needs',zs',rfl,t1 _ _ GG,t1 _ _ MM,RR.rws.same t1,by omega,by omega,n1000,fun t2 rs3 ys3 HL _ sL TL Rs3 rl3 be3 _=>?_⟩
      obtain ⟨sh1,sh2⟩:=be3.shows ok' rl3
      have t2':=t1.trans sL
      refine ⟨.ref t2,rs3,g,m,first',needs',zs',rfl,⟨t2,ys3,rfl,SqL.of TL,Rs3.reps⟩,by omega,t2' _ _ GG,t2' _ _ MM,RR.rws.same t2',by omega,n1000,fun HM sM=>⟨_,rfl,?_⟩⟩
      rw [yW rl3 (fun r hr'=>(sh1 r hr').1) sh2]
      exact ifF rfl ⟨_,_,rfl,(sJ.trans t2').trans sM⟩
    · rintro σ HJ ⟨v9,v10,rfl,sJ⟩
      exact k HJ (SI.trans (SameB.of sJ)) ((BI.same sJ).mono (by omega))
end
section
variable {P:Program} {w:World} {K:PySem.W.Frag} {mg:Str -> Option Value} {base:Heap}
inductive wW (vs:List V) (H:Hp) (Q:VK):Prop
  | mk (b fl nl:Addr) (n:Int) (c:Nat) (first tips:List Str) (needs:List (List Str)) (zs:List V) (_:vs = [.ref b,.ref fl,.ref nl,.int (c:Int)]) (_:BoxAt H b n) (_:n < 500000) (_:fl ≠ b) (_:nl ≠ b) (_:H fl = some (.lst (first.map V.str))) (_:H nl = some (.lst zs)) (_:RwB b H needs zs) (_:NeedsOk first needs) (_:Tps first needs tips) (_:Tell first needs c) (_:∀ H',SameB b H H' -> BoxAt H' b (n + 100) -> Q (.bl true) H'):wW  vs H Q
def yG:Sp:=fun vs H Q _=>wW  vs H Q
theorem Jf:zJ ["_law_box_here", "_law_first", "_law_needs_here", "_law_many", "_law_tips_here", "_law_need", "_law_turn", "_law_other", "_law_alike", "_law_found", "_law_rows"] ["_law_box_here", "_law_first", "_law_needs_here", "_law_many"] (zo (zw 22)):=⟨rfl,rfl,rfl,by decide +kernel,rfl,by decide +kernel,by decide +kernel⟩
def Xt (b:_) (fl:_) (nl:_) (c:Nat) (H:_) (tips:List Str) (first:List Str) (needs:List (List Str)):=fun (i:Nat) (σ:St) (H':Hp)=>(Ex3 fun (tl:Addr) (ts:List Str) (v5:Option V)=>An8 (σ = [some (.ref b),some (.ref fl),some (.ref nl),some (.int (c:Int)),some (.ref tl),v5,none,none,none,none,none]) (Same H H') (tl ≠ b) (H' tl = some (.lst (ts.map V.str))) (ts.Nodup) ((∀ t ∈ ts,t ∈ tips)) ((∀ t ∈ first,t ∈ ts)) (∀ (j:Nat) (need:List Str),j < i -> needs[j]? = some need -> ∀ t ∈ need,t ∈ ts):Prop)
def Xr (b:_) (fl:_) (nl:_) (c:Nat) (tl:_) (v5:_) (H1:_) (n:_):=fun (i:Nat) (σ:St) (H':Hp)=>(Ex5 fun (v6 v7 v8 v9 v10:Option V)=>An3 (σ = [some (.ref b),some (.ref fl),some (.ref nl),some (.int (c:Int)),some (.ref tl),v5,v6,v7,v8,v9,v10]) (SameB b H1 H') (BoxAt H' b (n + 10 * i)):Prop)
def Xq (ts:List Str) (b:_) (H2:_) (n:_) (i:_):=fun (j:Nat) (us:List V) (H':Hp)=>(Ex1 fun (os:List Str)=>An5 (us = os.map V.str) ((∀ t ∈ os,t ∈ ts)) (os.length = j) (SameB b H2 H') (BoxAt H' b (n + 10 * i + j)):Prop)
theorem VW {f:Addr} {fd:FuncData} (F:Fun K "_law_other_first_right" "_law_other_first_right" (zw 22) f fd) (B:Blt mg) (D_take:Dfn P w K mg base "_law_take" 1 ["_law_box_here", "_law_size"] jM) (Dfewest_changes:Dfn P w K mg base "fewest_changes" 5 ["first", "needs"] ZD) (Dbear_tips:Dfn P w K mg base "bear_tips" 4 ["first", "needs"] xQ) (D_meets:Dfn P w K mg base "_law_meets" 1 ["_law_first", "_law_needs_here", "_law_rows"] (xt K)):qC P w K mg base CX0 6 f fd ["_law_box_here", "_law_first", "_law_needs_here", "_law_many"] yG:=by
  have nd:=Jf.nd
  refine F.ok Jf (fun vs H Q E h=>?_) (fun cdv A outer s H vs Q E hr h=>?_)
  · obtain ⟨b,fl,nl,n,c,first,tips,needs,zs,rfl,_⟩:=h
    rfl
  · obtain ⟨b,fl,nl,n,c,first,tips,needs,zs,rfl,B0,hn,nfb,nnb,F0,N0,R0,ok,tp,tell,k⟩:=h
    have hbig:1000000 < sizeLine:=by rw [sizeLine_eq];decide
    have e62:(2:Int) ^ 62 = 4611686018427387904:=by decide
    have hu:=hr.units0
    have hu1:=Z1 hr
    have zl:=R0.1
    have f0:=ok.f0
    have f1:=ok.f1
    have n60:=ok.nl
    have t8:=tp.t8
    have n1000:∀ need ∈ needs,need.length <= 1000:=fun need h=>by have:=(ok.nn need h).1;omega
    refine ⟨_,(zi (zx (i:=4) nd rfl (Or.inr rfl) (zq (zZ hr.hd) rfl B.sorted z7 (zc (zK (qJ hr.hd) rfl B.set qR (zc (pv 1) zg)) zg)))
      (zi (zU PassesOwn.never rfl (zD (pv 2)) (zB (i:=5) nd rfl (Or.inl rfl))
      (zr (zx (i:=4) nd rfl (Or.inr rfl) (zq (zZ hr.hd) rfl B.sorted z7 (zc (zK (qJ hr.hd) rfl B.set qR (zc (zA qY (pv 4) (pv 5)) zg)) zg)))))
      (zi (zU PassesOwn.never rfl (qj rfl B.range (zc zk zg)) (zB (i:=6) nd rfl (Or.inl rfl))
      (zi (zx (i:=7) nd rfl (Or.inr rfl) (qF ["_law_tips_here", "_law_box_here"] [4,0] rfl rfl (by kernel_rfl) (zD (pv 1)) (fun C0 s0 H0 ex0=>qE) (fun C0 s0 H0 ex0=>(qf (xz (K:=K) rfl) (pv 1) (zn D_take (hr.mono (by first | decide | exact Nat.le_refl _ | omega)) rfl (zc (pv 2) (zc (zq (qt (K:=K) rfl) rfl B.len boot_len (zc (pv 1) zg)) zg))) (fun _ _=>rfl)))))
        (zi (zx (i:=8) nd rfl (Or.inl rfl) (zq (x0 rfl) rfl B.sum boot_sum (zc (qF ["_law_first", "_law_other"] [1,7] rfl rfl (by kernel_rfl) (zD (pv 4)) (fun C0 s0 H0 ex0=>qE) (fun C0 s0 H0 ex0=>(zq (ym rfl) rfl B.min xE (zc (xm (K:=K) rfl PySem.F.plainAttrs_list PySem.F.slot_list_count PySem.F.type_list_count qA (pv 1) (zc (pv 0) zg)) (zc (xm (K:=K) rfl PySem.F.plainAttrs_list PySem.F.slot_list_count PySem.F.type_list_count qA (pv 2) (zc (pv 0) zg)) zg))))) zg)))
        (zi (zx (i:=9) nd rfl (Or.inl rfl) (z9 (zc (zn Dfewest_changes (hr.mono (by first | decide | exact Nat.le_refl _ | omega)) rfl (zc (pv 7) (zc (pv 2) zg))) (zc (zn Dfewest_changes (hr.mono (by first | decide | exact Nat.le_refl _ | omega)) rfl (zc (pv 1) (zc (pv 2) zg))) zg))))
        (zi (jf (PW.pt (w9 (zR ZQ (qf zP (pv 9) zk (fun _ _=>rfl)) (pv 3) (zO _)) (xU (zR vV (zq wq rfl B.abs wt (zc (zA QI (qf zP (pv 9) zk (fun _ _=>rfl)) (pv 3)) zg)) (zA QI (zq zy rfl B.len boot_len (zc (pv 1) zg)) (pv 8)) (zO _)))))
        (zr (zI jw))
        qw)
        (zi (zx (i:=10) nd rfl (Or.inl rfl) (z9 (zc (zn Dbear_tips (hr.mono (by first | decide | exact Nat.le_refl _ | omega)) rfl (zc (pv 7) (zc (pv 2) zg))) (zc (zn Dbear_tips (hr.mono (by first | decide | exact Nat.le_refl _ | omega)) rfl (zc (pv 1) (zc (pv 2) zg))) zg))))
        (zr (jf (PW.pt (w9 (jP (jB (zn D_meets (hr.mono (by first | decide | exact Nat.le_refl _ | omega)) rfl (zc (pv 7) (zc (pv 2) (zc (qf zP (pv 10) zk (fun _ _=>rfl)) zg)))))) (xU (jP (jB (zn D_meets (hr.mono (by first | decide | exact Nat.le_refl _ | omega)) rfl (zc (pv 1) (zc (pv 2) (zc (qf zP (pv 10) zk (fun _ _=>rfl)) zg)))))))))
        (zr (zI jw))
        qw))))))))
      (zr (zI jw))))),?_⟩
    refine ⟨_,rfl,fl,first.map Sum.inr,rfl,(by rw [<- ji];exact F0),by rw [List.length_map];omega,fun sa hsa=>⟨sa,first,rfl,zf,by omega,fun tl ts htl _ tnd tm=>?_⟩⟩
    have s1:=(ze (H:=H) (o:=xS P w sa (jq [] (first.map Sum.inr))) hsa).trans (ze (o:=.lst (ts.map V.str)) htl)
    refine ⟨_,rfl,nl,rfl,⟨_,SqL.of (s1 _ _ N0)⟩,qk (K:=K) (a:=nl) (xs:=zs) (Xt b fl nl c H tips first needs) ⟨tl,ts,_,rfl,s1,(B0.same (ze hsa)).nne htl,zf,tnd,fun t ht=>tp.fm t ((tm t).mp ht),fun t ht=>(tm t).mpr ht,fun j need h=>by omega⟩ (fun i σ H' _ ⟨_,_,_,_,s',_,_,_,_,_,_⟩=>SqL.of (s' _ _ N0)) ?_ ?_⟩
    · clear tm tnd htl hsa s1
      rintro i x σ H4 hx ⟨tl,ts,v5,rfl,s4,_,T4,tnd,tsub,tf,tn⟩
      obtain ⟨a,need,rfl,en,ha⟩:=(R0.rws.same s4).at hx
      have tle:=vb tnd tsub
      have nle:=(ok.nn need (List.mem_of_getElem? en)).1
      refine ⟨_,rfl,_,rfl,tl,a,_,_,rfl,rfl,T4,ha,by rw [List.length_map,List.length_map];omega,fun q hq=>?_⟩
      have s6:=s4.trans (ze (H:=H4) (o:=.lst (ts.map V.str ++ need.map V.str)) hq)
      have Q6:upd H4 q (.lst (ts.map V.str ++ need.map V.str)) q = some (.lst (((ts ++ need).map Sum.inr).map kV)):=by rw [zf,<- List.map_append,ji]
      generalize upd H4 q (.lst (ts.map V.str ++ need.map V.str)) = H6 at s6 Q6
      refine ⟨q,(ts ++ need).map Sum.inr,rfl,Q6,by rw [List.length_map,List.length_append];omega,fun sa hsa=>⟨sa,ts ++ need,rfl,zf,by rw [List.length_append];omega,fun tl' ts' htl _ tnd' tm=>?_⟩⟩
      have s7:=s6.trans ((ze (H:=H6) (o:=xS P w sa (jq [] ((ts ++ need).map Sum.inr))) hsa).trans (ze (o:=.lst (ts'.map V.str)) htl))
      refine ⟨tl',ts',_,rfl,s7,(B0.same (s6.trans (ze hsa))).nne htl,zf,tnd',fun t ht=>(List.mem_append.mp ((tm t).mp ht)).elim (tsub t) (tp.nm2 need (List.mem_of_getElem? en) t),fun t ht=>(tm t).mpr (List.mem_append_left _ (tf t ht)),fun j nd' hj ej t ht=>(tm t).mpr ?_⟩
      by_cases z:j = i
      · subst z
        rw [en] at ej
        cases ej
        exact List.mem_append_right _ ht
      · exact List.mem_append_left _ (tn j nd' (by omega) ej t ht)
    clear tm tnd htl hsa s1
    rintro σ H1 ⟨tl,ts,v5,rfl,s1,ntl,T1,tnd,tsub,tf,tn⟩
    have ft:Fits ts first needs:=⟨tnd,tf,fun need h=>⟨(ok.nn need h).1,by
      obtain ⟨j,hj,e⟩:=List.getElem_of_mem h
      exact tn j need (by rw [zl];exact hj) (by rw [<- e];exact List.getElem?_eq_getElem _)⟩⟩
    have tle:=vb tnd tsub
    have B1:=B0.same s1
    have ml:(ts.map V.str).length = ts.length:=List.length_map ..
    have fw:=tell.fw ft
    have t1:1 <= ts.length:=List.length_pos_of_mem (tf first[0] (List.getElem_mem _))
    refine ⟨_,rfl,(by rw [e62];decide),(by rw [e62];decide),?_⟩
    refine qB (Xr b fl nl c tl v5 H1 n) ⟨_,_,_,_,_,rfl,SameB.refl _ _,B1.mono (by omega)⟩ ?_ ?_
    · rintro i σ H2 hi ⟨v6,v7,v8,v9,v10,rfl,S2,B2⟩
      have hi2:i < 2:=hi
      have S2':=(SameB.of s1).trans S2
      have F2:=S2' _ _ F0 nfb
      refine ⟨_,rfl,fl,rfl,⟨_,SqL.of F2⟩,qp (K:=K) (a:=fl) (xs:=first.map V.str) (Xq ts b H2 n i) ⟨[],rfl,(fun t h=>nomatch h),rfl,SameB.refl _ _,B2.mono (by omega)⟩ (fun j us H' ⟨_,_,_,_,s',_⟩=>SqL.of (s' _ _ F2 nfb)) ?_ ?_⟩
      · rintro j x us H3 hx ⟨os,rfl,om,ol,S3,B3⟩
        have jl:=(List.getElem?_eq_some_iff.mp hx).1
        rw [List.length_map] at jl
        have T3:=(S2.trans S3) _ _ T1 ntl
        refine ⟨rfl,_,rfl,_,rfl,_,rfl,tl,_,rfl,.inl (SqL.of T3),b,_,_,rfl,B3,by omega,by omega,by omega,fun q H4 q0 q1 B4 S4=>?_⟩
        rw [ml] at q1
        obtain ⟨x,ex,hx'⟩:=yB (ns:=ts) q0 q1
        refine ⟨tl,_,_,_,rfl,rfl,SqL.of (S4 _ _ T3 ntl),ex,by rw [List.length_map];omega,os ++ [x],by rw [List.map_append];rfl,fun t ht=>?_,by rw [List.length_append,ol];rfl,S3.trans S4,B4.mono (by omega)⟩
        rcases List.mem_append.mp ht with y | y
        · exact om t y
        · rw [List.mem_singleton.mp y];exact hx'
      rintro us H3 ⟨os,rfl,om,ol,S3,B3⟩
      rw [List.length_map] at ol B3
      refine ⟨by rw [List.length_map];omega,fun ol' hol=>?_⟩
      have nol:=B3.nne hol
      have S4:=(S2.trans S3).trans (SameB.of (ze (o:=.lst (os.map V.str)) hol))
      have B4:=B3.same (ze (o:=.lst (os.map V.str)) hol)
      have O4:=zf (H:=H3) (a:=ol') (o:=.lst (os.map V.str))
      generalize upd H3 ol' (.lst (os.map V.str)) = H4 at S4 B4 O4
      have S4':=(SameB.of s1).trans S4
      have T4:=S4 _ _ T1 ntl
      have F4:=S4' _ _ F0 nfb
      have N4:=S4' _ _ N0 nnb
      have R4:=(R0.draw S4').rws
      refine ⟨_,rfl,tl,rfl,⟨_,SqL.of T4⟩,qp (K:=K) (a:=tl) (xs:=ts.map V.str) (fun q zs H'=>zs = ((ts.take q).map fun t=>((min (first.count t) (os.count t):Nat):Int)).map V.int /\ Same H4 H') ⟨rfl,Same.refl _⟩ (fun q zs H' ⟨_,s'⟩=>SqL.of (s' _ _ T4)) ?_ ?_⟩
      · rintro q y zs' HD hy ⟨rfl,sD⟩
        obtain ⟨t,rfl,et⟩:=xh hy
        have ql:q < ts.length:=(List.getElem?_eq_some_iff.mp et).1
        refine ⟨rfl,_,rfl,.inl ⟨rfl,_,SqL.of (sD _ _ F4)⟩,_,rfl,fl,first,t,rfl,rfl,sD _ _ F4,_,rfl,.inl ⟨rfl,_,SqL.of (sD _ _ O4)⟩,_,rfl,ol',os,t,rfl,rfl,sD _ _ O4,_,_,rfl,?_,?_,sD⟩
        · rw [List.length_map,List.length_map,List.length_take];omega
        · rw [zM et,List.map_append,List.map_append]
          congr 1
          show [V.int (if (os.count t:Int) < (first.count t:Int) then (os.count t:Int) else (first.count t:Int))] = [V.int ((min (first.count t) (os.count t):Nat):Int)]
          congr 2
          split <;> omega
      rintro zs' H5 ⟨rfl,s5⟩
      rw [show ts.take (ts.map V.str).length = ts by rw [List.length_map,List.take_length]]
      have sm1:∀ l:List Str,(l.map fun t=>((min (first.count t) (os.count t):Nat):Int)).sum = ((sm l fun t=>min (first.count t) (os.count t):Nat):Int):=fun l=>by
        induction l with
        | nil=>rfl
        | cons x l ih=>
          rw [List.map_cons,List.sum_cons,ih,zT]
          omega
      refine ⟨by rw [List.length_map,List.length_map];omega,fun al' hal'=>?_⟩
      refine ⟨al',_,rfl,SqL.of zf,fun z hz=>?_,by rw [List.length_map];omega,?_⟩
      · obtain ⟨t,_,rfl⟩:=List.mem_map.mp hz
        have:first.count t <= first.length:=List.count_le_length
        omega
      rw [sm1]
      have s6:=s5.trans (ze (H:=H5) (o:=.lst ((ts.map fun t=>((min (first.count t) (os.count t):Nat):Int)).map V.int)) hal')
      generalize upd H5 al' (.lst ((ts.map fun t=>((min (first.count t) (os.count t):Nat):Int)).map V.int)) = H6 at s6
      have ftO:Fits ts os needs:=⟨tnd,om,fun need h=>⟨by rw [ol];exact (ft.nm need h).1,(ft.nm need h).2⟩⟩
      have okO:NeedsOk os needs:=⟨by omega,by omega,fun t ht=>tp.nm t (tsub t (om t ht)),n60,fun need h=>⟨by rw [ol];exact (ok.nn need h).1,(ok.nn need h).2⟩⟩
      refine ⟨_,rfl,_,rfl,ol',nl,os,needs,zs,rfl,s6 _ _ O4,s6 _ _ N4,R4.same s6,okO,fun rs1 H7 s7 rl1 be1=>?_⟩
      have t7:=s6.trans s7
      refine ⟨_,rfl,_,rfl,fl,nl,first,needs,zs,rfl,t7 _ _ F4,t7 _ _ N4,R4.same t7,ok,fun rs2 H8 s8 rl2 be2=>⟨le2,fun fo hfo=>?_⟩⟩
      have ec:chg first rs2 = c:=Fw.eq (Fw.of ft be2 rl2) fw id id
      rw [ec]
      have lm:=Fw.other ft ftO ol fw (Fw.of ftO be1 rl1)
      have la:jG ts first os <= first.length:=by have:=xY (a:=os) tnd tf;rw [wy] at this;omega
      have ea:(sm ts fun t=>min (first.count t) (os.count t)) = jG ts first os:=rfl
      rw [ea]
      generalize jG ts first os = al at lm la
      generalize chg os rs1 = dd at lm
      have t8':=(t7.trans s8).trans (ze (o:=.lst [.int (dd:Nat),.int (c:Nat)]) hfo)
      have O8:=zf (H:=H8) (a:=fo) (o:=.lst [.int (dd:Nat),.int (c:Nat)])
      generalize upd H8 fo (.lst [.int (dd:Nat),.int (c:Nat)]) = H9 at t8' O8
      refine ⟨_,rfl,fo,_,_,_,rfl,rfl,SqL.of O8,rfl,_,rfl,rfl,_,rfl,ifF (by simp) ?_⟩
      have F9:=t8' _ _ F4
      have N9:=t8' _ _ N4
      have R9:=R4.same t8'
      have O9:=t8' _ _ O4
      refine ⟨_,rfl,fo,_,_,_,rfl,rfl,SqL.of O8,rfl,_,rfl,_,_,rfl,rfl,_,rfl,_,rfl,fl,_,rfl,.inl (SqL.of F9),_,rfl,_,_,rfl,rfl,_,_,rfl,rfl,_,rfl,ifF ?_ ?_⟩
      · refine decide_eq_false ?_
        rw [List.length_map]
        split <;> omega
      refine ⟨_,rfl,_,rfl,ol',nl,os,needs,zs,rfl,O9,N9,R9,by omega,by omega,n1000,fun r1 q1 y1 HA hr1 sA L1 Q1 ql1 e1 _=>?_⟩
      refine ⟨_,rfl,_,rfl,fl,nl,first,needs,zs,rfl,sA _ _ F9,sA _ _ N9,R9.same sA,by omega,by omega,n1000,fun r2 q2 y2 HB hr2 sB L2 Q2 ql2 e2 _=>⟨le2,fun ro hro=>?_⟩⟩
      have tB:=(sA.trans sB).trans (ze (o:=.lst [.ref r1,.ref r2]) hro)
      have OB:=zf (H:=HB) (a:=ro) (o:=.lst [.ref r1,.ref r2])
      have L1':=(sB.trans (ze (o:=.lst [.ref r1,.ref r2]) hro)) _ _ L1
      have Q1':=Q1.same (sB.trans (ze (o:=.lst [.ref r1,.ref r2]) hro))
      have L2':=(ze (o:=.lst [.ref r1,.ref r2]) hro) _ _ L2
      have Q2':=Q2.same (ze (o:=.lst [.ref r1,.ref r2]) hro)
      generalize upd HB ro (.lst [.ref r1,.ref r2]) = HC at tB OB L1' Q1' L2' Q2'
      obtain ⟨sh1,sh2⟩:=e1.shows okO ql1
      obtain ⟨sk1,sk2⟩:=e2.shows ok ql2
      refine ⟨_,rfl,_,rfl,_,rfl,ro,_,_,_,rfl,rfl,SqL.of OB,rfl,.ref r1,q1,ol',nl,os,needs,zs,rfl,⟨r1,y1,rfl,SqL.of L1',Q1'.reps⟩,by omega,tB _ _ O9,tB _ _ N9,R9.same tB,by omega,n1000,fun HD sD=>⟨_,rfl,?_⟩⟩
      rw [yW ql1 (fun r hr'=>(sh1 r hr').1) sh2]
      refine ifF rfl ?_
      have tD:=tB.trans sD
      refine ⟨_,rfl,_,rfl,_,rfl,ro,_,_,_,rfl,rfl,SqL.of (sD _ _ OB),rfl,.ref r2,q2,fl,nl,first,needs,zs,rfl,⟨r2,y2,rfl,SqL.of (sD _ _ L2'),(Q2'.same sD).reps⟩,by omega,tD _ _ F9,tD _ _ N9,R9.same tD,by omega,n1000,fun HE sE=>⟨_,rfl,?_⟩⟩
      rw [yW ql2 (fun r hr'=>(sk1 r hr').1) sk2]
      have t9:=(t8'.trans tD).trans sE
      exact ifF rfl ⟨_,_,_,_,_,rfl,S4.trans (SameB.of t9),(B4.same t9).mono (by omega)⟩
    · rintro σ H2 ⟨v6,v7,v8,v9,v10,rfl,S2,B2⟩
      exact k H2 ((SameB.of s1).trans S2) (B2.mono (by show _ + 10 * ((2:Nat):Int) <= _;omega))
end
theorem Vl (first:List Str):Tell first [] 0:=⟨[],rfl,Bear.nil,rfl⟩
theorem NeedsOk.sub {first:List Str} {needs needs':List (List Str)} (h:NeedsOk first needs) (hs:∀ r ∈ needs',r ∈ needs) (hl:needs'.length <= 60):NeedsOk first needs':=⟨h.f0,h.f1,h.fn,hl,fun r hr=>h.nn r (hs r hr)⟩
theorem Yy {first tips:List Str} {needs:List (List Str)} (ok:NeedsOk first needs) (tp:Tps first needs tips):Fits (ddp tips) first needs:=⟨wl _,fun t ht=>jk (tp.fm t ht),fun need h=>⟨(ok.nn need h).1,fun t ht=>jk (tp.nm2 need h t ht)⟩⟩
theorem Tell.grow {U first:List Str} {needs:List (List Str)} {a c i j:Nat} (ft:Fits U first needs) (h:Tell first (needs.take i) a) (h':Tell first (needs.take j) c) (ij:i <= j):a <= c /\ c <= a + ((((needs.drop i).take (j - i)).map List.length)).sum:=by
  have e:needs.take i ++ (needs.drop i).take (j - i) = needs.take j:=by
    rw [<- List.take_add,show i + (j - i) = j by omega]
  have sj:∀ r ∈ needs.take j,r ∈ needs:=fun r hr=>List.mem_of_mem_take hr
  have f':=h'.fw (ft.sub sj)
  rw [<- e] at f'
  exact Fw.grow (by rw [e];exact ft.sub sj) (h.fw (ft.sub fun r hr=>List.mem_of_mem_take hr)) f'
theorem YF {xs:List V} {q:Nat} {v:V} (hl:xs.length = q + 1) (h:xs[q]? = some v):atI xs (-1) = some v:=by
  unfold atI
  rw [hl,we]
  exact h
def vB (m s n j:Nat):Nat:=if j < m then j * s else n
theorem za4 {m s n j:Nat} (hs:0 < s) (em:((m:Nat):Int) = (if 0 < (n:Int) then ((n:Int) - 1) / (s:Int) + 1 else 0)) (hj:j < m):j * s <= n:=by
  split at em
  · have h1:(j:Int) <= ((n:Int) - 1) / (s:Int):=by omega
    have h2:(j:Int) * (s:Int) <= ((n:Int) - 1) / (s:Int) * (s:Int):=Int.mul_le_mul_of_nonneg_right h1 (by omega)
    have h3:=Int.ediv_mul_le ((n:Int) - 1) (b:=(s:Int)) (by omega)
    have h4:((j * s:Nat):Int) = (j:Int) * (s:Int):=by rw [Int.natCast_mul]
    omega
  · omega
theorem WS {m s n:Nat} (em:((m:Nat):Int) = (if 0 < (n:Int) then ((n:Int) - 1) / (s:Int) + 1 else 0)):m <= n:=by
  split at em
  · have:=Int.ediv_le_self (a:=(n:Int) - 1) (s:Int) (by omega)
    omega
  · omega
theorem Q4 {m s n j:Nat} (hs:0 < s) (em:((m:Nat):Int) = (if 0 < (n:Int) then ((n:Int) - 1) / (s:Int) + 1 else 0)):vB m s n j <= n:=by
  unfold vB
  split
  · exact za4 hs em (by assumption)
  · exact Nat.le_refl _
theorem WT {m s n j:Nat} (hs:0 < s) (em:((m:Nat):Int) = (if 0 < (n:Int) then ((n:Int) - 1) / (s:Int) + 1 else 0)):vB m s n j <= vB m s n (j + 1):=by
  by_cases h:j + 1 < m
  · unfold vB
    rw [if_pos h,if_pos (by omega),Nat.add_mul]
    omega
  · have:vB m s n (j + 1) = n:=if_neg h
    rw [this]
    exact Q4 hs em
theorem zaf {m s n:Nat} {c:Int} (hc:c = (s:Int)) {j:Nat} {x:V} (h:(((List.range m).map fun i:Nat=>V.int ((i:Int) * c)) ++ [V.int (n:Int)])[j]? = some x):j <= m /\ x = .int ((vB m s n j:Nat):Int):=by
  have hl:((List.range m).map fun i:Nat=>V.int ((i:Int) * c)).length = m:=by rw [List.length_map,List.length_range]
  by_cases hj:j < m
  · rw [List.getElem?_append_left (by rw [hl];exact hj),List.getElem?_map,List.getElem?_range hj] at h
    have e:vB m s n j = j * s:=if_pos hj
    rw [e,Int.natCast_mul,<- hc]
    exact ⟨by omega,(Option.some.inj h).symm⟩
  · rw [List.getElem?_append_right (by rw [hl];omega),hl] at h
    have hz:j - m = 0:=by
      by_cases z:j - m = 0
      · exact z
      · obtain ⟨q,hq⟩:∃ q,j - m = q + 1:=⟨j - m - 1,by omega⟩
        rw [hq] at h
        cases h
    rw [hz] at h
    have e:vB m s n j = n:=if_neg hj
    rw [e]
    exact ⟨by omega,(Option.some.inj h).symm⟩
theorem WU (l:List (List Str)):(l.map fun r=>((r.length:Nat):Int)).sum = (((l.map List.length).sum:Nat):Int):=by
  induction l with
  | nil=>rfl
  | cons x l ih=>
    rw [List.map_cons,List.sum_cons,ih,List.map_cons,List.sum_cons]
    omega
theorem Qq {first e:List Str} {needs rs qs:List (List Str)} {c i:Nat} (ok:NeedsOk first needs) (tell:Tell first needs c) (be:Bear first (needs.take i) rs) (rl:rs.length = (needs.take i).length) (he:(first :: rs).getLast? = some e) (bq:Bear e (needs.drop i) qs) (ql:qs.length = (needs.drop i).length) (oe:NeedsOk e (needs.drop i)) (el:e.length = first.length):c <= chg first rs + chg e qs:=by
  obtain ⟨r0,l0,b0,rfl⟩:=tell
  have okt:NeedsOk first (needs.take i):=ok.sub (fun r hr=>List.mem_of_mem_take hr) (by have:=ok.nl;rw [List.length_take];omega)
  obtain ⟨sa,sb⟩:=be.shows okt rl
  obtain ⟨sc,sd⟩:=bq.shows oe ql
  rw [<- JO he]
  refine QU b0 l0 (fun need h=>(ok.nn need h).1) (by rw [List.length_append,rl,ql,<- List.length_append,List.take_append_drop]) (fun q hq=>?_) (fun p hp t=>?_)
  · rcases List.mem_append.mp hq with z | z
    · exact (sa q z).1
    · rw [(sc q z).1,el]
  · have:(rs ++ qs).zip needs = rs.zip (needs.take i) ++ qs.zip (needs.drop i):=by
      conv=>lhs;rw [<- List.take_append_drop i needs]
      exact List.zip_append rl
    rw [this] at hp
    rcases List.mem_append.mp hp with z | z
    · exact sb p z t
    · exact sd p z t
section
variable {P:Program} {w:World} {K:PySem.W.Frag} {mg:Str -> Option Value} {base:Heap}
inductive zbv (b fl nl:Addr) (kept:V) (c:Nat) (zs:List V) (v6 v7 v8:Option V) (i:Nat) (ro:Addr) (H8:Hp) (first:List Str) (rs:List (List Str)) (σ':St) (H':Hp):Prop
  | mk (v11:Addr) (e:List Str) (_:σ' = [some (.ref b),some (.ref fl),some (.ref nl),some kept,some (.int (c:Int)),some (.int (zs.length:Int)),v6,v7,v8,some (.int (i:Int)),some (.ref ro),some (.ref v11),none,none,none]) (_:Same H8 H') (_:H' v11 = some (.lst (e.map V.str))) (_:(first :: rs).getLast? = some e) (_:e.length = first.length) (_:∀ t ∈ e,Nm t):zbv b fl nl kept c zs v6 v7 v8 i ro H8 first rs σ' H'
inductive wV (vs:List V) (H:Hp) (Q:VK):Prop
  | mk (b:Addr) (n:Int) (_:vs = [.ref b]) (_:BoxAt H b n) (_:n < 1000) (_:∀ H',SameB b H H' -> Q (.bl true) H'):wV  vs H Q
def yF:Sp:=fun vs H Q _=>wV  vs H Q
theorem Je:zJ ["_law_box_here", "_law_first", "_law_needs_here", "_law_kept", "_law_ahead", "_law_last", "_law_size", "_law_many", "_law_more", "_law_at", "_law_rows", "_law_end", "_law_tips_here", "_law_need", "_law_few"] ["_law_box_here"] (zo (zw 23)):=⟨rfl,rfl,rfl,by decide +kernel,rfl,by decide +kernel,by decide +kernel⟩
def Xp (b:_) (fl:_) (nl:_) (kept:_) (H4:_) (first:List Str) (needs:List (List Str)) (m:_) (zs:List V):=fun (j:Nat) (σ:St) (H':Hp)=>(Ex5 fun (last ahead:Nat) (v6 v7 v8:Option V)=>An5 (σ = [some (.ref b),some (.ref fl),some (.ref nl),some kept,some (.int (ahead:Int)),some (.int (last:Int)),v6,v7,v8,none,none,none,none,none,none]) (Same H4 H') (Tell first (needs.take last) ahead) (last <= vB m (1 + zs.length / 20) zs.length j) ((j = m + 1 -> last = zs.length)):Prop)
def Xo (b:_) (fl:_) (nl:_) (kept:_) (c:Nat) (zs:List V) (v6:_) (v7:_) (v8:_) (i:Nat) (ro:_) (v11:_) (H9:_) (tips:List Str) (first:List Str) (needs:List (List Str)):=fun (i':Nat) (σ:St) (H':Hp)=>(Ex3 fun (tl:Addr) (ts:List Str) (v5:Option V)=>An7 (σ = [some (.ref b),some (.ref fl),some (.ref nl),some kept,some (.int (c:Int)),some (.int (zs.length:Int)),v6,v7,v8,some (.int (i:Int)),some (.ref ro),some (.ref v11),some (.ref tl),v5,none]) (Same H9 H') (H' tl = some (.lst (ts.map V.str))) (ts.Nodup) ((∀ t ∈ ts,t ∈ tips)) ((∀ t ∈ first,t ∈ ts)) (∀ (j:Nat) (need:List Str),j < i' -> needs[j]? = some need -> ∀ t ∈ need,t ∈ ts):Prop)
def Xn (b:_) (fl:_) (nl:_) (kept:_) (c:Nat) (zs:List V) (v6:_) (v7:_) (v8:_) (i:Nat) (ro:_) (v11:_) (tl:_) (v5:_) (HG:_) (ts:List Str) (first:List Str):=fun (σ':St) (H':Hp)=>(Ex1 fun (few:Bool)=>An3 (σ' = [some (.ref b),some (.ref fl),some (.ref nl),some kept,some (.int (c:Int)),some (.int (zs.length:Int)),v6,v7,v8,some (.int (i:Int)),some (.ref ro),some (.ref v11),some (.ref tl),v5,some (.bl few)]) (H' = HG) ((few = true -> ts.length <= 4 \/ (first.length <= 3 /\ ts.length <= 5))):Prop)
def Xm (b:_) (fl:_) (nl:_) (kept:_) (c:Nat) (zs:List V) (v6:_) (v7:_) (v8:_) (i:Nat) (ro:_) (v11:_) (tl:_) (v5:_) (few:_) (HG:_):=fun (σ':St) (H':Hp)=>(An2 (σ' = [some (.ref b),some (.ref fl),some (.ref nl),some kept,some (.int (c:Int)),some (.int (zs.length:Int)),v6,v7,v8,some (.int (i:Int)),some (.ref ro),some (.ref v11),some (.ref tl),v5,some (.bl few)]) (Same HG H'):Prop)
theorem VU {f:Addr} {fd:FuncData} (F:Fun K "_law_right" "_law_right" (zw 23) f fd) (B:Blt mg) (D_needs:Dfn P w K mg base "_law_needs" 4 ["_law_box_here", "_law_few", "_law_most"] yH) (Dfewest_changes:Dfn P w K mg base "fewest_changes" 5 ["first", "needs"] ZD) (D_alike_right:Dfn P w K mg base "_law_alike_right" 6 ["_law_box_here", "_law_first", "_law_needs_here", "_law_many"] yI) (D_other_first_right:Dfn P w K mg base "_law_other_first_right" 6 ["_law_box_here", "_law_first", "_law_needs_here", "_law_many"] yG) (D_take:Dfn P w K mg base "_law_take" 1 ["_law_box_here", "_law_size"] jM) (Dbear_tips:Dfn P w K mg base "bear_tips" 4 ["first", "needs"] xQ) (D_fewest:Dfn P w K mg base "_law_fewest" 2 ["_law_first", "_law_needs_here"] zag):qC P w K mg base CX0 7 f fd ["_law_box_here"] yF:=by
  have nd:=Je.nd
  refine F.ok Je (fun vs H Q E h=>?_) (fun cdv A outer s H vs Q E hr h=>?_)
  · obtain ⟨b,n,rfl,_⟩:=h
    rfl
  · obtain ⟨b,n,rfl,B0,hn,k⟩:=h
    have hbig:1000000 < sizeLine:=by rw [sizeLine_eq];decide
    have hu64:=hr.units
    have hu:=hr.units0
    have hu1:=Z1 hr
    have hg:=hr.gd
    refine ⟨_,(zi (xV (zn D_needs (hr.mono (by first | decide | exact Nat.le_refl _ | omega)) rfl (zc (pv 0) (zc zk (zc zk zg)))) (jQ rfl (zV (zB (i:=1) nd rfl (Or.inl rfl)) (zV (zB (i:=2) nd rfl (Or.inl rfl)) jg))))
      (zi (W6 (i:=3) (j:=4) (l:=5) rfl nd rfl rfl rfl rfl rfl rfl (zc (zK (yj hg hu64) rfl B.str Qg (zc (z9 (zc (pv 1) (zc (pv 2) zg))) zg)) (zc zk (zc zk zg))) (by rfl))
      (zi (zU PassesOwn.never rfl (zD (zA qY (wE rfl rfl B.list rfl B.range qK (zc zk (zc (zq zy rfl B.len boot_len (zc (pv 2) zg)) (zc (zA zN zk (zA yT (zq zy rfl B.len boot_len (zc (pv 2) zg)) zk)) zg)))) (z9 (zc (zq zy rfl B.len boot_len (zc (pv 2) zg)) zg)))) (zB (i:=6) nd rfl (Or.inl rfl))
      (zi (zx (i:=7) nd rfl (Or.inl rfl) (zn Dfewest_changes (hr.mono (by first | decide | exact Nat.le_refl _ | omega)) rfl (zc (pv 1) (zc (zW qh (pv 2) qz (zX (pv 6))) zg))))
        (zi (zx (i:=8) nd rfl (Or.inl rfl) (zq (x0 rfl) rfl B.sum boot_sum (zc (qF [] [] rfl rfl (by kernel_rfl) (zD (zW qh (pv 2) (zX (pv 5)) (zX (pv 6)))) (fun C0 s0 H0 ex0=>qE) (fun C0 s0 H0 ex0=>(zq (qt (K:=K) rfl) rfl B.len boot_len (zc (pv 0) zg)))) zg)))
        (zi (jf (PW.pt (QE (zR vV (pv 6) zk (zO _)) (yN (jP (VH YZ YZ (pv 4) (pv 7) (zA zN (pv 4) (pv 8)))))))
        (zr (zI jw))
        qw)
        (zr (zam (i:=4) (j:=5) rfl nd rfl rfl (by decide) rfl rfl (zc (pv 7) (zc (pv 6) zg)) (by rfl)))))))
      (zi (jf (PW.pt (w9 (jP (jB (zn D_alike_right (hr.mono (by first | decide | exact Nat.le_refl _ | omega)) rfl (zc (pv 0) (zc (pv 1) (zc (pv 2) (zc (pv 4) zg))))))) (xU (jP (jB (zn D_other_first_right (hr.mono (by first | decide | exact Nat.le_refl _ | omega)) rfl (zc (pv 0) (zc (pv 1) (zc (pv 2) (zc (pv 4) zg))))))))))
      (zr (zI jw))
      qw)
      (zi (zx (i:=9) nd rfl (Or.inl rfl) (zn D_take (hr.mono (by first | decide | exact Nat.le_refl _ | omega)) rfl (zc (pv 0) (zc (zA zN (zq zy rfl B.len boot_len (zc (pv 2) zg)) zk) zg))))
      (zi (zx (i:=10) nd rfl (Or.inl rfl) (zn Dbear_tips (hr.mono (by first | decide | exact Nat.le_refl _ | omega)) rfl (zc (pv 1) (zc (zW qh (pv 2) qz (zX (pv 9))) zg))))
      (zi (j2 (zx (i:=11) nd rfl (Or.inl rfl) (xy (zR (vU hu) (pv 10) (z9 zg) (zO _)) (qf zP (pv 10) (VM Qn zk) (fun _ _=>rfl)) (pv 1))))
      (zi (jf (zR vV (pv 4) (zA zN (zn Dfewest_changes (hr.mono (by first | decide | exact Nat.le_refl _ | omega)) rfl (zc (pv 1) (zc (zW qh (pv 2) qz (zX (pv 9))) zg))) (zn Dfewest_changes (hr.mono (by first | decide | exact Nat.le_refl _ | omega)) rfl (zc (pv 11) (zc (zW qh (pv 2) (zX (pv 9)) qz) zg)))) (zO _))
      (zr (zI jw))
      qw)
      (zi (zx (i:=12) nd rfl (Or.inl rfl) (zq (zZ hr.hd) rfl B.sorted z7 (zc (zK (qJ hr.hd) rfl B.set qR (zc (pv 1) zg)) zg)))
      (zi (zU PassesOwn.never rfl (zD (pv 2)) (zB (i:=13) nd rfl (Or.inl rfl))
      (zr (zx (i:=12) nd rfl (Or.inl rfl) (zq (zZ hr.hd) rfl B.sorted z7 (zc (zK (qJ hr.hd) rfl B.set qR (zc (zA qY (pv 12) (pv 13)) zg)) zg)))))
      (zi (j2 (zx (i:=14) nd rfl (Or.inl rfl) (zbe (jh Jv (zq zy rfl B.len boot_len (zc (pv 12) zg)) zk (zO _)) (VO (zau (jh Jv (zq zy rfl B.len boot_len (zc (pv 1) zg)) zk (zO _)) (VO (jh Jv (zq zy rfl B.len boot_len (zc (pv 12) zg)) zk (zO _))))))))
      (zi (j2 (jf (PW.pt (QE (jB (pv 14)) (yN (zR ZQ (zn D_fewest (hr.mono (by first | decide | exact Nat.le_refl _ | omega)) rfl (zc (pv 1) (zc (zW qh (pv 2) qz (zX zk)) zg))) (zn Dfewest_changes (hr.mono (by first | decide | exact Nat.le_refl _ | omega)) rfl (zc (pv 1) (zc (zW qh (pv 2) qz (zX zk)) zg))) (zO _)))))
      (zr (zI jw))
      qw))
      (zr (zI (jh Jx (zK (yj hg hu64) rfl B.str Qg (zc (z9 (zc (pv 1) (zc (pv 2) zg))) zg)) (pv 3) (zO _)))))))))))))))),?_⟩
    refine ⟨_,rfl,b,10,59,n,rfl,B0,by omega,by decide,by decide,by decide,by decide,fun p fl nl first tips needs zs H1 S1 B1 hp nfb nnb F1 N1 R1 ok tp n59=>⟨p,_,rfl,SqT.of hp,rfl,_,_,rfl,_,_,rfl,rfl,?_⟩⟩
    have zl:=R1.1
    have f0:=ok.f0
    have f1:=ok.f1
    have t8:=tp.t8
    have ft:=Yy ok tp
    have n6:∀ r ∈ needs,r.length <= 6 /\ ∀ t ∈ r,Nm t:=fun r hr=>⟨by have:=(ok.nn r hr).1;omega,(ok.nn r hr).2⟩
    have gN:=WO n6 ok.nl
    have gF:=VD ok.fn (by omega)
    have gNb:=gN.b
    have gNp:=gN.p
    have gFb:=gF.b
    have gFp:=gF.p
    have shw:(Dat.lst [qL first,.lst (needs.map qL)]).shw = true:=by
      show ((qL first).shw && ((Dat.lst (needs.map qL)).shw && true)) = true
      rw [Dat.gd_shw (by decide) gF.g,Dat.gd_shw (by decide) gN.g];rfl
    have blk:(Dat.lst [qL first,.lst (needs.map qL)]).blk <= 1048576:=by
      show (qL first).blk + 1 + ((Dat.lst (needs.map qL)).blk + 1 + 0) <= _
      omega
    have dep:(Dat.lst [qL first,.lst (needs.map qL)]).py.depth <= 60:=by
      show PyData.depth (.list [(qL first).py,(Dat.lst (needs.map qL)).py]) <= 60
      simp only [PyData.depth,PyData.depthAll]
      omega
    have rep2:∀ (H':Hp) (p:Addr),SameB b H1 H' -> H' p = some (.lst [.ref fl,.ref nl]) -> Rep K H' (.lst [qL first,.lst (needs.map qL)]) (.ref p):=fun H' p s' h'=>⟨p,_,rfl,SqL.of h',_,_,rfl,Jl (s' _ _ F1 nfb),_,_,rfl,⟨nl,zs,rfl,SqL.of (s' _ _ N1 nnb),(R1.draw s').rws.reps⟩,rfl⟩
    refine ⟨_,rfl,_,rfl,le2,fun p1 h1=>⟨p1,_,rfl,rep2 _ p1 (SameB.of (ze h1)) zf,shw,blk,dep,_,_,_,rfl,?_⟩⟩
    have s2:=ze (H:=H1) (o:=.lst [.ref fl,.ref nl]) h1
    generalize upd H1 p1 (.lst [.ref fl,.ref nl]) = H2 at s2
    generalize hkp:V.str _ = kept
    have N2:=s2 _ _ N1
    refine ⟨_,rfl,nl,_,rfl,.inl (SqL.of N2),_,rfl,nl,_,rfl,.inl (SqL.of N2),_,_,rfl,rfl,⟨by decide,by decide⟩,_,_,rfl,rfl,(zs.length:Int),1 + (zs.length:Int) / 20,rfl,by omega,by omega,by omega,by omega,fun rl m hrl em=>?_⟩
    have hc:1 + (zs.length:Int) / 20 = ((1 + zs.length / 20:Nat):Int):=by omega
    have hs:0 < 1 + zs.length / 20:=by omega
    rw [hc] at em
    have mn:=WS em
    have xl:(((List.range m).map fun i:Nat=>V.int ((i:Int) * (1 + (zs.length:Int) / 20)))).length = m:=by rw [List.length_map,List.length_range]
    have s3:=s2.trans (ze (H:=H2) (o:=.lst ((List.range m).map fun i:Nat=>V.int ((i:Int) * (1 + (zs.length:Int) / 20)))) hrl)
    have L3:=zf (H:=H2) (a:=rl) (o:=.lst ((List.range m).map fun i:Nat=>V.int ((i:Int) * (1 + (zs.length:Int) / 20))))
    generalize upd H2 rl (.lst ((List.range m).map fun i:Nat=>V.int ((i:Int) * (1 + (zs.length:Int) / 20)))) = H3 at s3 L3
    refine ⟨_,rfl,nl,_,rfl,.inl (SqL.of (s3 _ _ N1)),le1,fun ql hql=>⟨rl,ql,_,_,rfl,rfl,(ze hql) _ _ L3,zf,by rw [xl];show _ + 1 <= _;omega,fun sl hsl=>?_⟩⟩
    have s4:=s3.trans ((ze (H:=H3) (o:=.lst [.int (zs.length:Int)]) hql).trans (ze (o:=.lst (((List.range m).map fun i:Nat=>V.int ((i:Int) * (1 + (zs.length:Int) / 20))) ++ [.int (zs.length:Int)])) hsl))
    have L4:=zf (H:=upd H3 ql (.lst [.int (zs.length:Int)])) (a:=sl) (o:=.lst (((List.range m).map fun i:Nat=>V.int ((i:Int) * (1 + (zs.length:Int) / 20))) ++ [.int (zs.length:Int)]))
    generalize upd (upd H3 ql (.lst [.int (zs.length:Int)])) sl (.lst (((List.range m).map fun i:Nat=>V.int ((i:Int) * (1 + (zs.length:Int) / 20))) ++ [.int (zs.length:Int)])) = H4 at s4 L4
    clear L3 hql hsl hrl s3
    have hget:=fun j x=>zaf (n:=zs.length) (m:=m) (j:=j) (x:=x) hc
    have xlen:(((List.range m).map fun i:Nat=>V.int ((i:Int) * (1 + (zs.length:Int) / 20))) ++ [V.int (zs.length:Int)]).length = m + 1:=by rw [List.length_append,xl];rfl
    generalize ((List.range m).map fun i:Nat=>V.int ((i:Int) * (1 + (zs.length:Int) / 20))) ++ [V.int (zs.length:Int)] = XS at L4 hget xlen
    refine ⟨sl,rfl,⟨_,SqL.of L4⟩,qk (K:=K) (a:=sl) (xs:=XS) (Xp b fl nl kept H4 first needs m zs) ⟨0,0,_,_,_,rfl,Same.refl _,Vl first,Nat.zero_le _,fun h=>by omega⟩ (fun j σ H' _ ⟨_,_,_,_,_,_,s',_,_,_⟩=>SqL.of (s' _ _ L4)) ?_ ?_⟩
    · rintro j x σ H5 hx ⟨last,ahead,v6,v7,v8,rfl,s5,tl,ll,_⟩
      obtain ⟨jm,rfl⟩:=hget j x hx
      have zle:=Q4 (j:=j) hs em
      have zup:=WT (j:=j) hs em
      have zend:j + 1 = m + 1 -> vB m (1 + zs.length / 20) zs.length j = zs.length:=fun h=>if_neg (by omega)
      generalize vB m (1 + zs.length / 20) zs.length j = sz at ll zle zup zend
      have t5:=s4.trans s5
      have R5:=(R1.draw (SameB.of t5))
      have N5:=t5 _ _ N1
      refine ⟨_,rfl,_,rfl,_,rfl,_,rfl,nl,_,rfl,SqL.of N5,fun p2 h2=>?_⟩
      rw [qO]
      have s6:=ze (H:=H5) (o:=.lst (zs.take sz)) h2
      have P2:=zf (H:=H5) (a:=p2) (o:=.lst (zs.take sz))
      generalize upd H5 p2 (.lst (zs.take sz)) = H6 at s6 P2
      have R5:RwE (fun a=>a = b) H5 needs zs:=R5
      refine ⟨fl,p2,first,needs.take sz,zs.take sz,rfl,s6 _ _ (t5 _ _ F1),P2,(R5.take sz).rws.same s6,ok.sub (fun r hr'=>List.mem_of_mem_take hr') (by rw [List.length_take];omega),fun rs H7 s7 rrl be=>?_⟩
      have t7:=s6.trans s7
      refine ⟨_,rfl,_,rfl,_,rfl,_,rfl,_,rfl,nl,_,rfl,SqL.of (t7 _ _ N5),fun p3 h3=>?_⟩
      rw [Qc zs ll]
      have s8:=t7.trans (ze (H:=H7) (o:=.lst ((zs.drop last).take (sz - last))) h3)
      have P3:=zf (H:=H7) (a:=p3) (o:=.lst ((zs.drop last).take (sz - last)))
      generalize upd H7 p3 (.lst ((zs.drop last).take (sz - last))) = H8 at s8 P3
      have R8:=((R5.drop last).take (sz - last)).rws.same s8
      have gr:=Tell.grow ft tl ⟨rs,rrl,be,rfl⟩ ll
      have ml:((needs.drop last).take (sz - last)).length <= 60:=by rw [List.length_take,List.length_drop];omega
      have mr:∀ r ∈ (needs.drop last).take (sz - last),r.length <= 6:=fun r hr'=>(n6 r (List.mem_of_mem_drop (List.mem_of_mem_take hr'))).1
      generalize (needs.drop last).take (sz - last) = more at R8 gr ml mr
      generalize (zs.drop last).take (sz - last) = zm at R8 P3
      have zml:=R8.1
      refine ⟨p3,rfl,⟨_,SqL.of P3⟩,qp (K:=K) (a:=p3) (xs:=zm) (fun q us H'=>us = ((more.take q).map fun r=>((r.length:Nat):Int)).map V.int /\ Same H8 H') ⟨rfl,Same.refl _⟩ (fun q us H' ⟨_,s'⟩=>SqL.of (s' _ _ P3)) ?_ ?_⟩
      · rintro q y us H9 hy ⟨rfl,s9⟩
        obtain ⟨a,need,rfl,en,ha⟩:=(R8.same s9).at hy
        have il:=(List.getElem?_eq_some_iff.mp en).1
        refine ⟨rfl,_,rfl,a,_,rfl,.inl (SqL.of ha),by rw [List.length_map,List.length_map,List.length_take];omega,?_,s9⟩
        rw [zM en,List.map_append,List.map_append,List.length_map]
        rfl
      rintro us H9 ⟨rfl,s9⟩
      rw [zml,List.take_length]
      refine ⟨by rw [List.length_map,List.length_map];omega,fun al hal=>⟨al,_,rfl,SqL.of zf,fun z hz=>?_,by rw [List.length_map];omega,?_⟩⟩
      · obtain ⟨r,hr',rfl⟩:=List.mem_map.mp hz
        have:=mr r hr'
        omega
      rw [WU]
      have sA:=(s5.trans s8).trans (s9.trans (ze (H:=H9) (o:=.lst ((more.map fun r=>((r.length:Nat):Int)).map V.int)) hal))
      generalize upd H9 al (.lst ((more.map fun r=>((r.length:Nat):Int)).map V.int)) = HA at sA
      generalize ((more.map List.length).sum) = mo at gr
      refine ⟨_,rfl,_,_,rfl,rfl,_,rfl,jU (fun c=>?_) (fun c=>?_)⟩
      · refine ⟨_,rfl,_,rfl,_,_,rfl,rfl,_,rfl,ifT (decide_eq_true (by omega)) ⟨_,rfl,_,rfl,_,_,rfl,rfl,_,_,rfl,rfl,_,rfl,?_⟩⟩
        exact ifF (by rw [decide_eq_true (by omega)];rfl) ⟨_,rfl,_,rfl,_,_,rfl,sz,chg first rs,_,_,_,rfl,sA,⟨rs,rrl,be,rfl⟩,zup,zend⟩
      · refine ifF rfl ?_
        exact ⟨_,rfl,_,rfl,_,_,rfl,sz,chg first rs,_,_,_,rfl,sA,⟨rs,rrl,be,rfl⟩,zup,zend⟩
    rintro σ H5 ⟨last,c,v6,v7,v8,rfl,s5,tl,_,lend⟩
    have el:last = zs.length:=lend xlen
    subst el
    rw [zl,List.take_length] at tl
    have t5:=(s4.trans s5)
    have B5:=B1.same t5
    refine ⟨_,rfl,_,rfl,_,rfl,_,rfl,b,fl,nl,_,c,first,tips,needs,zs,rfl,B5,by omega,nfb,nnb,t5 _ _ F1,t5 _ _ N1,R1.draw (SameB.of t5),ok,tp,by omega,tl,fun H6 S6 B6=>⟨_,rfl,ifF rfl ?_⟩⟩
    have S6':=(SameB.of (b:=b) t5).trans S6
    refine ⟨_,rfl,_,rfl,_,rfl,_,rfl,b,fl,nl,_,c,first,tips,needs,zs,rfl,B6,by omega,nfb,nnb,S6' _ _ F1 nfb,S6' _ _ N1 nnb,R1.draw S6',ok,tp,tl,fun H7 S7 B7=>⟨_,rfl,ifF rfl ?_⟩⟩
    have S7':=S6'.trans S7
    refine ⟨_,rfl,_,rfl,nl,_,rfl,.inl (SqL.of (S7' _ _ N1 nnb)),_,_,rfl,rfl,b,_,_,rfl,B7,by omega,by omega,by omega,fun q H8 q0 q1 B8 S8=>?_⟩
    obtain ⟨i,rfl⟩:∃ i:Nat,q = (i:Int):=⟨q.toNat,by omega⟩
    have il:i <= needs.length:=by omega
    have S8':=S7'.trans S8
    clear S8 S7 S7' S6 S6' B5 B6 B7 q0 q1
    have F8:=S8' _ _ F1 nfb
    have N8:=S8' _ _ N1 nnb
    have R8:RwE (fun a=>a = b) H8 needs zs:=R1.draw S8'
    have okT:NeedsOk first (needs.take i):=ok.sub (fun r hr'=>List.mem_of_mem_take hr') (by rw [List.length_take];omega)
    have n1000:∀ need ∈ needs.take i,need.length <= 1000:=fun need h=>by have:=(okT.nn need h).1;omega
    refine ⟨_,rfl,_,rfl,_,rfl,_,rfl,nl,_,rfl,SqL.of N8,fun p2 h2=>?_⟩
    rw [qO]
    have s9:=ze (H:=H8) (o:=.lst (zs.take i)) h2
    have P9:=zf (H:=H8) (a:=p2) (o:=.lst (zs.take i))
    generalize upd H8 p2 (.lst (zs.take i)) = H9 at s9 P9
    refine ⟨fl,p2,first,needs.take i,zs.take i,rfl,s9 _ _ F8,P9,(R8.take i).rws.same s9,by omega,by have:=okT.nl;omega,n1000,fun ro rs ys HA hro sA LA QA rrl be _=>?_⟩
    have tA:=s9.trans sA
    refine ⟨fun σ' H'=>zbv b fl nl kept c zs v6 v7 v8 i ro H8 first rs σ' H',?_,?_⟩
    · refine ⟨_,rfl,le0,fun el hel=>⟨ro,el,ys,rfl,rfl,SqL.of ((ze hel) _ _ LA),SqL.of zf,_,rfl,?_⟩⟩
      have sB:=tA.trans (ze (H:=HA) (o:=.lst []) hel)
      have sBA:=ze (H:=HA) (o:=.lst []) hel
      generalize upd HA el (.lst []) = HB at sB sBA
      obtain ⟨sh1,_⟩:=be.shows okT rrl
      refine jU (fun c1=>?_) (fun c1=>?_)
      · obtain ⟨q,hq⟩:∃ q,ys.length = q + 1:=by
          cases ys with
          | nil=>cases c1
          | cons y ys=>exact ⟨_,rfl⟩
        have hq':rs.length = q + 1:=by rw [<- QA.1];exact hq
        obtain ⟨e',er⟩:∃ e',rs[q]? = some e':=⟨_,List.getElem?_eq_getElem (by omega)⟩
        obtain ⟨a,ea,ha⟩:=QA.2 q _ er
        have sh:=sh1 _ (List.mem_of_getElem? er)
        refine ⟨_,rfl,_,rfl,ro,_,_,_,rfl,rfl,SqL.of (sBA _ _ LA),YF hq ea,a,e',rfl,sB,sBA _ _ ha,?_,sh.1,sh.2⟩
        rw [List.getLast?_eq_getElem?,List.length_cons,hq']
        exact er
      · have e0:ys = []:=by
          cases ys with
          | nil=>rfl
          | cons y ys=>exact absurd rfl c1
        have er:rs = []:=List.eq_nil_of_length_eq_zero (by rw [<- QA.1,e0];rfl)
        subst er
        exact ⟨_,rfl,fl,first,rfl,sB,sBA _ _ (tA _ _ F8),rfl,rfl,ok.fn⟩
    rintro σ' HB ⟨v11,e,rfl,sB,EB,le,len,enm⟩
    have FB:=sB _ _ F8
    have NB:=sB _ _ N8
    have RB:=R8.draw (SameE.of sB)
    clear LA QA sA P9 h2 s9 hro tA
    refine ⟨_,rfl,_,rfl,_,rfl,_,rfl,_,rfl,nl,_,rfl,SqL.of NB,fun p2 h2=>?_⟩
    rw [qO]
    have sC:=ze (H:=HB) (o:=.lst (zs.take i)) h2
    have PC:=zf (H:=HB) (a:=p2) (o:=.lst (zs.take i))
    generalize upd HB p2 (.lst (zs.take i)) = HC at sC PC
    refine ⟨fl,p2,first,needs.take i,zs.take i,rfl,sC _ _ FB,PC,(RB.take i).rws.same sC,okT,fun rs' HD sD rrl' be'=>?_⟩
    have eu:=be'.uniq be rrl' rrl
    subst eu
    have tD:=sC.trans sD
    refine ⟨_,rfl,_,rfl,_,rfl,_,rfl,nl,_,rfl,SqL.of (tD _ _ NB),fun p3 h3=>?_⟩
    rw [xZ]
    have sE:=tD.trans (ze (H:=HD) (o:=.lst (zs.drop i)) h3)
    have PE:=zf (H:=HD) (a:=p3) (o:=.lst (zs.drop i))
    generalize upd HD p3 (.lst (zs.drop i)) = HE at sE PE
    have okE:NeedsOk e (needs.drop i):=⟨by omega,by omega,enm,by rw [List.length_drop];omega,fun r hr'=>⟨by rw [len];exact (ok.nn r (List.mem_of_mem_drop hr')).1,(ok.nn r (List.mem_of_mem_drop hr')).2⟩⟩
    refine ⟨v11,p3,e,needs.drop i,zs.drop i,rfl,sE _ _ EB,PE,(RB.drop i).rws.same sE,okE,fun qs HF sF qql bq=>?_⟩
    have tp':=Qq ok tl be rrl le bq qql okE len
    refine ⟨_,_,rfl,rfl,_,_,rfl,rfl,_,rfl,ifF (decide_eq_false (by omega)) ?_⟩
    have s9:=sB.trans (sE.trans sF)
    have F9:=s9 _ _ F8
    have N9:=s9 _ _ N8
    have R9:=R8.rws.same s9
    clear PE h3 tD sD PC sC h2 sB EB FB NB RB sE sF
    generalize HF = H9 at s9 F9 N9 R9
    refine ⟨_,rfl,fl,first.map Sum.inr,rfl,(by rw [<- ji];exact F9),by rw [List.length_map];omega,fun sa hsa=>⟨sa,first,rfl,zf,by omega,fun tl ts htl _ tnd tm=>?_⟩⟩
    have s1:=(ze (H:=H9) (o:=xS P w sa (jq [] (first.map Sum.inr))) hsa).trans (ze (o:=.lst (ts.map V.str)) htl)
    refine ⟨_,rfl,nl,rfl,⟨_,SqL.of (s1 _ _ N9)⟩,qk (K:=K) (a:=nl) (xs:=zs) (Xo b fl nl kept c zs v6 v7 v8 i ro v11 H9 tips first needs) ⟨tl,ts,_,rfl,s1,zf,tnd,fun t ht=>tp.fm t ((tm t).mp ht),fun t ht=>(tm t).mpr ht,fun j need h=>by omega⟩ (fun i σ H' _ ⟨_,_,_,_,s',_,_,_,_,_⟩=>SqL.of (s' _ _ N9)) ?_ ?_⟩
    · clear tm tnd htl hsa s1
      rintro i' x σ H4 hx ⟨tl,ts,v5,rfl,s4,T4,tnd,tsub,tf,tn⟩
      obtain ⟨a,need,rfl,en,ha⟩:=(R9.same s4).at hx
      have tle:=vb tnd tsub
      have nle:=(ok.nn need (List.mem_of_getElem? en)).1
      refine ⟨_,rfl,_,rfl,tl,a,_,_,rfl,rfl,T4,ha,by rw [List.length_map,List.length_map];omega,fun q hq=>?_⟩
      have s6:=s4.trans (ze (H:=H4) (o:=.lst (ts.map V.str ++ need.map V.str)) hq)
      have Q6:upd H4 q (.lst (ts.map V.str ++ need.map V.str)) q = some (.lst (((ts ++ need).map Sum.inr).map kV)):=by rw [zf,<- List.map_append,ji]
      generalize upd H4 q (.lst (ts.map V.str ++ need.map V.str)) = H6 at s6 Q6
      refine ⟨q,(ts ++ need).map Sum.inr,rfl,Q6,by rw [List.length_map,List.length_append];omega,fun sa hsa=>⟨sa,ts ++ need,rfl,zf,by rw [List.length_append];omega,fun tl' ts' htl _ tnd' tm=>?_⟩⟩
      have s7:=s6.trans ((ze (H:=H6) (o:=xS P w sa (jq [] ((ts ++ need).map Sum.inr))) hsa).trans (ze (o:=.lst (ts'.map V.str)) htl))
      refine ⟨tl',ts',_,rfl,s7,zf,tnd',fun t ht=>(List.mem_append.mp ((tm t).mp ht)).elim (tsub t) (tp.nm2 need (List.mem_of_getElem? en) t),fun t ht=>(tm t).mpr (List.mem_append_left _ (tf t ht)),fun j nd' hj ej t ht=>(tm t).mpr ?_⟩
      by_cases z:j = i'
      · subst z
        rw [en] at ej
        cases ej
        exact List.mem_append_right _ ht
      · exact List.mem_append_left _ (tn j nd' (by omega) ej t ht)
    clear tm tnd htl hsa s1
    rintro σ HG ⟨tl,ts,v5,rfl,s1,T1,tnd,tsub,tf,tn⟩
    have fit:Fits ts first needs:=⟨tnd,tf,fun need h=>⟨(ok.nn need h).1,by
      obtain ⟨j,hj,e⟩:=List.getElem_of_mem h
      exact tn j need (by rw [zl];exact hj) (by rw [<- e];exact List.getElem?_eq_getElem _)⟩⟩
    have tle:=vb tnd tsub
    have F1':=s1 _ _ F9
    have ml:(ts.map V.str).length = ts.length:=List.length_map ..
    have mf:(first.map V.str).length = first.length:=List.length_map ..
    refine ⟨Xn b fl nl kept c zs v6 v7 v8 i ro v11 tl v5 HG ts first,?_,?_⟩
    · refine ⟨_,rfl,tl,_,rfl,.inl (SqL.of T1),_,_,rfl,rfl,_,rfl,jU (fun c1=>?_) (fun c1=>?_)⟩
      · exact ⟨_,rfl,rfl,fun _=>.inl (by have:=of_decide_eq_true c1;omega)⟩
      · refine ⟨_,rfl,fl,_,rfl,.inl (SqL.of F1'),_,_,rfl,rfl,_,rfl,jU (fun c2=>?_) (fun c2=>?_)⟩
        · exact ⟨_,rfl,tl,_,rfl,.inl (SqL.of T1),_,_,rfl,rfl,_,rfl,rfl,fun h=>.inr (by have h1:=of_decide_eq_true c2;have h2:=of_decide_eq_true h;omega)⟩
        · exact ⟨_,rfl,rfl,fun h=>nomatch h⟩
    rintro σ' HG ⟨few,rfl,rfl,hfew⟩
    have N1':=s1 _ _ N9
    have R1':=RwE.draw R8 (SameE.of (s9.trans s1))
    refine ⟨Xm b fl nl kept c zs v6 v7 v8 i ro v11 tl v5 few HG,?_,?_⟩
    · refine ⟨_,rfl,_,rfl,?_⟩
      cases few with
      | false=>exact ifF rfl (ifF rfl ⟨rfl,Same.refl _⟩)
      | true=>
        refine ifT rfl ?_
        have hf:=hfew rfl
        have pw:ts.length ^ first.length <= 5000:=by
          rcases hf with h | ⟨h1,h2⟩
          · exact Nat.le_trans (Nat.pow_le_pow_left h _) (Nat.le_trans (Nat.pow_le_pow_right (by decide) f1) (by decide))
          · exact Nat.le_trans (Nat.pow_le_pow_left h2 _) (Nat.le_trans (Nat.pow_le_pow_right (by decide) h1) (by decide))
        have n12:(needs.take 12).length <= 12:=by rw [List.length_take];omega
        have ok12:NeedsOk first (needs.take 12):=ok.sub (fun r hr'=>List.mem_of_mem_take hr') (by omega)
        refine ⟨_,rfl,_,rfl,_,rfl,nl,_,rfl,SqL.of N1',fun p2 h2=>?_⟩
        rw [show (12:Int) = ((12:Nat):Int) from rfl,qO]
        have sC:=ze (H:=HG) (o:=.lst (zs.take 12)) h2
        have PC:=zf (H:=HG) (a:=p2) (o:=.lst (zs.take 12))
        generalize upd HG p2 (.lst (zs.take 12)) = HC at sC PC
        refine ⟨fl,p2,first,needs.take 12,zs.take 12,ts,rfl,sC _ _ F1',PC,(R1'.take 12).rws.same sC,f0,f1,by omega,fun need h=>(ok12.nn need h).1,fit.fm,fun need h=>(fit.nm need (List.mem_of_mem_take h)).2,by omega,pw,fun v HD sD hv=>?_⟩
        have tD:=sC.trans sD
        refine ⟨_,rfl,_,rfl,_,rfl,nl,_,rfl,SqL.of (tD _ _ N1'),fun p3 h3=>?_⟩
        rw [qO]
        have sE:=tD.trans (ze (H:=HD) (o:=.lst (zs.take 12)) h3)
        have PE:=zf (H:=HD) (a:=p3) (o:=.lst (zs.take 12))
        generalize upd HD p3 (.lst (zs.take 12)) = HE at sE PE
        refine ⟨fl,p3,first,needs.take 12,zs.take 12,rfl,sE _ _ F1',PE,(R1'.take 12).rws.same sE,ok12,fun rs12 HF sF rl12 be12=>?_⟩
        rw [hv rs12 rl12 be12]
        exact ⟨rfl,_,rfl,ifF (by simp) ⟨rfl,sE.trans sF⟩⟩
    rintro σ' HH ⟨rfl,sH⟩
    have SH:SameB b H1 HH:=S8'.trans (SameB.of (s9.trans (s1.trans sH)))
    refine ⟨_,rfl,_,rfl,le2,fun p5 h5=>⟨p5,_,rfl,rep2 _ p5 (SH.trans (SameB.of (ze h5))) zf,shw,blk,dep,?_⟩⟩
    subst hkp
    refine ⟨_,rfl,rfl,?_⟩
    have:=k (upd HH p5 (.lst [.ref fl,.ref nl])) ((S1.trans SH).new h5)
    simpa using this
end
inductive Q8 (K:PySem.W.Frag) (vs:List V) (H:Hp) (Q:VK):Prop
  | mk (a:Addr) (ns:List Int) (_:vs = [.ref a]) (_:SqL K H a (ns.map V.int)) (_:ns.length <= 63) (_:∀ H',Q (.bl true) H'):Q8 K vs H Q
def Q9 (K:PySem.W.Frag):Sp:=fun vs H Q _=>Q8 K vs H Q
section
variable {P:Program} {w:World} {K:PySem.W.Frag} {mg:Str -> Option Value} {base:Heap}
theorem YQ:zJ ["_law_script", "_law_cells"] ["_law_script"] (zo (zw 24)):=⟨rfl,rfl,rfl,by decide +kernel,rfl,by decide +kernel,by decide +kernel⟩
theorem zay {f:Addr} {fd:FuncData} (F:Fun K "law" "law" (zw 24) f fd) (B:Blt mg) (D_folded:Dfn P w K mg base "_law_folded" 1 ["_law_script", "_law_size"] (Qw K)) (D_box:Dfn P w K mg base "_law_box" 1 ["_law_script", "_law_k"] (Vo K))
    (D_right:Dfn P w K mg base "_law_right" 7 ["_law_box_here"] yF):qC P w K mg base CX0 8 f fd ["_law_script"] (Q9 K):=by
  have nd:=YQ.nd
  refine F.ok YQ (fun vs H Q E h=>?_) (fun cdv A outer s H vs Q E hr h=>?_)
  · obtain ⟨a,ns,rfl,_⟩:=h
    rfl
  · obtain ⟨a,ns,rfl,hS,hlen,k⟩:=h
    refine ⟨_,(@zi _ _ _ _ _ (@zx _ _ 1 _ _ _ _ nd rfl (Or.inr rfl) (@zn _ _ _ _ _ _ _ _ _ _ D_folded (hr.mono (by first | decide | exact Nat.le_refl _ | omega)) rfl (@zc _ _ _ _ _ (@pv _ 0 _ _ (by rfl) (by first | exact Or.inl rfl | exact Or.inr (Or.inl rfl) | exact Or.inr (Or.inr rfl)) (by decide) (by decide)) (@zc _ _ _ _ _ zk zg (by rfl)) (by rfl)) (by decide) (by rfl) (by rfl)) (by rfl) (by first | exact .inl rfl | exact .inr rfl | assumption)) (@zr _ _ _ (@zI _ _ _ _ (@zq _ _ _ _ _ _ _ _ _ (j6 rfl) rfl B.all boot_all (@zc _ _ _ _ _ (@qF _ _ _ _ _ _ _ _ _ _ _ ["_law_cells"] [1] rfl rfl (by kernel_rfl) (@qj _ _ _ _ _ _ rfl B.range (@zc _ _ _ _ _ (@zq _ _ _ _ _ _ _ _ _ (X8 rfl) rfl B.max WC (@zc _ _ _ _ _ zk (@zc _ _ _ _ _ (@zq _ _ _ _ _ _ _ _ _ zy rfl B.len boot_len (@zc _ _ _ _ _ (@pv _ 1 _ _ (by rfl) (by first | exact Or.inl rfl | exact Or.inr (Or.inl rfl) | exact Or.inr (Or.inr rfl)) (by decide) (by decide)) zg (by rfl)) (by decide) (by decide) (by rfl) (by rfl)) zg (by rfl)) (by rfl)) (by decide) (by decide) (by rfl) (by rfl)) zg (by rfl)) (by rfl)) (fun C0 s0 H0 ex0=>qE) (fun C0 s0 H0 ex0=>(@zn _ _ _ _ _ _ _ _ _ _ D_right (hr.mono (by first | decide | exact Nat.le_refl _ | omega)) rfl (@zc _ _ _ _ _ (@zn _ _ _ _ _ _ _ _ _ _ D_box (hr.mono (by first | decide | exact Nat.le_refl _ | omega)) rfl (@zc _ _ _ _ _ (@pv _ 1 _ _ (by rfl) (by first | exact Or.inl rfl | exact Or.inr (Or.inl rfl) | exact Or.inr (Or.inr rfl)) (by decide) (by decide)) (@zc _ _ _ _ _ (@pv _ 0 _ _ (by rfl) (by first | exact Or.inl rfl | exact Or.inr (Or.inl rfl) | exact Or.inr (Or.inr rfl)) (by decide) (by decide)) zg (by rfl)) (by rfl)) (by decide) (by rfl) (by rfl)) zg (by rfl)) (by decide) (by rfl) (by rfl))) (by intro _ ;rfl)) zg (by rfl)) (by decide) (by decide) (by rfl) (by rfl))))),?_⟩
    refine ⟨_,rfl,a,ns,4,rfl,hS,hlen,by decide,by decide,fun p ms H1 s1 hp hm=>?_⟩
    have e62:(2:Int) ^ 62 = 4611686018427387904:=by decide
    have hl:(ms.map V.int).length <= 4:=by rw [List.length_map];exact hm
    refine ⟨_,rfl,p,_,rfl,.inl hp,_,_,rfl,_,rfl,(by rw [e62];split <;> omega),(by rw [e62];split <;> omega),?_⟩
    have hN:(if ((ms.map V.int).length:Int) > 1 then ((ms.map V.int).length:Int) else 1).toNat <= 8:=by split <;> omega
    have hbig:100 < sizeLine:=by rw [sizeLine_eq];decide
    refine vY (fun i zs H2=>zs = List.replicate i (V.bl true) /\ Same H1 H2) ⟨rfl,Same.refl _⟩ ?_ ?_
    · rintro i zs H2 hi ⟨rfl,sm⟩
      rw [Int.zero_add]
      refine ⟨rfl,?_⟩
      refine ⟨_,rfl,_,rfl,p,ms,i,rfl,sm.seq hp,by omega,fun q o hq Bq=>⟨q,0,rfl,Bq,by decide,fun H3 s3=>⟨?_,?_,fun c u e=>?_⟩⟩⟩
      · rw [List.length_replicate];omega
      · rw [List.replicate_succ']
      · exact s3 c u ((ze hq) c u (sm c u e)) (zj (sm c u e) hq)
    · rintro zs H2 ⟨rfl,sm⟩
      refine ⟨by rw [List.length_replicate];omega,fun D hD=>⟨D,List.replicate (if ((ms.map V.int).length:Int) > 1 then ((ms.map V.int).length:Int) else 1).toNat true,rfl,?_,?_⟩⟩
      · refine SqL.of ?_
        rw [zf,List.map_replicate]
      · have:=k (upd H2 D (.lst (List.replicate (if ((ms.map V.int).length:Int) > 1 then ((ms.map V.int).length:Int) else 1).toNat (V.bl true))))
        simpa using this
end
theorem all_mk {l:PySem.W.OpenLaw} {w:World} {K:PySem.W.Frag} {h:Heap} {mg:Str -> Option Value} {fa:Addr} (X:K.In h) (G:h.Ns mainGlobals mg) (hfa:mg "law" = some (.ref fa))
    {f0:Addr} {od0 an0:Option Addr} {sl0:Array (Option Value)} {oc0 kV0 dc0 pm0 cd0 ct0:Value}
    {f1:Addr} {od1 an1:Option Addr} {sl1:Array (Option Value)} {oc1 kV1 dc1 pm1 cd1 ct1:Value}
    {f2:Addr} {od2 an2:Option Addr} {sl2:Array (Option Value)} {oc2 kV2 dc2 pm2 cd2 ct2:Value}
    {f3:Addr} {od3 an3:Option Addr} {sl3:Array (Option Value)} {oc3 kV3 dc3 pm3 cd3 ct3:Value}
    {f4:Addr} {od4 an4:Option Addr} {sl4:Array (Option Value)} {oc4 kV4 dc4 pm4 cd4 ct4:Value}
    {f5:Addr} {od5 an5:Option Addr} {sl5:Array (Option Value)} {oc5 kV5 dc5 pm5 cd5 ct5:Value}
    {f6:Addr} {od6 an6:Option Addr} {sl6:Array (Option Value)} {oc6 kV6 dc6 pm6 cd6 ct6:Value}
    {f7:Addr} {od7 an7:Option Addr} {sl7:Array (Option Value)} {oc7 kV7 dc7 pm7 cd7 ct7:Value}
    {f8:Addr} {od8 an8:Option Addr} {sl8:Array (Option Value)} {oc8 kV8 dc8 pm8 cd8 ct8:Value}
    {f9:Addr} {od9 an9:Option Addr} {sl9:Array (Option Value)} {oc9 kV9 dc9 pm9 cd9 ct9:Value}
    {f10:Addr} {od10 an10:Option Addr} {sl10:Array (Option Value)} {oc10 kV10 dc10 pm10 cd10 ct10:Value}
    {f11:Addr} {od11 an11:Option Addr} {sl11:Array (Option Value)} {oc11 kV11 dc11 pm11 cd11 ct11:Value}
    {f12:Addr} {od12 an12:Option Addr} {sl12:Array (Option Value)} {oc12 kV12 dc12 pm12 cd12 ct12:Value}
    {f13:Addr} {od13 an13:Option Addr} {sl13:Array (Option Value)} {oc13 kV13 dc13 pm13 cd13 ct13:Value}
    {f14:Addr} {od14 an14:Option Addr} {sl14:Array (Option Value)} {oc14 kV14 dc14 pm14 cd14 ct14:Value}
    {f15:Addr} {od15 an15:Option Addr} {sl15:Array (Option Value)} {oc15 kV15 dc15 pm15 cd15 ct15:Value}
    {f16:Addr} {od16 an16:Option Addr} {sl16:Array (Option Value)} {oc16 kV16 dc16 pm16 cd16 ct16:Value}
    {f17:Addr} {od17 an17:Option Addr} {sl17:Array (Option Value)} {oc17 kV17 dc17 pm17 cd17 ct17:Value}
    {f18:Addr} {od18 an18:Option Addr} {sl18:Array (Option Value)} {oc18 kV18 dc18 pm18 cd18 ct18:Value}
    {f19:Addr} {od19 an19:Option Addr} {sl19:Array (Option Value)} {oc19 kV19 dc19 pm19 cd19 ct19:Value}
    {f20:Addr} {od20 an20:Option Addr} {sl20:Array (Option Value)} {oc20 kV20 dc20 pm20 cd20 ct20:Value}
    {f21:Addr} {od21 an21:Option Addr} {sl21:Array (Option Value)} {oc21 kV21 dc21 pm21 cd21 ct21:Value}
    {f22:Addr} {od22 an22:Option Addr} {sl22:Array (Option Value)} {oc22 kV22 dc22 pm22 cd22 ct22:Value}
    (a0:PySem.W.nsIn K mainGlobals "next_need" = some (some (.ref f0))) (l0:K.lookup f0 = some ⟨oc0,od0,.func (PySem.W.fnOf "next_need" "next_need" (zF (zw 1)) (zC (zw 1)) (zo (zw 1)) .none kV0 dc0 pm0 an0 cd0 ct0),sl0⟩) (c0:PySem.W.codeIn K cd0 "next_need" = true) (k0:PySem.W.keepIn K (.ref f0) = true)
    (a1:PySem.W.nsIn K mainGlobals "spare_heads" = some (some (.ref f1))) (l1:K.lookup f1 = some ⟨oc1,od1,.func (PySem.W.fnOf "spare_heads" "spare_heads" (zF (zw 2)) (zC (zw 2)) (zo (zw 2)) .none kV1 dc1 pm1 an1 cd1 ct1),sl1⟩) (c1:PySem.W.codeIn K cd1 "spare_heads" = true) (k1:PySem.W.keepIn K (.ref f1) = true)
    (a2:PySem.W.nsIn K mainGlobals "missing_tips" = some (some (.ref f2))) (l2:K.lookup f2 = some ⟨oc2,od2,.func (PySem.W.fnOf "missing_tips" "missing_tips" (zF (zw 3)) (zC (zw 3)) (zo (zw 3)) .none kV2 dc2 pm2 an2 cd2 ct2),sl2⟩) (c2:PySem.W.codeIn K cd2 "missing_tips" = true) (k2:PySem.W.keepIn K (.ref f2) = true)
    (a3:PySem.W.nsIn K mainGlobals "next_row" = some (some (.ref f3))) (l3:K.lookup f3 = some ⟨oc3,od3,.func (PySem.W.fnOf "next_row" "next_row" (zF (zw 4)) (zC (zw 4)) (zo (zw 4)) .none kV3 dc3 pm3 an3 cd3 ct3),sl3⟩) (c3:PySem.W.codeIn K cd3 "next_row" = true) (k3:PySem.W.keepIn K (.ref f3) = true)
    (a4:PySem.W.nsIn K mainGlobals "bear_tips" = some (some (.ref f4))) (l4:K.lookup f4 = some ⟨oc4,od4,.func (PySem.W.fnOf "bear_tips" "bear_tips" (zF (zw 5)) (zC (zw 5)) (zo (zw 5)) .none kV4 dc4 pm4 an4 cd4 ct4),sl4⟩) (c4:PySem.W.codeIn K cd4 "bear_tips" = true) (k4:PySem.W.keepIn K (.ref f4) = true)
    (a5:PySem.W.nsIn K mainGlobals "changes_in" = some (some (.ref f5))) (l5:K.lookup f5 = some ⟨oc5,od5,.func (PySem.W.fnOf "changes_in" "changes_in" (zF (zw 6)) (zC (zw 6)) (zo (zw 6)) .none kV5 dc5 pm5 an5 cd5 ct5),sl5⟩) (c5:PySem.W.codeIn K cd5 "changes_in" = true) (k5:PySem.W.keepIn K (.ref f5) = true)
    (a6:PySem.W.nsIn K mainGlobals "fewest_changes" = some (some (.ref f6))) (l6:K.lookup f6 = some ⟨oc6,od6,.func (PySem.W.fnOf "fewest_changes" "fewest_changes" (zF (zw 7)) (zC (zw 7)) (zo (zw 7)) .none kV6 dc6 pm6 an6 cd6 ct6),sl6⟩) (c6:PySem.W.codeIn K cd6 "fewest_changes" = true) (k6:PySem.W.keepIn K (.ref f6) = true)
    (a7:PySem.W.nsIn K mainGlobals "_law_box" = some (some (.ref f7))) (l7:K.lookup f7 = some ⟨oc7,od7,.func (PySem.W.fnOf "_law_box" "_law_box" (zF (zw 9)) (zC (zw 9)) (zo (zw 9)) .none kV7 dc7 pm7 an7 cd7 ct7),sl7⟩) (c7:PySem.W.codeIn K cd7 "_law_box" = true) (k7:PySem.W.keepIn K (.ref f7) = true)
    (a8:PySem.W.nsIn K mainGlobals "_law_take" = some (some (.ref f8))) (l8:K.lookup f8 = some ⟨oc8,od8,.func (PySem.W.fnOf "_law_take" "_law_take" (zF (zw 10)) (zC (zw 10)) (zo (zw 10)) .none kV8 dc8 pm8 an8 cd8 ct8),sl8⟩) (c8:PySem.W.codeIn K cd8 "_law_take" = true) (k8:PySem.W.keepIn K (.ref f8) = true)
    (a9:PySem.W.nsIn K mainGlobals "_law_folded" = some (some (.ref f9))) (l9:K.lookup f9 = some ⟨oc9,od9,.func (PySem.W.fnOf "_law_folded" "_law_folded" (zF (zw 11)) (zC (zw 11)) (zo (zw 11)) .none kV9 dc9 pm9 an9 cd9 ct9),sl9⟩) (c9:PySem.W.codeIn K cd9 "_law_folded" = true) (k9:PySem.W.keepIn K (.ref f9) = true)
    (a10:PySem.W.nsIn K mainGlobals "_law_spelled" = some (some (.ref f10))) (l10:K.lookup f10 = some ⟨oc10,od10,.func (PySem.W.fnOf "_law_spelled" "_law_spelled" (zF (zw 12)) (zC (zw 12)) (zo (zw 12)) .none kV10 dc10 pm10 an10 cd10 ct10),sl10⟩) (c10:PySem.W.codeIn K cd10 "_law_spelled" = true) (k10:PySem.W.keepIn K (.ref f10) = true)
    (a11:PySem.W.nsIn K mainGlobals "_law_name" = some (some (.ref f11))) (l11:K.lookup f11 = some ⟨oc11,od11,.func (PySem.W.fnOf "_law_name" "_law_name" (zF (zw 13)) (zC (zw 13)) (zo (zw 13)) .none kV11 dc11 pm11 an11 cd11 ct11),sl11⟩) (c11:PySem.W.codeIn K cd11 "_law_name" = true) (k11:PySem.W.keepIn K (.ref f11) = true)
    (a12:PySem.W.nsIn K mainGlobals "_law_names" = some (some (.ref f12))) (l12:K.lookup f12 = some ⟨oc12,od12,.func (PySem.W.fnOf "_law_names" "_law_names" (zF (zw 14)) (zC (zw 14)) (zo (zw 14)) .none kV12 dc12 pm12 an12 cd12 ct12),sl12⟩) (c12:PySem.W.codeIn K cd12 "_law_names" = true) (k12:PySem.W.keepIn K (.ref f12) = true)
    (a13:PySem.W.nsIn K mainGlobals "_law_shuffled" = some (some (.ref f13))) (l13:K.lookup f13 = some ⟨oc13,od13,.func (PySem.W.fnOf "_law_shuffled" "_law_shuffled" (zF (zw 15)) (zC (zw 15)) (zo (zw 15)) .none kV13 dc13 pm13 an13 cd13 ct13),sl13⟩) (c13:PySem.W.codeIn K cd13 "_law_shuffled" = true) (k13:PySem.W.keepIn K (.ref f13) = true)
    (a14:PySem.W.nsIn K mainGlobals "_law_needs" = some (some (.ref f14))) (l14:K.lookup f14 = some ⟨oc14,od14,.func (PySem.W.fnOf "_law_needs" "_law_needs" (zF (zw 16)) (zC (zw 16)) (zo (zw 16)) .none kV14 dc14 pm14 an14 cd14 ct14),sl14⟩) (c14:PySem.W.codeIn K cd14 "_law_needs" = true) (k14:PySem.W.keepIn K (.ref f14) = true)
    (a15:PySem.W.nsIn K mainGlobals "_law_meets" = some (some (.ref f15))) (l15:K.lookup f15 = some ⟨oc15,od15,.func (PySem.W.fnOf "_law_meets" "_law_meets" (zF (zw 17)) (zC (zw 17)) (zo (zw 17)) .none kV15 dc15 pm15 an15 cd15 ct15),sl15⟩) (c15:PySem.W.codeIn K cd15 "_law_meets" = true) (k15:PySem.W.keepIn K (.ref f15) = true)
    (a16:PySem.W.nsIn K mainGlobals "_law_bags" = some (some (.ref f16))) (l16:K.lookup f16 = some ⟨oc16,od16,.func (PySem.W.fnOf "_law_bags" "_law_bags" (zF (zw 18)) (zC (zw 18)) (zo (zw 18)) .none kV16 dc16 pm16 an16 cd16 ct16),sl16⟩) (c16:PySem.W.codeIn K cd16 "_law_bags" = true) (k16:PySem.W.keepIn K (.ref f16) = true)
    (a17:PySem.W.nsIn K mainGlobals "_law_fewest" = some (some (.ref f17))) (l17:K.lookup f17 = some ⟨oc17,od17,.func (PySem.W.fnOf "_law_fewest" "_law_fewest" (zF (zw 19)) (zC (zw 19)) (zo (zw 19)) .none kV17 dc17 pm17 an17 cd17 ct17),sl17⟩) (c17:PySem.W.codeIn K cd17 "_law_fewest" = true) (k17:PySem.W.keepIn K (.ref f17) = true)
    (a18:PySem.W.nsIn K mainGlobals "_law_called" = some (some (.ref f18))) (l18:K.lookup f18 = some ⟨oc18,od18,.func (PySem.W.fnOf "_law_called" "_law_called" (zF (zw 20)) (zC (zw 20)) (zo (zw 20)) .none kV18 dc18 pm18 an18 cd18 ct18),sl18⟩) (c18:PySem.W.codeIn K cd18 "_law_called" = true) (k18:PySem.W.keepIn K (.ref f18) = true)
    (a19:PySem.W.nsIn K mainGlobals "_law_alike_right" = some (some (.ref f19))) (l19:K.lookup f19 = some ⟨oc19,od19,.func (PySem.W.fnOf "_law_alike_right" "_law_alike_right" (zF (zw 21)) (zC (zw 21)) (zo (zw 21)) .none kV19 dc19 pm19 an19 cd19 ct19),sl19⟩) (c19:PySem.W.codeIn K cd19 "_law_alike_right" = true) (k19:PySem.W.keepIn K (.ref f19) = true)
    (a20:PySem.W.nsIn K mainGlobals "_law_other_first_right" = some (some (.ref f20))) (l20:K.lookup f20 = some ⟨oc20,od20,.func (PySem.W.fnOf "_law_other_first_right" "_law_other_first_right" (zF (zw 22)) (zC (zw 22)) (zo (zw 22)) .none kV20 dc20 pm20 an20 cd20 ct20),sl20⟩) (c20:PySem.W.codeIn K cd20 "_law_other_first_right" = true) (k20:PySem.W.keepIn K (.ref f20) = true)
    (a21:PySem.W.nsIn K mainGlobals "_law_right" = some (some (.ref f21))) (l21:K.lookup f21 = some ⟨oc21,od21,.func (PySem.W.fnOf "_law_right" "_law_right" (zF (zw 23)) (zC (zw 23)) (zo (zw 23)) .none kV21 dc21 pm21 an21 cd21 ct21),sl21⟩) (c21:PySem.W.codeIn K cd21 "_law_right" = true) (k21:PySem.W.keepIn K (.ref f21) = true)
    (a22:PySem.W.nsIn K mainGlobals "law" = some (some (.ref f22))) (l22:K.lookup f22 = some ⟨oc22,od22,.func (PySem.W.fnOf "law" "law" (zF (zw 24)) (zC (zw 24)) (zo (zw 24)) .none kV22 dc22 pm22 an22 cd22 ct22),sl22⟩) (c22:PySem.W.codeIn K cd22 "law" = true) (k22:PySem.W.keepIn K (.ref f22) = true)
    (z_abs:PySem.W.nsIn K mainGlobals "abs" = some none)
    (z_all:PySem.W.nsIn K mainGlobals "all" = some none)
    (z_divmod:PySem.W.nsIn K mainGlobals "divmod" = some none)
    (z_enumerate:PySem.W.nsIn K mainGlobals "enumerate" = some none)
    (z_int:PySem.W.nsIn K mainGlobals "int" = some none)
    (z_isinstance:PySem.W.nsIn K mainGlobals "isinstance" = some none)
    (z_len:PySem.W.nsIn K mainGlobals "len" = some none)
    (z_list:PySem.W.nsIn K mainGlobals "list" = some none)
    (z_max:PySem.W.nsIn K mainGlobals "max" = some none)
    (z_min:PySem.W.nsIn K mainGlobals "min" = some none)
    (z_range:PySem.W.nsIn K mainGlobals "range" = some none)
    (z_str:PySem.W.nsIn K mainGlobals "str" = some none)
    (z_tuple:PySem.W.nsIn K mainGlobals "tuple" = some none)
    (z_bool:PySem.W.nsIn K mainGlobals "bool" = some none)
    (z_zip:PySem.W.nsIn K mainGlobals "zip" = some none)
    (z_sum:PySem.W.nsIn K mainGlobals "sum" = some none)
    (z_any:PySem.W.nsIn K mainGlobals "any" = some none)
    (z_repr:PySem.W.nsIn K mainGlobals "repr" = some none)
    (z_sorted:PySem.W.nsIn K mainGlobals "sorted" = some none)
    (z_dict:PySem.W.nsIn K mainGlobals "dict" = some none)
    (z_set:PySem.W.nsIn K mainGlobals "set" = some none)
    : ∃ fd:FuncData,(∀ (s:Shared) (v:Value),BindsTo s fd ⟨[v],[]⟩ [("_law_script",v)]) /\ ∀ base:Heap,K.In base -> base.Ns mainGlobals mg -> qC l.prog w K mg base CX0 8 fa fd ["_law_script"] (Q9 K):=by
  have e:=hfa.symm.trans (PySem.W.mg_of X G a22)
  cases e
  have B:Blt mg:=⟨PySem.W.mg_none_of X G z_abs,PySem.W.mg_none_of X G z_all,PySem.W.mg_none_of X G z_divmod,PySem.W.mg_none_of X G z_enumerate,PySem.W.mg_none_of X G z_int,PySem.W.mg_none_of X G z_isinstance,PySem.W.mg_none_of X G z_len,PySem.W.mg_none_of X G z_list,PySem.W.mg_none_of X G z_max,PySem.W.mg_none_of X G z_min,PySem.W.mg_none_of X G z_range,PySem.W.mg_none_of X G z_str,PySem.W.mg_none_of X G z_tuple,PySem.W.mg_none_of X G z_bool,PySem.W.mg_none_of X G z_zip,PySem.W.mg_none_of X G z_sum,PySem.W.mg_none_of X G z_any,PySem.W.mg_none_of X G z_repr,PySem.W.mg_none_of X G z_sorted,PySem.W.mg_none_of X G z_dict,PySem.W.mg_none_of X G z_set⟩
  have F0:=qc (st:=zw 1) l0 c0 k0
  have b0:=F0.binds (ps:=["needs", "at", "tip", "many"]) fun _ _ _ _ _ _ us hl=>by obtain ⟨_,_,_,_,rfl⟩:=Wa hl;rfl
  have F1:=qc (st:=zw 2) l1 c1 k1
  have b1:=F1.binds (ps:=["row", "needs", "at"]) fun _ _ _ _ _ _ us hl=>by obtain ⟨_,_,_,rfl⟩:=JC hl;rfl
  have F2:=qc (st:=zw 3) l2 c2 k2
  have b2:=F2.binds (ps:=["row", "need"]) fun _ _ _ _ _ _ us hl=>by obtain ⟨_,_,rfl⟩:=jj hl;rfl
  have F3:=qc (st:=zw 4) l3 c3 k3
  have b3:=F3.binds (ps:=["row", "needs", "at"]) fun _ _ _ _ _ _ us hl=>by obtain ⟨_,_,_,rfl⟩:=JC hl;rfl
  have F4:=qc (st:=zw 5) l4 c4 k4
  have b4:=F4.binds (ps:=["first", "needs"]) fun _ _ _ _ _ _ us hl=>by obtain ⟨_,_,rfl⟩:=jj hl;rfl
  have F5:=qc (st:=zw 6) l5 c5 k5
  have b5:=F5.binds (ps:=["first", "rows"]) fun _ _ _ _ _ _ us hl=>by obtain ⟨_,_,rfl⟩:=jj hl;rfl
  have F6:=qc (st:=zw 7) l6 c6 k6
  have b6:=F6.binds (ps:=["first", "needs"]) fun _ _ _ _ _ _ us hl=>by obtain ⟨_,_,rfl⟩:=jj hl;rfl
  have F7:=qc (st:=zw 9) l7 c7 k7
  have b7:=F7.binds (ps:=["_law_script", "_law_k"]) fun _ _ _ _ _ _ us hl=>by obtain ⟨_,_,rfl⟩:=jj hl;rfl
  have F8:=qc (st:=zw 10) l8 c8 k8
  have b8:=F8.binds (ps:=["_law_box_here", "_law_size"]) fun _ _ _ _ _ _ us hl=>by obtain ⟨_,_,rfl⟩:=jj hl;rfl
  have F9:=qc (st:=zw 11) l9 c9 k9
  have b9:=F9.binds (ps:=["_law_script", "_law_size"]) fun _ _ _ _ _ _ us hl=>by obtain ⟨_,_,rfl⟩:=jj hl;rfl
  have F10:=qc (st:=zw 12) l10 c10 k10
  have b10:=F10.binds (ps:=["_law_number", "_law_size"]) fun _ _ _ _ _ _ us hl=>by obtain ⟨_,_,rfl⟩:=jj hl;rfl
  have F11:=qc (st:=zw 13) l11 c11 k11
  have b11:=F11.binds (ps:=["_law_box_here", "_law_taken"]) fun _ _ _ _ _ _ us hl=>by obtain ⟨_,_,rfl⟩:=jj hl;rfl
  have F12:=qc (st:=zw 14) l12 c12 k12
  have b12:=F12.binds (ps:=["_law_box_here", "_law_many"]) fun _ _ _ _ _ _ us hl=>by obtain ⟨_,_,rfl⟩:=jj hl;rfl
  have F13:=qc (st:=zw 15) l13 c13 k13
  have b13:=F13.binds (ps:=["_law_box_here", "_law_some"]) fun _ _ _ _ _ _ us hl=>by obtain ⟨_,_,rfl⟩:=jj hl;rfl
  have F14:=qc (st:=zw 16) l14 c14 k14
  have b14:=F14.binds (ps:=["_law_box_here", "_law_few", "_law_most"]) fun _ _ _ _ _ _ us hl=>by obtain ⟨_,_,_,rfl⟩:=JC hl;rfl
  have F15:=qc (st:=zw 17) l15 c15 k15
  have b15:=F15.binds (ps:=["_law_first", "_law_needs_here", "_law_rows"]) fun _ _ _ _ _ _ us hl=>by obtain ⟨_,_,_,rfl⟩:=JC hl;rfl
  have F16:=qc (st:=zw 18) l16 c16 k16
  have b16:=F16.binds (ps:=["_law_tips_here", "_law_size"]) fun _ _ _ _ _ _ us hl=>by obtain ⟨_,_,rfl⟩:=jj hl;rfl
  have F17:=qc (st:=zw 19) l17 c17 k17
  have b17:=F17.binds (ps:=["_law_first", "_law_needs_here"]) fun _ _ _ _ _ _ us hl=>by obtain ⟨_,_,rfl⟩:=jj hl;rfl
  have F18:=qc (st:=zw 20) l18 c18 k18
  have b18:=F18.binds (ps:=["_law_some", "_law_others"]) fun _ _ _ _ _ _ us hl=>by obtain ⟨_,_,rfl⟩:=jj hl;rfl
  have F19:=qc (st:=zw 21) l19 c19 k19
  have b19:=F19.binds (ps:=["_law_box_here", "_law_first", "_law_needs_here", "_law_many"]) fun _ _ _ _ _ _ us hl=>by obtain ⟨_,_,_,_,rfl⟩:=Wa hl;rfl
  have F20:=qc (st:=zw 22) l20 c20 k20
  have b20:=F20.binds (ps:=["_law_box_here", "_law_first", "_law_needs_here", "_law_many"]) fun _ _ _ _ _ _ us hl=>by obtain ⟨_,_,_,_,rfl⟩:=Wa hl;rfl
  have F21:=qc (st:=zw 23) l21 c21 k21
  have b21:=F21.binds (ps:=["_law_box_here"]) fun _ _ _ _ _ _ us hl=>by obtain ⟨_,rfl⟩:=zbi hl;rfl
  have F22:=qc (st:=zw 24) l22 c22 k22
  refine ⟨PySem.W.fnOf "law" "law" (zF (zw 24)) (zC (zw 24)) (zo (zw 24)) .none kV22 dc22 pm22 an22 cd22 ct22,fun s v=>.of_eq rfl,fun base _ _=>?_⟩
  have D_next_need:Dfn l.prog w K mg base "next_need" 1 ["needs", "at", "tip", "many"] (Qt):=⟨_,_,Yi F0 B,PySem.W.mg_of X G a0,k0,b0⟩
  have D_spare_heads:Dfn l.prog w K mg base "spare_heads" 2 ["row", "needs", "at"] (yE):=⟨_,_,VT F1 B D_next_need,PySem.W.mg_of X G a1,k1,b1⟩
  have D_missing_tips:Dfn l.prog w K mg base "missing_tips" 1 ["row", "need"] (Qv):=⟨_,_,Yj F2 B,PySem.W.mg_of X G a2,k2,b2⟩
  have D_next_row:Dfn l.prog w K mg base "next_row" 3 ["row", "needs", "at"] (Qu):=⟨_,_,Yh F3 B D_missing_tips D_spare_heads,PySem.W.mg_of X G a3,k3,b3⟩
  have D_bear_tips:Dfn l.prog w K mg base "bear_tips" 4 ["first", "needs"] (xQ):=⟨_,_,Yl F4 B D_next_row,PySem.W.mg_of X G a4,k4,b4⟩
  have D_changes_in:Dfn l.prog w K mg base "changes_in" 2 ["first", "rows"] (Qx):=⟨_,_,zaA F5 B,PySem.W.mg_of X G a5,k5,b5⟩
  have D_fewest_changes:Dfn l.prog w K mg base "fewest_changes" 5 ["first", "needs"] (ZD):=⟨_,_,zaz F6 B D_bear_tips D_changes_in,PySem.W.mg_of X G a6,k6,b6⟩
  have D_law_box:Dfn l.prog w K mg base "_law_box" 1 ["_law_script", "_law_k"] (Vo K):=⟨_,_,zaB F7 B,PySem.W.mg_of X G a7,k7,b7⟩
  have D_law_take:Dfn l.prog w K mg base "_law_take" 1 ["_law_box_here", "_law_size"] (jM):=⟨_,_,Yf F8 B,PySem.W.mg_of X G a8,k8,b8⟩
  have D_law_folded:Dfn l.prog w K mg base "_law_folded" 1 ["_law_script", "_law_size"] (Qw K):=⟨_,_,Yk F9 B,PySem.W.mg_of X G a9,k9,b9⟩
  have D_law_spelled:Dfn l.prog w K mg base "_law_spelled" 1 ["_law_number", "_law_size"] (yD):=⟨_,_,VS F10 B,PySem.W.mg_of X G a10,k10,b10⟩
  have D_law_name:Dfn l.prog w K mg base "_law_name" 2 ["_law_box_here", "_law_taken"] (Vm):=⟨_,_,zax F11 B D_law_take D_law_spelled,PySem.W.mg_of X G a11,k11,b11⟩
  have D_law_names:Dfn l.prog w K mg base "_law_names" 3 ["_law_box_here", "_law_many"] (vF):=⟨_,_,VY F12 B D_law_name,PySem.W.mg_of X G a12,k12,b12⟩
  have D_law_shuffled:Dfn l.prog w K mg base "_law_shuffled" 2 ["_law_box_here", "_law_some"] (Qs K):=⟨_,_,Yg F13 B D_law_take,PySem.W.mg_of X G a13,k13,b13⟩
  have D_law_needs:Dfn l.prog w K mg base "_law_needs" 4 ["_law_box_here", "_law_few", "_law_most"] (yH):=⟨_,_,VX F14 B D_law_take D_law_names,PySem.W.mg_of X G a14,k14,b14⟩
  have D_law_meets:Dfn l.prog w K mg base "_law_meets" 1 ["_law_first", "_law_needs_here", "_law_rows"] (xt K):=⟨_,_,XR F15 B,PySem.W.mg_of X G a15,k15,b15⟩
  have D_law_bags:Dfn l.prog w K mg base "_law_bags" 1 ["_law_tips_here", "_law_size"] (Qy):=⟨_,_,Ym F16 B,PySem.W.mg_of X G a16,k16,b16⟩
  have D_law_fewest:Dfn l.prog w K mg base "_law_fewest" 2 ["_law_first", "_law_needs_here"] (zag):=⟨_,_,zbh F17 B D_law_bags,PySem.W.mg_of X G a17,k17,b17⟩
  have D_law_called:Dfn l.prog w K mg base "_law_called" 1 ["_law_some", "_law_others"] (vK):=⟨_,_,XT F18 B,PySem.W.mg_of X G a18,k18,b18⟩
  have D_law_alike_right:Dfn l.prog w K mg base "_law_alike_right" 6 ["_law_box_here", "_law_first", "_law_needs_here", "_law_many"] (yI):=⟨_,_,VZ F19 B D_law_names D_law_take D_law_called D_law_shuffled D_fewest_changes D_bear_tips D_law_meets,PySem.W.mg_of X G a19,k19,b19⟩
  have D_law_other_first_right:Dfn l.prog w K mg base "_law_other_first_right" 6 ["_law_box_here", "_law_first", "_law_needs_here", "_law_many"] (yG):=⟨_,_,VW F20 B D_law_take D_fewest_changes D_bear_tips D_law_meets,PySem.W.mg_of X G a20,k20,b20⟩
  have D_law_right:Dfn l.prog w K mg base "_law_right" 7 ["_law_box_here"] (yF):=⟨_,_,VU F21 B D_law_needs D_fewest_changes D_law_alike_right D_law_other_first_right D_law_take D_bear_tips D_law_fewest,PySem.W.mg_of X G a21,k21,b21⟩
  exact zay F22 B D_law_folded D_law_box D_law_right
theorem walk {l:PySem.W.OpenLaw} {q:Program} {loose:List Str} {XP:(Str -> Option Value) -> Heap -> Prop} {YP:World -> Heap -> Prop} {d:DefRec} {K:Params -> PySem.W.Frag} (hn:l.most = some 63) (hdf:d.params.defaults = [])
    (hY:∀ (w:World) (h:Heap),YP w h -> (K w.params).In h)
    (F:∀ (w:World) (mg:Str -> Option Value) (fa:Addr) (h:Heap),(K w.params).In h -> h.Ns mainGlobals mg -> mg d.name = some (.ref fa) ->
      ∃ fd:FuncData,(∀ (s:Shared) (u:Value),BindsTo s fd ⟨[u],[]⟩ [("_law_script",u)]) /\ ∀ base:Heap,(K w.params).In base -> base.Ns mainGlobals mg -> qC l.prog w (K w.params) mg base CX0 8 fa fd ["_law_script"] (Q9 (K w.params))) :
    PySem.W.WalkO q loose XP YP l.row.toRowW d [] (fun f vs=>PySem.call f vs):=
  L2.walk_of (n:=63) (k:=8) (x:= "_law_script") (CX:=fun _=>CX0) (sp:=fun w=>Q9 (K w.params)) hn (by decide) hdf ⟨rfl,by decide,by decide,rfl⟩ hY F (fun _ _ a ns hl _ hS=>⟨a,ns,rfl,hS,hl,fun _=>rfl⟩) fun _ _ _ _ _ z=>z
end L2
open PySem PySem.W PyProof.Rows
set_option maxRecDepth 100000 in
set_option maxHeartbeats 0 in
theorem PySem.Challenge.cw_pickboard_k75_whole_fewest_changes_of_ti_holds : PySem.Challenge.rw_pickboard_k75_whole_fewest_changes_of_ti.Holds := by
  w_on;o_law;k_head;(case hw=>w_witness2)
  k_fill
  refine L2.walk (l:=PySem.Challenge.rw_pickboard_k75_whole_fewest_changes_of_ti) rfl rfl (fun w h Y=>PySem.W.kIn_of Y) ?F
  case F=>
    intro w mg fa h KX G hmg
    refine' L2.all_mk KX G hmg ?a0 ?l0 ?c0 ?k0 ?a1 ?l1 ?c1 ?k1 ?a2 ?l2 ?c2 ?k2 ?a3 ?l3 ?c3 ?k3 ?a4 ?l4 ?c4 ?k4 ?a5 ?l5 ?c5 ?k5 ?a6 ?l6 ?c6 ?k6 ?a7 ?l7 ?c7 ?k7 ?a8 ?l8 ?c8 ?k8 ?a9 ?l9 ?c9 ?k9 ?a10 ?l10 ?c10 ?k10 ?a11 ?l11 ?c11 ?k11 ?a12 ?l12 ?c12 ?k12 ?a13 ?l13 ?c13 ?k13 ?a14 ?l14 ?c14 ?k14 ?a15 ?l15 ?c15 ?k15 ?a16 ?l16 ?c16 ?k16 ?a17 ?l17 ?c17 ?k17 ?a18 ?l18 ?c18 ?k18 ?a19 ?l19 ?c19 ?k19 ?a20 ?l20 ?c20 ?k20 ?a21 ?l21 ?c21 ?k21 ?a22 ?l22 ?c22 ?k22 ?z_abs ?z_all ?z_divmod ?z_enumerate ?z_int ?z_isinstance ?z_len ?z_list ?z_max ?z_min ?z_range ?z_str ?z_tuple ?z_bool ?z_zip ?z_sum ?z_any ?z_repr ?z_sorted ?z_dict ?z_set
    (case a0=>k_is)
    (case l0=>k_is)
    (case c0=>k_is)
    (case k0=>k_is)
    (case a1=>k_is)
    (case l1=>k_is)
    (case c1=>k_is)
    (case k1=>k_is)
    (case a2=>k_is)
    (case l2=>k_is)
    (case c2=>k_is)
    (case k2=>k_is)
    (case a3=>k_is)
    (case l3=>k_is)
    (case c3=>k_is)
    (case k3=>k_is)
    (case a4=>k_is)
    (case l4=>k_is)
    (case c4=>k_is)
    (case k4=>k_is)
    (case a5=>k_is)
    (case l5=>k_is)
    (case c5=>k_is)
    (case k5=>k_is)
    (case a6=>k_is)
    (case l6=>k_is)
    (case c6=>k_is)
    (case k6=>k_is)
    (case a7=>k_is)
    (case l7=>k_is)
    (case c7=>k_is)
    (case k7=>k_is)
    (case a8=>k_is)
    (case l8=>k_is)
    (case c8=>k_is)
    (case k8=>k_is)
    (case a9=>k_is)
    (case l9=>k_is)
    (case c9=>k_is)
    (case k9=>k_is)
    (case a10=>k_is)
    (case l10=>k_is)
    (case c10=>k_is)
    (case k10=>k_is)
    (case a11=>k_is)
    (case l11=>k_is)
    (case c11=>k_is)
    (case k11=>k_is)
    (case a12=>k_is)
    (case l12=>k_is)
    (case c12=>k_is)
    (case k12=>k_is)
    (case a13=>k_is)
    (case l13=>k_is)
    (case c13=>k_is)
    (case k13=>k_is)
    (case a14=>k_is)
    (case l14=>k_is)
    (case c14=>k_is)
    (case k14=>k_is)
    (case a15=>k_is)
    (case l15=>k_is)
    (case c15=>k_is)
    (case k15=>k_is)
    (case a16=>k_is)
    (case l16=>k_is)
    (case c16=>k_is)
    (case k16=>k_is)
    (case a17=>k_is)
    (case l17=>k_is)
    (case c17=>k_is)
    (case k17=>k_is)
    (case a18=>k_is)
    (case l18=>k_is)
    (case c18=>k_is)
    (case k18=>k_is)
    (case a19=>k_is)
    (case l19=>k_is)
    (case c19=>k_is)
    (case k19=>k_is)
    (case a20=>k_is)
    (case l20=>k_is)
    (case c20=>k_is)
    (case k20=>k_is)
    (case a21=>k_is)
    (case l21=>k_is)
    (case c21=>k_is)
    (case k21=>k_is)
    (case a22=>k_is)
    (case l22=>k_is)
    (case c22=>k_is)
    (case k22=>k_is)
    (case z_abs=>k_is)
    (case z_all=>k_is)
    (case z_divmod=>k_is)
    (case z_enumerate=>k_is)
    (case z_int=>k_is)
    (case z_isinstance=>k_is)
    (case z_len=>k_is)
    (case z_list=>k_is)
    (case z_max=>k_is)
    (case z_min=>k_is)
    (case z_range=>k_is)
    (case z_str=>k_is)
    (case z_tuple=>k_is)
    (case z_bool=>k_is)
    (case z_zip=>k_is)
    (case z_sum=>k_is)
    (case z_any=>k_is)
    (case z_repr=>k_is)
    (case z_sorted=>k_is)
    (case z_dict=>k_is)
    (case z_set=>k_is)
