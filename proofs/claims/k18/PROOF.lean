import PyProof.Rows.All
import Wide.All
import OpenK.AllK
import Wide.FinOn
import Lean
import PyProof.EqAt
import PyProof.EqKinds
import PyProof.TupleCall
import PyProof.NeKinds
import PyProof.ReprRoads
import PyProof.ReprBulk
import PyProof.SumWalk
import PyProof.FString5
import PyProof.StrBlock2
import PyProof.StrBlockI
import PyProof.StrBlockH
import PyProof.StrWalks
import PyProof.StrLawsIn
import PyProof.AutoListH
import PyProof.CompUse
import PyProof.ListRange
import PyProof.CallFns
import PyProof.ListTruth
import PyProof.Rows.Range3
import PyProof.SeqI3
import KE.KRevSl
import PyProof.DictIter
import PyProof.DictWalks
import PyProof.DictCompW
import PyProof.Cells
import OpenK.KOwn
import PyProof.ExcClass3
import PyProof.ExcInit
import PyProof.ExcBaseAll.ValueError
import PyProof.ExcArgsOwn
import PyProof.ExcAttrAll.ValueError
import PyProof.Rows.SortWalk
import PyProof.Rows.SortStr
import PyProof.MeetsDict
import PyProof.DictUpdate
import PyProof.FactsAll.dict_3
import KE.KDictList
import PyProof.FactsAll.dict_4
import KE.KDictSum
import PyProof.IsiH_list
import PyProof.Rows.Exc
import KE.KDictOf
import PyProof.SetKind
import PyProof.Rows.SetFrom
import PyProof.FactsAll.set_1
import PyProof.FactsAll.set_2
import KE.KSortTup
import KE.KItemsList
import PyProof.Rows.SortRev
import PyProof.Rows.StrCase
import PyProof.Rows.StrLen
import KE.KPairComp
import KE.KMinKey
import PyProof.CallStr
import PyProof.StrCalls2
import PyProof.StrLawsTight
import PyProof.FString
import PyProof.StrBlock
import PyProof.Conv_int
import KE.KUnpack
import PyProof.Rows.TupMore
import PyProof.DictItems
import PySem.Challenge.RW_pickboard_k18_parts_alone
set_option Elab.async false
set_option linter.all false
set_option maxRecDepth 100000
namespace L2
open PySem PySem.Spec PyProof.Rows
abbrev Key:=Sum Int Str
def vV:Key -> Value -> Bool
  | .inl k,v=>Value.isInt k v
  | .inr x,v=>Value.isStrOf x v
def zbw (w:World):Key -> Int
  | .inl k=>hashInt k
  | .inr x=>hashStr w x
theorem zH:∀ {k:Key} {v:Value},vV k v = true -> (∃ i t,k = Sum.inl i /\ v = Value.int i t) \/ (∃ x t,k = Sum.inr x /\ v = Value.str x t)
  | .inl i,v,h=>by
    obtain ⟨t,e⟩:=Value.isInt_shape (k:=i) (v:=v) h
    exact .inl ⟨i,t,rfl,e⟩
  | .inr x,v,h=>by
    obtain ⟨t,e⟩:=Value.isStrOf_shape (x:=x) (v:=v) h
    exact .inr ⟨x,t,rfl,e⟩
theorem JU (i:Int) (t:Tok):vV (.inl i) (.int i t) = true:=by simp [vV,Value.isInt]
theorem JT (x:Str) (t:Tok):vV (.inr x) (.str x t) = true:=by simp [vV,Value.isStrOf]
theorem zai (a b:Int):decide ((Sum.inl a:Key) = Sum.inl b) = (a == b):=by
  by_cases e:a = b
  · subst e;simp
  · have h:¬ (Sum.inl a:Key) = Sum.inl b:=fun q=>e (Sum.inl.inj q)
    rw [decide_eq_false h]
    exact (beq_eq_false_iff_ne.mpr e).symm
theorem zaf (a b:Str):decide ((Sum.inr a:Key) = Sum.inr b) = decide (a = b):=by
  by_cases e:a = b
  · subst e;simp
  · have h:¬ (Sum.inr a:Key) = Sum.inr b:=fun q=>e (Sum.inr.inj q)
    rw [decide_eq_false h,decide_eq_false e]
theorem zah (a:Int) (b:Str):decide ((Sum.inl a:Key) = Sum.inr b) = false:=decide_eq_false (fun q=>nomatch q)
theorem zag (a:Str) (b:Int):decide ((Sum.inr a:Key) = Sum.inl b) = false:=decide_eq_false (fun q=>nomatch q)
def zq (prog:Program) (w:World):PySem.KeyKind prog w Key where
  is:=vV
  hash:=zbw w
  inj:=fun v a b ha hb=>by
    rcases zH ha with ⟨i,t,rfl,rfl⟩ | ⟨x,t,rfl,rfl⟩
    · rcases zH hb with ⟨j,u,rfl,e⟩ | ⟨y,u,rfl,e⟩
      · injection e with e1 _;rw [e1]
      · exact nomatch e
    · rcases zH hb with ⟨j,u,rfl,e⟩ | ⟨y,u,rfl,e⟩
      · exact nomatch e
      · injection e with e1 _;rw [e1]
  byValue:=fun k v h=>by
    rcases zH h with ⟨i,t,rfl,rfl⟩ | ⟨x,t,rfl,rfl⟩ <;> rfl
  pyHash:=fun hv h=>by
    rcases zH hv with ⟨i,t,rfl,rfl⟩ | ⟨x,t,rfl,rfl⟩
    · exact wpAny_pyHash_int h
    · exact wpAny_pyHash_str h
  eqBool:=fun hu hv h=>by
    rcases zH hu with ⟨i,t,rfl,rfl⟩ | ⟨x,t,rfl,rfl⟩
    · rcases zH hv with ⟨j,u,rfl,rfl⟩ | ⟨y,u,rfl,rfl⟩
      · rw [zai] at h;exact wpAny_eqBool_int h
      · rw [zah] at h;exact SeqAt.EqAt.int_str i t y u _ _ _ _ h
    · rcases zH hv with ⟨j,u,rfl,rfl⟩ | ⟨y,u,rfl,rfl⟩
      · rw [zag] at h;exact SeqAt.EqAt.str_int x t j u _ _ _ _ h
      · rw [zaf] at h;exact wpAny_eqBool_str h
  «strs»:=fun k x t v h=>by
    rcases zH h with ⟨i,u,rfl,e⟩ | ⟨y,u,rfl,e⟩
    · exact nomatch e
    · injection e with e1 _
      subst e1
      cases v <;> rfl
theorem Qi (prog:Program) (w:World) (k:Key) (v:Value):(zq prog w).is k v = vV k v:=rfl
theorem Zt (prog:Program) (w:World) (i:Int) (t:Tok):(zq prog w).is (.inl i) (.int i t) = true:=JU i t
theorem Zs (prog:Program) (w:World) (x:Str) (t:Tok):(zq prog w).is (.inr x) (.str x t) = true:=JT x t
inductive V where
  | non | bl (b:Bool) | int (i:Int) | str (x:Str) | byt (b:Array UInt8) | flt (b:UInt64) | ref (a:Addr) | ty (n:String)
  deriving DecidableEq
def RelV:V -> Value -> Prop
  | .non,u=>u = Value.none
  | .bl b,u=>u = Value.bool b
  | .int i,u=>∃ t,u = Value.int i t
  | .str x,u=>∃ t,u = Value.str x t
  | .byt b,u=>∃ t,u = Value.bytes b t
  | .flt b,u=>∃ t,u = Value.float b t
  | .ref a,u=>u = Value.ref a
  | .ty n,u=>u = Value.type n
abbrev Vals:List V -> List Value -> Prop:=Paired RelV
theorem Vals.length {xs:List V} {us:List Value} (r:Vals xs us):xs.length = us.length:=Paired.length r
theorem Vals.get:∀ {xs:List V} {us:List Value} {i:Nat} {x:V},Vals xs us -> xs[i]? = some x -> ∃ u,us[i]? = some u /\ RelV x u
  | _,_,_,_,.nil,e=>by simp at e
  | _,_,0,_,.cons r _,e=>by simp at e;subst e;exact ⟨_,rfl,r⟩
  | _,_,i + 1,x,.cons _ t,e=>by
    obtain ⟨u,h1,h2⟩:=Vals.get (i:=i) (x:=x) t (by simpa using e)
    exact ⟨u,by simpa using h1,h2⟩
theorem Vals.set {x:V} {u:Value} (r:RelV x u):∀ {xs:List V} {us:List Value} (i:Nat),Vals xs us -> Vals (xs.set i x) (us.set i u)
  | _,_,_,.nil=>.nil
  | _,_,0,.cons _ t=>.cons r t
  | _,_,i + 1,.cons q t=>.cons q (Vals.set r i t)
theorem Vals.append:∀ {xs ys:List V} {us ws:List Value},Vals xs us -> Vals ys ws -> Vals (xs ++ ys) (us ++ ws)
  | _,_,_,_,.nil,s=>s
  | _,_,_,_,.cons r t,s=>.cons r (Vals.append t s)
theorem Vals.take:∀ {xs:List V} {us:List Value} (n:Nat),Vals xs us -> Vals (xs.take n) (us.take n)
  | _,_,0,_=>.nil
  | _,_,_ + 1,.nil=>.nil
  | _,_,n + 1,.cons r t=>.cons r (Vals.take n t)
theorem Vals.drop:∀ {xs:List V} {us:List Value} (n:Nat),Vals xs us -> Vals (xs.drop n) (us.drop n)
  | _,_,0,r=>r
  | _,_,_ + 1,.nil=>.nil
  | _,_,n + 1,.cons _ t=>Vals.drop n t
theorem Vals.none_of:∀ {xs:List V} {us:List Value} {i:Nat},Vals xs us -> xs[i]? = none -> us[i]? = none:=fun {xs us i} r e=>by
  have h1:=r.length
  have h2:xs.length <= i:=List.getElem?_eq_none_iff.mp e
  exact List.getElem?_eq_none_iff.mpr (by omega)
def RelO:Option V -> Option Value -> Prop
  | some v,some u=>RelV v u
  | none,none=>True
  | _,_=>False
def KV {κ:Type}:List (κ × V) -> List (κ × Value) -> Prop:=Paired fun (p:κ × V) (q:κ × Value)=>p.1 = q.1 /\ RelV p.2 q.2
def kV:Key -> V
  | .inl i=>.int i
  | .inr x=>.str x
inductive HO where
    | lst (xs:List V)
    | tup (xs:List V)
    | dK (kvs:List (Key × V)) | dT (kvs:List (List Key × V))
    | set (S:Int -> Bool) (n:Nat)
    | ins (C dx:Addr) (fs:List (Str × V))
    | own (x:Addr)
    | xd (fs:List (Str × V))
    | met (f x:Addr)
    | rng (lo hi:Int)
    | frz (o:Obj) (u:HO)
    | tbl (ps:Array Value)
    | ext (φ:Heap -> Prop)
abbrev Hp:=Addr -> Option HO
def upd (H:Hp) (a:Addr) (o:HO):Hp:=fun b=>if b = a then some o else H b
theorem zc {H:Hp} {a:Addr} {o:HO}:upd H a o a = some o:=by unfold upd;rw [if_pos rfl]
theorem zi {H:Hp} {a b:Addr} {o:HO} (h:b ≠ a):upd H a o b = H b:=by unfold upd;rw [if_neg h]
theorem QX {H:Hp} {a b:Addr} {o u:HO} (h:H a = some o) (h':H b = some u) (d:o ≠ u):a ≠ b:=by
  intro e;subst e;rw [h] at h';exact d (Option.some.inj h')
theorem zg {H:Hp} {a b:Addr} {o:HO} (h:H a = some o) (h':H b = none):a ≠ b:=by
  intro e;subst e;rw [h] at h';cases h'
section
variable (P:Program) (w:World)
def TupX (h:Heap) (a:Addr) (its:Array Value):Prop:=IsTup h a its /\ ∃ o,h.get? a = some o /\ o.dict = none
theorem TupX.by {h:Heap} {a:Addr} {its:Array Value} {n:Nat} (e:h.get? a = some { cls:=.type "tuple",data:=.seq its n }):TupX h a its:=⟨⟨_,e,rfl,n,rfl⟩,_,e,rfl⟩
def ObjOk (H:Hp) (h:Heap) (a:Addr):HO -> Prop
  | .lst xs=>xs.length <= sizeLine /\ ∃ (its:List Value) (n:Nat),Vals xs its /\ h.get? a = some { cls:=.type "list",data:=.seq its.toArray n }
  | .tup xs=>xs.length <= sizeLine /\ ∃ its:List Value,Vals xs its /\ TupX h a its.toArray
  | .dK kvs=>kvs.length <= sizeLine /\ (a == sysModules) = false /\ ∃ vs,KV kvs vs /\ h.DictOf (zq P w) a vs
  | .dT kvs=>kvs.length <= sizeLine /\ (a == sysModules) = false /\ ∃ xs:List (List Key × Addr × Value),
      Paired (fun (p:List Key × V) (q:List Key × Addr × Value)=>p.1 = q.1 /\ H q.2.1 = some (.tup (p.1.map kV)) /\ RelV p.2 q.2.2) kvs xs /\
      ∃ o es ep,h.get? a = some o /\ o.ExactDict /\ o.data = .dict es ep /\ es.toList = xs.map (entryOfKey (tupleKind (zq P w))) /\ (xs.map (·.1)).Nodup
  | .set S n=>h.SetOf (intKind P w) a S n
  | .ins C dx fs=>H dx = some (.own a) /\ fs.length <= 1000 /\ dx ≠ a /\ h.get? a = some (PySem.W.instObj C dx) /\
      ∃ mA,h.Ns1 dx mA /\ (∀ f,RelO (fs.lookup f) (mA f)) /\ PySem.Within mA (fs.map (·.1))
  | .own _=>∃ o,h.get? a = some o
  | .xd fs=>∃ mA,h.Ns1 a mA /\ ∀ f,RelO (fs.lookup f) (mA f)
  | .rng lo hi=>∃ t u v,h.get? a = some { cls:=.type "range",data:=.fields #[.int lo t,.int hi u,.int 1 v] }
  | .frz o u=>h.get? a = some o /\ ObjOk H h a u
  | .tbl ps=>h.get? a = some { cls:=.none,data:=.fields ps }
  | .met f x=>h.get? a = some (PySem.W.methodObj (.ref f) (.ref x))
  | .ext φ=>φ h /\ (∃ o,h.get? a = some o) /\ ∀ h1 h2:Heap,φ h1 -> (∀ o,h1.get? a = some o -> h2.get? a = some o) -> φ h2
def HOk (H:Hp) (h:Heap):Prop:=∀ a o,H a = some o -> ObjOk P w H h a o
end
section
variable {P:Program} {w:World} {H H':Hp} {h h':Heap} {a:Addr} {o:HO}
theorem ObjOk.lt (x:ObjOk P w H h a o):a < h.objs.size:=by
  cases o with
  | lst xs=>obtain ⟨_,_,_,_,e⟩:=x;exact Heap.lt_size e
  | tup xs=>obtain ⟨_,_,_,p⟩:=x;exact p.1.lt
  | dK kvs=>obtain ⟨_,_,_,_,o,_,_,e,_⟩:=x;exact Heap.lt_size e
  | dT kvs=>obtain ⟨_,_,_,_,o,_,_,e,_⟩:=x;exact Heap.lt_size e
  | set S n=>obtain ⟨o,_,_,_,e,_⟩:=x;exact Heap.lt_size e
  | ins C dx fs=>obtain ⟨_,_,_,e,_⟩:=x;exact Heap.lt_size e
  | own y=>obtain ⟨_,e⟩:=x;exact Heap.lt_size e
  | xd fs=>obtain ⟨_,⟨_,_,_,e,_⟩,_⟩:=x;exact Heap.lt_size e
  | rng lo hi=>obtain ⟨_,_,_,e⟩:=x;exact Heap.lt_size e
  | frz ob u=>obtain ⟨e,_⟩:=x;exact Heap.lt_size e
  | tbl ps=>exact Heap.lt_size (show h.get? a = some _ from x)
  | met f y=>exact Heap.lt_size (show h.get? a = some _ from x)
  | ext φ=>obtain ⟨_,⟨_,e⟩,_⟩:=x;exact Heap.lt_size e
theorem Paired.mapP {α β:Type} {F G:α -> β -> Prop}:∀ {l₁:List α} {l₂:List β},Paired F l₁ l₂ -> (∀ a b,F a b -> G a b) -> Paired G l₁ l₂
  | _,_,.nil,_=>.nil
  | _,_,.cons r t,f=>.cons (f _ _ r) (Paired.mapP t f)
theorem ObjOk.stay (x:ObjOk P w H h a o) (k:∀ b u,(b = a \/ H b = some (.own a)) -> h.get? b = some u -> h'.get? b = some u)
    (ho:∀ b,H b = some (.own a) -> H' b = some (.own a)) (ht:∀ b xs,H b = some (.tup xs) -> H' b = some (.tup xs)):ObjOk P w H' h' a o:=by
  induction o with
  | lst xs=>obtain ⟨z,its,n,r,e⟩:=x;exact ⟨z,its,n,r,k _ _ (.inl rfl) e⟩
  | tup xs=>obtain ⟨z,its,r,⟨ob,e,c⟩,o2,e2,dn⟩:=x;exact ⟨z,its,r,⟨ob,k _ _ (.inl rfl) e,c⟩,o2,k _ _ (.inl rfl) e2,dn⟩
  | dK kvs=>obtain ⟨z,y,vs,r,ob,es,ep,e,c⟩:=x;exact ⟨z,y,vs,r,ob,es,ep,k _ _ (.inl rfl) e,c⟩
  | dT kvs=>
    obtain ⟨z,y,xs,r,ob,es,ep,e,c⟩:=x
    exact ⟨z,y,xs,Paired.mapP r fun p q z=>⟨z.1,ht _ _ z.2.1,z.2.2⟩,ob,es,ep,k _ _ (.inl rfl) e,c⟩
  | set S n=>obtain ⟨ob,es,ep,t,e,c⟩:=x;exact ⟨ob,es,ep,t,k _ _ (.inl rfl) e,c⟩
  | ins C dx fs=>
    obtain ⟨d,z,ne,e,mA,⟨od,es,ep,e2,c⟩,r⟩:=x
    exact ⟨ho _ d,z,ne,k _ _ (.inl rfl) e,mA,⟨od,es,ep,k _ _ (.inr d) e2,c⟩,r⟩
  | own y=>obtain ⟨ob,e⟩:=x;exact ⟨ob,k _ _ (.inl rfl) e⟩
  | xd fs=>obtain ⟨mA,⟨od,es,ep,e,c⟩,r⟩:=x;exact ⟨mA,⟨od,es,ep,k _ _ (.inl rfl) e,c⟩,r⟩
  | rng lo hi=>obtain ⟨t,u,v,e⟩:=x;exact ⟨t,u,v,k _ _ (.inl rfl) e⟩
  | frz ob u ih=>obtain ⟨e,q⟩:=x;exact ⟨k _ _ (.inl rfl) e,ih q⟩
  | tbl ps=>
    have e:h.get? a = some { cls:=.none,data:=.fields ps }:=x
    show h'.get? a = some { cls:=.none,data:=.fields ps }
    exact k a _ (.inl rfl) e
  | met f y=>
    have e:h.get? a = some (PySem.W.methodObj (.ref f) (.ref y)):=x
    show h'.get? a = some (PySem.W.methodObj (.ref f) (.ref y))
    exact k a _ (.inl rfl) e
  | ext φ=>obtain ⟨p,⟨o,e⟩,st⟩:=x;exact ⟨st _ _ p fun o q=>k _ _ (.inl rfl) q,⟨o,k _ _ (.inl rfl) e⟩,st⟩
theorem HOk.lt (x:HOk P w H h) (e:H a = some o):a < h.objs.size:=(x a o e).lt
theorem HOk.fresh (x:HOk P w H h) (e:h.objs.size <= a):H a = none:=by
  cases q:H a with
  | none=>rfl
  | some u=>exact absurd (Nat.lt_of_lt_of_le (x.lt q) e) (Nat.lt_irrefl _)
theorem HOk.kept (x:HOk P w H h) (k:∀ b u,h.get? b = some u -> h'.get? b = some u):HOk P w H h':=fun a o e=>
  (x a o e).stay (fun b u _ q=>k b u q) (fun _ q=>q) fun _ _ q=>q
theorem HOk.laid (x:HOk P w H h) (k:∀ b u,h.get? b = some u -> h'.get? b = some u) (hp:h.objs.size <= a) (new:ObjOk P w (upd H a o) h' a o):HOk P w (upd H a o) h':=fun b u e=>by
  have hn:=x.fresh hp
  by_cases hb:b = a
  · subst hb;rw [zc] at e;cases e;exact new
  · rw [zi hb] at e
    exact (x b u e).stay (fun c v _ q=>k c v q) (fun c q=>by rw [zi (zg q hn)];exact q) fun c xs q=>by rw [zi (zg q hn)];exact q
end
def Rd (H:Hp) (a:Addr) (u:HO):Prop:=H a = some u \/ ∃ o,H a = some (.frz o u)
theorem Rd.of {H:Hp} {a:Addr} {u:HO} (h:H a = some u):Rd H a u:=.inl h
theorem Rd.ok {P:Program} {w:World} {H:Hp} {h:Heap} {a:Addr} {u:HO} (r:Rd H a u) (x:HOk P w H h):ObjOk P w H h a u:=by
  rcases r with r | ⟨o,r⟩
  · exact x a u r
  · obtain ⟨_,q⟩:=x a _ r
    exact q
def Mut:Option HO -> Prop
  | some (.lst _)=>True
  | some (.dK _)=>True
  | some (.dT _)=>True
  | some (.set _ _)=>True
  | some (.ins _ _ _)=>True
  | some (.ext _)=>True
  | _=>False
section
variable {P:Program} {w:World} {H:Hp} {h h':Heap} {x e:Addr} {o':HO}
theorem HOk.write (ok:HOk P w H h) (mu:Mut (H x)) (he:e = x \/ H e = some (.own x)) (k:∀ b u,b ≠ e -> h.get? b = some u -> h'.get? b = some u) (heo:∃ u,h'.get? e = some u)
    (new:ObjOk P w (upd H x o') h' x o'):HOk P w (upd H x o') h':=fun b u q=>by
  have nown:∀ c y,H c = some (.own y) -> c ≠ x:=fun c y r z=>by subst z;rw [r] at mu;exact mu
  have ntup:∀ c xs,H c = some (.tup xs) -> c ≠ x:=fun c xs r z=>by subst z;rw [r] at mu;exact mu
  by_cases hb:b = x
  · subst hb;rw [zc] at q;cases q;exact new
  · rw [zi hb] at q
    by_cases hbe:b = e
    · have q':H b = some (.own x):=by
        rcases he with z | z
        · exact absurd (hbe.trans z) hb
        · rw [hbe];exact z
      rw [q] at q';cases q'
      obtain ⟨v,hv⟩:=heo
      exact ⟨v,by rw [hbe];exact hv⟩
    · refine (ok b u q).stay (fun c v hc r=>k c v ?_ r) (fun c r=>by rw [zi (nown c b r)];exact r) fun c xs r=>by rw [zi (ntup c xs r)];exact r
      rcases hc with rfl | hc
      · exact hbe
      · rintro rfl
        rcases he with z | z
        · exact nown c b hc z
        · rw [hc] at z;cases z;exact hb rfl
end
structure Un (fs ex:List Addr) (H H':Hp) (h h':Heap):Prop where
  keep:∀ b o,h.get? b = some o -> H b = none -> b ∉ fs -> b ∉ ex -> h'.get? b = some o
  slot:∀ b o,h.get? b = some o -> H b = none -> b ∈ fs -> b ∉ ex -> ∃ sl,h'.get? b = some { o with slots:=sl }
  free:∀ b o,h.get? b = some o -> H b = none -> b ∉ ex -> H' b = none
  there:∀ b o,h.get? b = some o -> b ∉ ex -> ∃ o',h'.get? b = some o'
  tups:∀ b xs,H b = some (.tup xs) -> H' b = some (.tup xs)
  frzs:∀ b o u,H b = some (.frz o u) -> H' b = some (.frz o u)
  tbls:∀ b ps,H b = some (.tbl ps) -> ∃ more,H' b = some (.tbl (ps ++ more))
section
variable {fs fs' ex ex':List Addr} {H H1 H2:Hp} {h h1 h2 h':Heap} {a x e:Addr} {o:HO}
theorem Un.any (u:Un fs ex H H1 h h1) {b:Addr} {ob:Obj} (q:h.get? b = some ob) (n:H b = none) (hx:b ∉ ex):∃ sl,h1.get? b = some { ob with slots:=sl }:=by
  by_cases hb:b ∈ fs
  · exact u.slot b ob q n hb hx
  · exact ⟨ob.slots,u.keep b ob q n hb hx⟩
theorem Un.trans (a:Un fs ex H H1 h h1) (b:Un fs ex H1 H2 h1 h2):Un fs ex H H2 h h2 where
  keep:=fun c ob q n hc hx=>b.keep c ob (a.keep c ob q n hc hx) (a.free c ob q n hx) hc hx
  slot:=fun c ob q n hc hx=>by
    obtain ⟨sl,e1⟩:=a.slot c ob q n hc hx
    obtain ⟨sl',e2⟩:=b.slot c _ e1 (a.free c ob q n hx) hc hx
    exact ⟨sl',e2⟩
  free:=fun c ob q n hx=>by
    obtain ⟨o',e1⟩:=a.there c ob q hx
    exact b.free c o' e1 (a.free c ob q n hx) hx
  there:=fun c ob q hx=>by
    obtain ⟨o',e1⟩:=a.there c ob q hx
    exact b.there c o' e1 hx
  tups:=fun c xs q=>b.tups c xs (a.tups c xs q)
  frzs:=fun c ob xs q=>b.frzs c ob xs (a.frzs c ob xs q)
  tbls:=fun c ps q=>by
    obtain ⟨m1,e1⟩:=a.tbls c ps q
    obtain ⟨m2,e2⟩:=b.tbls c _ e1
    exact ⟨m1 ++ m2,by rw [e2,Array.append_assoc]⟩
theorem Un.kept (k:∀ b u,h.get? b = some u -> h'.get? b = some u):Un fs ex H H h h':=
  ⟨fun b ob q _ _ _=>k b ob q,fun b ob q _ _ _=>⟨ob.slots,k b ob q⟩,fun _ _ _ n _=>n,fun b ob q _=>⟨ob,k b ob q⟩,fun _ _ q=>q,fun _ _ _ q=>q,fun _ ps q=>⟨#[],by rw [q];simp⟩⟩
theorem Un.refl:Un fs ex H H h h:=Un.kept fun _ _ q=>q
theorem Un.laid (k:∀ b u,h.get? b = some u -> h'.get? b = some u) (hp:h.objs.size <= a) (hn:H a = none):Un fs ex H (upd H a o) h h' where
  keep:=fun b u q _ _ _=>k b u q
  slot:=fun b u q _ _ _=>⟨u.slots,k b u q⟩
  free:=fun b u q n _=>by rw [zi (Nat.ne_of_lt (Nat.lt_of_lt_of_le (Heap.lt_size q) hp))];exact n
  there:=fun b u q _=>⟨u,k b u q⟩
  tups:=fun b xs q=>by rw [zi (zg q hn)];exact q
  frzs:=fun b u xs q=>by rw [zi (zg q hn)];exact q
  tbls:=fun b ps q=>⟨#[],by rw [zi (zg q hn),q];simp⟩
theorem Un.write (mu:Mut (H x)) (he:e = x \/ H e = some (.own x)) (k:∀ b u,b ≠ e -> h.get? b = some u -> h'.get? b = some u) (heo:∃ u,h'.get? e = some u):Un fs ex H (upd H x o) h h':=by
  have hx:∀ b,H b = none -> b ≠ x:=fun b n z=>by subst z;rw [n] at mu;exact mu
  have hb:∀ b,H b = none -> b ≠ e:=fun b n z=>by
    subst z
    rcases he with r | r
    · exact hx b n r
    · rw [n] at r;cases r
  have hm:∀ b u,H b = some u -> ¬ Mut (some u) -> b ≠ x:=fun b u q nm z=>by subst z;rw [q] at mu;exact nm mu
  refine ⟨fun b u q n _ _=>k b u (hb b n) q,fun b u q n _ _=>⟨u.slots,k b u (hb b n) q⟩,fun b u q n _=>by rw [zi (hx b n)];exact n,fun b u q _=>?_,
    fun b xs q=>by rw [zi (hm b _ q fun z=>z)];exact q,fun b u xs q=>by rw [zi (hm b _ q fun z=>z)];exact q,fun b ps q=>⟨#[],by rw [zi (hm b _ q fun z=>z),q];simp⟩⟩
  by_cases hbe:b = e
  · subst hbe;exact heo
  · exact ⟨u,k b u hbe q⟩
theorem Un.mono (u:Un fs ex H H1 h h1) (hs:∀ b ∈ fs,b ∈ fs') (hx:∀ b ∈ ex,b ∈ ex'):Un fs' ex' H H1 h h1:=
  ⟨fun b ob q n hb he=>u.keep b ob q n (fun z=>hb (hs b z)) fun z=>he (hx b z),fun _ _ q n _ he=>u.any q n fun z=>he (hx _ z),fun b ob q n he=>u.free b ob q n fun z=>he (hx b z),fun b ob q he=>u.there b ob q fun z=>he (hx b z),u.tups,u.frzs,u.tbls⟩
end
def trk (h:Heap) (H:Hp):List Addr:=(List.range h.objs.size).filter fun a=>(H a).isSome
def yI (h:Heap) (H:Hp):Heap:=PySem.W.hideAll h (trk h H)
theorem JX (h:Heap) (H:Hp):(yI h H).objs.size = h.objs.size:=PySem.W.hideAll_size _ _
theorem VD {h:Heap} {H:Hp} {b:Addr} {o:Obj} (e:h.get? b = some o) (n:H b = none):(yI h H).get? b = some o:=
  PySem.W.hideAll_get _ e fun hm=>by
    have q:(H b).isSome = true:=(List.mem_filter.mp hm).2
    rw [n] at q;simp at q
theorem WB {h:Heap} {H:Hp} {b:Addr} {o:Obj} (e:(yI h H).get? b = some o):h.get? b = some o /\ H b = none:=by
  have e':h.get? b = some o:=PySem.W.of_hideAll (trk h H) e
  refine ⟨e',?_⟩
  cases q:H b with
  | none=>rfl
  | some x=>
    have hm:b ∈ trk h H:=List.mem_filter.mpr ⟨List.mem_range.mpr (Heap.lt_size e'),by simp [q]⟩
    have z:(yI h H).get? b = none:=PySem.W.hideAll_none (trk h H) hm
    rw [z] at e;cases e
def W1 (g h:Heap) (L:Addr):List (Addr × Obj):=(List.range h.objs.size).filterMap fun a=>if a = L \/ (g.get? a).isSome = true then none else (h.get? a).map fun o=>(a,o)
def jd (g h:Heap) (L d:Addr):List (Addr × Obj):=(W1 g h L).filter fun p=>decide (p.1 ≠ d)
structure Mod (K:PySem.W.Frag) (mg:Str -> Option Value) (base:Heap):Prop where
  kin:K.In base
  glob:base.Ns mainGlobals mg
  blt:∃ mb,base.Ns builtinsNs mb /\ ∀ x:Str,x ≠ "__name__" -> mb x = bootBuiltins x
  nolimit:base.NoLimit
structure Cx where
  prog:Program
  w:World
  K:PySem.W.Frag
  mg:Str -> Option Value
  base:Heap
  A:Around
  N:List Str
  s₀:Shared
  H₀:Hp
  env:Env
  outer:List Env
  stack:List Env
  ex:List Addr
  fn:Str -> Bool
  calm:Bool
  pn:List (Addr × Obj)
  xe:Value -> Shared -> Prop
def frs (l:List Env):List Addr:=l.filterMap (·.frame)
abbrev Cx.fs (X:Cx):List Addr:=frs X.outer
def Vis (sc:Scope) (x:Str):Prop:=sc.names.lookup x = some .local \/ sc.names.lookup x = some .cell \/ sc.names.lookup x = some .free
def Loc (sc:Scope) (x:Str):Prop:=sc.names.lookup x = some .local \/ sc.names.lookup x = some .cell
def zbE (env:Env) (h:Heap) (m:Str -> Option Value) (x:Str) (u:Value):Prop:=
  (env.kindOf x = some .local /\ m x = some u) \/ ((env.kindOf x = some .cell \/ env.kindOf x = some .free) /\ ∃ c,env.cells.lookup x = some c /\ h.IsCell c (some u))
structure Cx.Ok (X:Cx):Prop where
  mod:Mod X.K X.mg X.base
  kind:X.env.scope.kind = .function
  glob:X.env.globals = mainGlobals
  blt:X.env.builtins = builtinsNs
  above:X.s₀.heap.objs.size <= X.env.locals
  inj:∀ x y c,X.env.cells.lookup x = some c -> X.env.cells.lookup y = some c -> x = y
  has:∀ x,(X.env.kindOf x = some .cell \/ X.env.kindOf x = some .free) -> ∃ c,X.env.cells.lookup x = some c
  cab:∀ x c,X.fn x = true -> X.env.cells.lookup x = some c -> X.s₀.heap.objs.size <= c
  hd:X.calm = true -> X.A.handled = none
  frames:X.A.frames = some X.stack
  stk:X.stack = X.outer \/ (X.stack = X.env :: X.outer /\ X.env.frame = some X.env.locals)
  exf:∀ b ∈ X.ex,b ≠ X.env.locals /\ ∀ x c,X.env.cells.lookup x = some c -> c ≠ b
  bs:∀ b o,X.base.get? b = some o -> X.s₀.heap.get? b = some o /\ X.H₀ b = none
  bsz:X.base.objs.size <= X.s₀.heap.objs.size
  noex:∀ b o,X.base.get? b = some o -> b ∉ X.ex
  exfs:∀ b ∈ X.ex,b ∉ X.fs
  funs:X.s₀.heap.FunFrames X.base X.outer
  frf:∀ b ∈ X.fs,X.H₀ b = none
structure Inv (X:Cx) (pins:List (Addr × Obj)) (σ:List (Option V)) (H:Hp) (s:Shared):Prop where
  ok:X.Ok
  os:s.os = X.s₀.os
  bare:AllBare s.gens
  base:Un X.fs X.ex X.H₀ H X.s₀.heap s.heap
  loc:∃ m,s.heap.Ns X.env.locals m /\ ∀ (i:Nat) (x:Str) (v:V),X.N[i]? = some x -> σ[i]? = some (some v) -> Vis X.env.scope x -> ∃ u,RelV v u /\ zbE X.env s.heap m x u
  cell:∀ x c,X.env.cells.lookup x = some c -> ∃ v,s.heap.IsCell c v
  free:H X.env.locals = none
  freeC:∀ x c,X.env.cells.lookup x = some c -> H c = none
  pin:∀ p ∈ X.pn ++ pins,s.heap.get? p.1 = some p.2 /\ H p.1 = none /\ p.1 ≠ X.env.locals /\ p.1 ∉ X.fs /\ ∀ v,p.2.data ≠ .cell v
  hok:HOk X.prog X.w H s.heap
  len:σ.length = X.N.length
section
variable {X:Cx} {pins:List (Addr × Obj)} {σ:List (Option V)} {H H':Hp} {s:Shared} {h':Heap}
theorem Cx.Ok.nofr (ok:X.Ok) {b:Addr} {o:Obj} (e:X.base.get? b = some o):b ∉ X.fs:=fun hb=>by
  have:=(ok.funs.mem hb).1
  rw [e] at this;cases this
theorem Inv.bs (I:Inv X pins σ H s):∀ b o,X.base.get? b = some o -> s.heap.get? b = some o /\ H b = none:=fun b o e=>
  ⟨I.base.keep b o (I.ok.bs b o e).1 (I.ok.bs b o e).2 (I.ok.nofr e) (I.ok.noex b o e),I.base.free b o (I.ok.bs b o e).1 (I.ok.bs b o e).2 (I.ok.noex b o e)⟩
theorem Inv.bk (I:Inv X pins σ H s):∀ b o,X.base.get? b = some o -> s.heap.get? b = some o:=fun b o e=>(I.bs b o e).1
theorem Inv.mod (I:Inv X pins σ H s):Mod X.K X.mg X.base:=I.ok.mod
theorem Inv.kIn (I:Inv X pins σ H s):X.K.In s.heap:=I.ok.mod.kin.keeps I.bk
theorem Inv.nolimit (I:Inv X pins σ H s):s.heap.NoLimit:=I.ok.mod.nolimit.keeps I.bk
theorem Inv.fr (I:Inv X pins σ H s):∃ m,Fr X.base X.env.locals s.heap m:=
  let ⟨m,hn,_⟩:=I.loc
  ⟨m,hn,I.bk,Nat.le_trans I.ok.bsz I.ok.above⟩
theorem Inv.lt (I:Inv X pins σ H s):X.env.locals < s.heap.objs.size:=let ⟨_,hn,_⟩:=I.loc;hn.lt
theorem Inv.sz (I:Inv X pins σ H s):X.s₀.heap.objs.size <= s.heap.objs.size:=Nat.le_trans I.ok.above (Nat.le_of_lt I.lt)
theorem Inv.nofs (I:Inv X pins σ H s) {a:Addr} (h:s.heap.objs.size <= a):a ∉ X.fs:=fun hb=>by
  obtain ⟨_,o,ho,_⟩:=I.ok.funs.mem hb
  exact absurd (Nat.lt_of_lt_of_le (Heap.lt_size ho) (Nat.le_trans I.sz h)) (Nat.lt_irrefl _)
theorem Inv.cne (I:Inv X pins σ H s):∀ x c,X.env.cells.lookup x = some c -> c ≠ X.env.locals:=fun x c e z=>by
  obtain ⟨v,o,ho,hd⟩:=I.cell x c e
  obtain ⟨m,⟨o',es,ep,ho',hd',_⟩,_⟩:=I.loc
  rw [z,ho'] at ho;cases ho;rw [hd'] at hd;cases hd
theorem Inv.funs (I:Inv X pins σ H s):s.heap.FunFrames X.base X.outer:=by
  have all:∀ (l:List Env),(∀ b ∈ frs l,b ∈ X.fs) -> X.s₀.heap.FunFrames X.base l -> s.heap.FunFrames X.base l:=by
    intro l
    induction l with
    | nil=>intro _ _;trivial
    | cons env r ih=>
      intro hs hl
      obtain ⟨hk,⟨L,o,hf,hn,ho,hd⟩,hr⟩:=hl
      have hL:L ∈ X.fs:=hs L (by unfold frs;rw [List.filterMap_cons,hf];exact List.mem_cons_self)
      obtain ⟨sl,e⟩:=I.base.slot L o ho (I.ok.frf L hL) hL fun z=>I.ok.exfs L z hL
      exact ⟨hk,⟨L,_,hf,hn,e,hd⟩,ih (fun b hb=>hs b (by unfold frs;rw [List.filterMap_cons,hf];exact List.mem_cons_of_mem _ hb)) hr⟩
  exact all X.outer (fun _ hb=>hb) I.ok.funs
theorem Inv.stack (I:Inv X pins σ H s):s.heap.FunFrames X.base X.stack:=by
  rcases I.ok.stk with e | ⟨e,hf⟩
  · rw [e];exact I.funs
  · rw [e]
    obtain ⟨m,hn,_⟩:=I.loc
    refine .cons (by rw [I.ok.kind];decide) hf hn ?_ I.funs
    exact Heap.get?_none_of_le (Nat.le_trans I.ok.bsz I.ok.above)
theorem Inv.stkSub (I:Inv X pins σ H s):∀ b ∈ frs X.stack,b ∈ X.env.locals :: X.fs:=fun b hb=>by
  rcases I.ok.stk with e | ⟨e,hf⟩
  · rw [e] at hb;exact List.mem_cons_of_mem _ hb
  · rw [e] at hb
    unfold frs at hb
    rw [List.filterMap_cons,hf] at hb
    exact hb
theorem Inv.stkFree (I:Inv X pins σ H s):∀ b ∈ frs X.stack,H b = none:=fun b hb=>by
  rcases List.mem_cons.mp (I.stkSub b hb) with e | hb
  · rw [e];exact I.free
  · obtain ⟨_,o,ho,_⟩:=I.ok.funs.mem hb
    exact I.base.free b o ho (I.ok.frf b hb) fun z=>I.ok.exfs b z hb
theorem Inv.step {g':Array GenState} {t':Nat} {d':Drawn} {ch:List Addr} (I:Inv X pins σ H s)
    (hch:∀ b ∈ ch,(b ∈ X.ex \/ X.s₀.heap.objs.size <= b) /\ b ≠ X.env.locals /\ (∀ x c,X.env.cells.lookup x = some c -> c ≠ b) /\ ∀ p ∈ X.pn ++ pins,p.1 ≠ b)
    (keep:∀ b o,b ≠ X.env.locals -> b ∉ X.fs -> b ∉ ch -> s.heap.get? b = some o -> H b = none -> h'.get? b = some o)
    (slot:∀ b o,b ≠ X.env.locals -> b ∈ X.fs -> b ∉ ch -> s.heap.get? b = some o -> H b = none -> ∃ sl,h'.get? b = some { o with slots:=sl }) (free:∀ b o,b ∉ ch -> s.heap.get? b = some o -> H b = none -> H' b = none)
    (there:∀ b o,b ∉ ch -> s.heap.get? b = some o -> ∃ o',h'.get? b = some o')
    (tups:∀ b xs,H b = some (.tup xs) -> H' b = some (.tup xs)) (frzs:∀ b o u,H b = some (.frz o u) -> H' b = some (.frz o u)) (tbls:∀ b ps,H b = some (.tbl ps) -> ∃ more,H' b = some (.tbl (ps ++ more)))
    (ns:∀ m,s.heap.Ns X.env.locals m -> h'.Ns X.env.locals m) (hok:HOk X.prog X.w H' h') (hg:AllBare g') :
    Inv X pins σ H' { s with heap:=h',gens:=g',drawn:=d',toks:=t' }:=by
  have neL:∀ b o,X.s₀.heap.get? b = some o -> b ≠ X.env.locals:=fun b o e=>Nat.ne_of_lt (Nat.lt_of_lt_of_le (Heap.lt_size e) I.ok.above)
  have neC:∀ b o,X.s₀.heap.get? b = some o -> b ∉ X.ex -> b ∉ ch:=fun b o e hx hb=>by
    rcases (hch b hb).1 with z | z
    · exact hx z
    · exact absurd (Nat.lt_of_lt_of_le (Heap.lt_size e) z) (Nat.lt_irrefl _)
  have cellK:∀ x c,X.env.cells.lookup x = some c -> ∀ v,s.heap.IsCell c v -> h'.IsCell c v:=fun x c e v ⟨o,ho,hd⟩=>by
    have nch:c ∉ ch:=fun z=>(hch c z).2.2.1 x c e rfl
    by_cases hc:c ∈ X.fs
    · obtain ⟨sl,q⟩:=slot c o (I.cne x c e) hc nch ho (I.freeC x c e)
      exact ⟨_,q,hd⟩
    · exact ⟨o,keep c o (I.cne x c e) hc nch ho (I.freeC x c e),hd⟩
  refine ⟨I.ok,I.os,hg,⟨fun b o e n hb hx=>?_,fun b o e n hb hx=>?_,fun b o e n hx=>?_,fun b o e hx=>?_,fun b xs e=>tups b xs (I.base.tups b xs e),fun b o xs e=>frzs b o xs (I.base.frzs b o xs e),fun b ps e=>?_⟩,?_,fun x c e=>?_,?_,fun x c e=>?_,fun p hp=>?_,hok,I.len⟩
  · exact keep b o (neL b o e) hb (neC b o e hx) (I.base.keep b o e n hb hx) (I.base.free b o e n hx)
  · obtain ⟨sl,e1⟩:=I.base.slot b o e n hb hx
    obtain ⟨sl',e2⟩:=slot b _ (neL b o e) hb (neC b o e hx) e1 (I.base.free b o e n hx)
    exact ⟨sl',e2⟩
  · obtain ⟨o',e1⟩:=I.base.there b o e hx
    exact free b o' (neC b o e hx) e1 (I.base.free b o e n hx)
  · obtain ⟨o',e1⟩:=I.base.there b o e hx
    exact there b o' (neC b o e hx) e1
  · obtain ⟨m1,e1⟩:=I.base.tbls b ps e
    obtain ⟨m2,e2⟩:=tbls b _ e1
    exact ⟨m1 ++ m2,by rw [e2,Array.append_assoc]⟩
  · obtain ⟨m,hn,hl⟩:=I.loc
    refine ⟨m,ns m hn,fun i x v e1 e2 e3=>?_⟩
    obtain ⟨u,r,l⟩:=hl i x v e1 e2 e3
    refine ⟨u,r,?_⟩
    rcases l with l | ⟨k,c,e,z⟩
    · exact .inl l
    · exact .inr ⟨k,c,e,cellK x c e _ z⟩
  · obtain ⟨v,z⟩:=I.cell x c e
    exact ⟨v,cellK x c e v z⟩
  · obtain ⟨m,⟨o,_,_,ho,_⟩,_⟩:=I.loc
    exact free _ o (fun z=>(hch _ z).2.1 rfl) ho I.free
  · obtain ⟨v,o,ho,hd⟩:=I.cell x c e
    exact free c o (fun z=>(hch c z).2.2.1 x c e rfl) ho (I.freeC x c e)
  · obtain ⟨e,n,ne,nf,d⟩:=I.pin p hp
    have nch:p.1 ∉ ch:=fun z=>(hch p.1 z).2.2.2 p hp rfl
    exact ⟨keep p.1 p.2 ne nf nch e n,free p.1 p.2 nch e n,ne,nf,d⟩
theorem Inv.un {t':Nat} (I:Inv X pins σ H s) (u:Un X.fs [] H H' s.heap h') (hok:HOk X.prog X.w H' h'):Inv X pins σ H' { s with heap:=h',toks:=t' }:=by
  obtain ⟨m,⟨o,es,ep,ho,r⟩,_⟩:=id I.loc
  obtain ⟨sl,hL⟩:=u.any ho I.free (by simp)
  exact I.step (g':=s.gens) (d':=s.drawn) (ch:=[]) (fun _ z=>nomatch z) (fun b o _ hb _ e n=>u.keep b o e n hb (by simp)) (fun b o _ hb _ e n=>u.slot b o e n hb (by simp)) (fun b o _ e n=>u.free b o e n (by simp)) (fun b o _ e=>u.there b o e (by simp)) u.tups u.frzs u.tbls (fun m' hm=>by
    obtain ⟨o',es',ep',ho',r'⟩:=hm
    rw [ho] at ho';cases ho'
    exact ⟨_,es',ep',hL,r'⟩) hok I.bare
theorem Inv.call {g':Array GenState} {t':Nat} {d':Drawn} {ch:List Addr} (I:Inv X pins σ H s) (u:Un (frs X.stack) ch H H' s.heap h') (hok:HOk X.prog X.w H' h') (hg:AllBare g')
    (hch:∀ b ∈ ch,(b ∈ X.ex \/ X.s₀.heap.objs.size <= b) /\ b ≠ X.env.locals /\ (∀ x c,X.env.cells.lookup x = some c -> c ≠ b) /\ ∀ p ∈ X.pn ++ pins,p.1 ≠ b) :
    Inv X pins σ H' { s with heap:=h',gens:=g',drawn:=d',toks:=t' }:=by
  obtain ⟨m,⟨o,es,ep,ho,r⟩,_⟩:=id I.loc
  obtain ⟨sl,hL⟩:=u.any ho I.free fun z=>(hch _ z).2.1 rfl
  exact I.step (ch:=ch) hch (fun b o hL hb hc e n=>u.keep b o e n (fun z=>(List.mem_cons.mp (I.stkSub b z)).elim hL hb) hc) (fun b o _ _ hc e n=>u.any e n hc) (fun b o hc e n=>u.free b o e n hc) (fun b o hc e=>u.there b o e hc) u.tups u.frzs u.tbls (fun m' hm=>by
    obtain ⟨o',es',ep',ho',r'⟩:=hm
    rw [ho] at ho';cases ho'
    exact ⟨_,es',ep',hL,r'⟩) hok hg
theorem Inv.turned {t':Nat} {it:Addr} (I:Inv X pins σ H s) (k:∀ b o,b ≠ it -> s.heap.get? b = some o -> h'.get? b = some o) (hn:H it = none) (hL:it ≠ X.env.locals)
    (h1:it ∈ X.ex \/ X.s₀.heap.objs.size <= it) (h2:∀ x c,X.env.cells.lookup x = some c -> c ≠ it) (h3:∀ p ∈ X.pn ++ pins,p.1 ≠ it):Inv X pins σ H { s with heap:=h',toks:=t' }:=by
  have nit:∀ b u,H b = some u -> b ≠ it:=fun b u e z=>by rw [z,hn] at e;cases e
  refine I.step (g':=s.gens) (d':=s.drawn) (ch:=[it]) (fun b hb=>?_) (fun b o _ _ hc e _=>k b o (fun z=>hc (by simp [z])) e) (fun b o _ _ hc e _=>⟨o.slots,k b o (fun z=>hc (by simp [z])) e⟩) (fun _ _ _ _ n=>n)
    (fun b o hc e=>⟨o,k b o (fun z=>hc (by simp [z])) e⟩) (fun _ _ e=>e) (fun _ _ _ e=>e) (fun b ps e=>⟨#[],by rw [e];simp⟩) (fun m hm=>?_) (fun b u e=>?_) I.bare
  · have e:b = it:=by simpa using hb
    subst e
    exact ⟨h1,hL,h2,h3⟩
  · obtain ⟨o,es,ep,ho,r⟩:=hm
    exact ⟨o,es,ep,k _ o (Ne.symm hL) ho,r⟩
  · refine (I.hok b u e).stay (fun c v hc q=>k c v ?_ q) (fun _ q=>q) fun _ _ q=>q
    rcases hc with z | z
    · rw [z];exact nit b u e
    · exact nit c _ z
theorem Inv.tok (I:Inv X pins σ H s) (t:Nat):Inv X pins σ H { s with toks:=t }:=I.un (h':=s.heap) (t':=t) Un.refl I.hok
theorem Inv.kept {t':Nat} (I:Inv X pins σ H s) (k:∀ b u,s.heap.get? b = some u -> h'.get? b = some u):Inv X pins σ H { s with heap:=h',toks:=t' }:=I.un (Un.kept k) (I.hok.kept k)
theorem Inv.laid {a:Addr} {o:HO} {t':Nat} (I:Inv X pins σ H s) (k:∀ b u,s.heap.get? b = some u -> h'.get? b = some u) (hp:s.heap.objs.size <= a) (new:ObjOk X.prog X.w (upd H a o) h' a o) :
    Inv X pins σ (upd H a o) { s with heap:=h',toks:=t' }:=I.un (Un.laid k hp (I.hok.fresh hp)) (I.hok.laid k hp new)
theorem Inv.write {x e:Addr} {o:HO} {t':Nat} (I:Inv X pins σ H s) (mu:Mut (H x)) (he:e = x \/ H e = some (.own x)) (k:∀ b u,b ≠ e -> s.heap.get? b = some u -> h'.get? b = some u) (heo:∃ u,h'.get? e = some u)
    (new:ObjOk X.prog X.w (upd H x o) h' x o):Inv X pins σ (upd H x o) { s with heap:=h',toks:=t' }:=I.un (Un.write mu he k heo) (I.hok.write mu he k heo new)
theorem Inv.weak {σ':List (Option V)} (I:Inv X pins σ H s) (hl:σ'.length = σ.length) (w:∀ (i:Nat) v,σ'[i]? = some (some v) -> σ[i]? = some (some v)):Inv X pins σ' H s:=
  ⟨I.ok,I.os,I.bare,I.base,let ⟨m,hn,hl'⟩:=I.loc;⟨m,hn,fun i x v e1 e2 e3=>hl' i x v e1 (w i v e2) e3⟩,I.cell,I.free,I.freeC,I.pin,I.hok,hl.trans I.len⟩
theorem Inv.pins_of {pins':List (Addr × Obj)} (I:Inv X pins σ H s) (h:∀ p ∈ pins',s.heap.get? p.1 = some p.2 /\ H p.1 = none /\ p.1 ≠ X.env.locals /\ p.1 ∉ X.fs /\ ∀ v,p.2.data ≠ .cell v):Inv X pins' σ H s:=
  ⟨I.ok,I.os,I.bare,I.base,I.loc,I.cell,I.free,I.freeC,fun p hp=>(List.mem_append.mp hp).elim (fun z=>I.pin p (List.mem_append_left _ z)) (h p),I.hok,I.len⟩
theorem Zp {N:List Str} (hN:N.Nodup) {i j:Nat} {x:Str} (a:N[i]? = some x) (b:N[j]? = some x):i = j:=by
  obtain ⟨h1,e1⟩:=List.getElem?_eq_some_iff.mp a
  obtain ⟨h2,e2⟩:=List.getElem?_eq_some_iff.mp b
  exact (List.getElem_inj hN).mp (e1.trans e2.symm)
theorem JC {M:Model} {A:Around} {E:Value -> Shared -> Prop} {i:Nat} {x:Str} {v:V} {u:Value} {Q:Unit -> Shared -> Prop} (I:Inv X pins σ H s) (hN:X.N.Nodup) (hi:X.N[i]? = some x) (hx:Loc X.env.scope x) (r:RelV v u)
    (h:∀ s',Inv X pins (σ.set i (some v)) H s' -> (∃ a,Heap.SameBut a s.heap s'.heap /\ (a = X.env.locals \/ X.env.cells.lookup x = some a)) -> Q () s') (hf:X.fn x = true \/ X.env.scope.names.lookup x = some .local:=by first | exact .inl rfl | exact .inr rfl | assumption):wpAny M A (storeName X.env x u) Q E s:=by
  obtain ⟨m,hn,hl⟩:=id I.loc
  have hcls:(X.env.scope.kind == .class || (X.env.scope.kind == .module && X.env.locals != X.env.globals)) = false:=by rw [I.ok.kind];rfl
  have hiσ:i < σ.length:=by rw [I.len];exact (List.getElem?_eq_some_iff.mp hi).1
  have cne:=I.cne
  have tracked:∀ {a:Addr} {h':Heap},(∃ o,s.heap.get? a = some o /\ H a = none) -> Heap.SameBut a s.heap h' -> HOk X.prog X.w H h':=fun {a h'} ha hs b ob e=>by
    obtain ⟨_,_,hfree⟩:=ha
    refine (I.hok b ob e).stay (fun c w' hc q=>(hs.2 c ?_).trans q) (fun _ q=>q) fun _ _ q=>q
    rintro rfl
    rcases hc with rfl | hc
    · rw [hfree] at e;cases e
    · rw [hfree] at hc;cases hc
  rcases hx with hk | hk
  · refine wpAny_storeName_local hk hn (fun h' hn' hs=>?_) hcls
    obtain ⟨oL,_,_,hoL,_⟩:=id hn
    refine h _ ⟨I.ok,I.os,I.bare,⟨fun b o e n hb hx=>?_,fun b o e n hb hx=>?_,I.base.free,fun b o e hx=>?_,I.base.tups,I.base.frzs,I.base.tbls⟩,⟨_,hn',fun j y v' e1 e2 e3=>?_⟩,fun y c e=>?_,I.free,I.freeC,fun p hp=>?_,tracked ⟨oL,hoL,I.free⟩ hs,by simpa using I.len⟩ ⟨_,hs,.inl rfl⟩
    · exact (hs.2 b (Nat.ne_of_lt (Nat.lt_of_lt_of_le (Heap.lt_size e) I.ok.above))).trans (I.base.keep b o e n hb hx)
    · obtain ⟨sl,e1⟩:=I.base.slot b o e n hb hx
      exact ⟨sl,(hs.2 b (Nat.ne_of_lt (Nat.lt_of_lt_of_le (Heap.lt_size e) I.ok.above))).trans e1⟩
    · obtain ⟨o',e1⟩:=I.base.there b o e hx
      exact ⟨o',(hs.2 b (Nat.ne_of_lt (Nat.lt_of_lt_of_le (Heap.lt_size e) I.ok.above))).trans e1⟩
    · by_cases hj:j = i
      · subst hj
        rw [hi] at e1;cases e1
        rw [List.getElem?_set_self hiσ] at e2
        cases e2
        exact ⟨u,r,.inl ⟨hk,by simp⟩⟩
      · rw [List.getElem?_set_ne (Ne.symm hj)] at e2
        obtain ⟨u',r',q⟩:=hl j y v' e1 e2 e3
        refine ⟨u',r',?_⟩
        rcases q with ⟨k,e⟩ | ⟨k,c,e,z⟩
        · refine .inl ⟨k,?_⟩
          have:y ≠ x:=fun e=>hj (Zp hN e1 (e ▸ hi))
          simp [this,e]
        · exact .inr ⟨k,c,e,z.sameBut hs (cne y c e)⟩
    · obtain ⟨w',z⟩:=I.cell y c e
      exact ⟨w',z.sameBut hs (cne y c e)⟩
    · obtain ⟨e,n,ne,nf,d⟩:=I.pin p hp
      exact ⟨(hs.2 p.1 ne).trans e,n,ne,nf,d⟩
  · have hfn:X.fn x = true:=by
      rcases hf with z | z
      · exact z
      · rw [z] at hk;cases hk
    obtain ⟨c,hc⟩:=I.ok.has x (.inl hk)
    obtain ⟨w',z⟩:=I.cell x c hc
    refine wpAny_storeName_cell I.ok.kind hk hc z (fun h' hc' hs=>?_)
    obtain ⟨oc,hoc,hocd⟩:=id z
    refine h { s with heap:=h' } ⟨I.ok,I.os,I.bare,⟨fun b o e n hb hx=>?_,fun b o e n hb hx=>?_,I.base.free,fun b o e hx=>?_,I.base.tups,I.base.frzs,I.base.tbls⟩,⟨m,hn.sameBut hs (Ne.symm (cne x c hc)),fun j y v' e1 e2 e3=>?_⟩,fun y c' e=>?_,I.free,I.freeC,fun p hp=>?_,tracked ⟨oc,hoc,I.freeC x c hc⟩ hs,by simpa using I.len⟩ ⟨c,hs,.inr hc⟩
    · exact (hs.2 b (Nat.ne_of_lt (Nat.lt_of_lt_of_le (Heap.lt_size e) (I.ok.cab x c hfn hc)))).trans (I.base.keep b o e n hb hx)
    · obtain ⟨sl,e1⟩:=I.base.slot b o e n hb hx
      exact ⟨sl,(hs.2 b (Nat.ne_of_lt (Nat.lt_of_lt_of_le (Heap.lt_size e) (I.ok.cab x c hfn hc)))).trans e1⟩
    · obtain ⟨o',e1⟩:=I.base.there b o e hx
      exact ⟨o',(hs.2 b (Nat.ne_of_lt (Nat.lt_of_lt_of_le (Heap.lt_size e) (I.ok.cab x c hfn hc)))).trans e1⟩
    · by_cases hj:j = i
      · subst hj
        rw [hi] at e1;cases e1
        rw [List.getElem?_set_self hiσ] at e2
        cases e2
        exact ⟨u,r,.inr ⟨.inl hk,c,hc,hc'⟩⟩
      · rw [List.getElem?_set_ne (Ne.symm hj)] at e2
        obtain ⟨u',r',q⟩:=hl j y v' e1 e2 e3
        refine ⟨u',r',?_⟩
        rcases q with q | ⟨k,c',e,z'⟩
        · exact .inl q
        · refine .inr ⟨k,c',e,z'.sameBut hs ?_⟩
          rintro rfl
          exact hj (Zp hN e1 (I.ok.inj _ _ _ e hc ▸ hi))
    · by_cases hcc:c' = c
      · subst hcc;exact ⟨_,hc'⟩
      · obtain ⟨w2,z2⟩:=I.cell y c' e
        exact ⟨w2,z2.sameBut hs hcc⟩
    · obtain ⟨e,n,ne,nf,d⟩:=I.pin p hp
      refine ⟨(hs.2 p.1 ?_).trans e,n,ne,nf,d⟩
      intro q
      rw [q,hoc] at e
      have q':oc = p.2:=Option.some.inj e
      exact d w' (by rw [<- q'];exact hocd)
theorem xn {M:Model} {A:Around} {E:Value -> Shared -> Prop} {i:Nat} {x:Str} {v:V} {u:Value} {Q:Unit -> Shared -> Prop} (I:Inv X pins σ H s) (hN:X.N.Nodup) (hi:X.N[i]? = some x) (hx:Loc X.env.scope x) (r:RelV v u)
    (h:∀ s',Inv X pins (σ.set i (some v)) H s' -> Q () s') (hf:X.fn x = true \/ X.env.scope.names.lookup x = some .local:=by first | exact .inl rfl | exact .inr rfl | assumption):wpAny M A (storeName X.env x u) Q E s:=
  JC I hN hi hx r (fun s' I' _=>h s' I') hf
theorem Inv.call' {s':Shared} {ch:List Addr} (I:Inv X pins σ H s) (ho:s'.os = s.os) (u:Un (frs X.stack) ch H H' s.heap s'.heap) (hok:HOk X.prog X.w H' s'.heap) (hg:AllBare s'.gens)
    (hch:∀ b ∈ ch,(b ∈ X.ex \/ X.s₀.heap.objs.size <= b) /\ b ≠ X.env.locals /\ (∀ x c,X.env.cells.lookup x = some c -> c ≠ b) /\ ∀ p ∈ X.pn ++ pins,p.1 ≠ b):Inv X pins σ H' s':=by
  obtain ⟨h',g',d',t',o'⟩:=s'
  have e:o' = s.os:=ho
  subst e
  exact I.call (g':=g') (t':=t') (d':=d') u hok hg hch
end
abbrev XK:=Value -> Option Addr -> Hp -> Prop
abbrev St:=List (Option V)
abbrev VK:=V -> Hp -> Prop
abbrev TE:=St -> Hp -> VK -> Prop
abbrev TT:=St -> Hp -> (Bool -> Hp -> Prop) -> Prop
abbrev TA:=St -> Hp -> (List V -> Hp -> Prop) -> Prop
structure wK where
  nx:St -> Hp -> Prop
  rt:VK
  bk:St -> Hp -> Prop:=fun _ _=>False
  ct:St -> Hp -> Prop:=fun _ _=>False
abbrev TS:=wK -> St -> Hp -> Prop
def EP (X:Cx) (pins:List (Addr × Obj)) (σ:St) (Q:VK) (u:Value) (s':Shared):Prop:=∃ v H',Inv X pins σ H' s' /\ RelV v u /\ Q v H'
def TP (X:Cx) (pins:List (Addr × Obj)) (σ:St) (Q:Bool -> Hp -> Prop) (b:Bool) (s':Shared):Prop:=∃ H',Inv X pins σ H' s' /\ Q b H'
def AP (X:Cx) (pins:List (Addr × Obj)) (σ:St) (Q:List V -> Hp -> Prop) (us:List Value) (s':Shared):Prop:=∃ vs H',Inv X pins σ H' s' /\ Vals vs us /\ Q vs H'
def SP (X:Cx) (pins:List (Addr × Obj)) (D:wK) (f:Flow) (s':Shared):Prop:=
  match f with
  | .next=>∃ σ' H',Inv X pins σ' H' s' /\ D.nx σ' H'
  | .brk=>∃ σ' H',Inv X pins σ' H' s' /\ D.bk σ' H'
  | .cont=>∃ σ' H',Inv X pins σ' H' s' /\ D.ct σ' H'
  | .ret u=>∃ v σ' H',Inv X pins σ' H' s' /\ RelV v u /\ D.rt v H'
def PE (X:Cx) (e:Expr) (t:TE):Prop:=
  ∀ (pins:List (Addr × Obj)) (s:Shared) (σ:St) (H:Hp) (Q:VK),Inv X pins σ H s -> t σ H Q -> wpAny (model X.prog X.w) X.A (eval e X.env) (EP X pins σ Q) X.xe s
def PT (X:Cx) (e:Expr) (t:TT):Prop:=
  ∀ (pins:List (Addr × Obj)) (s:Shared) (σ:St) (H:Hp) (Q:Bool -> Hp -> Prop),Inv X pins σ H s -> t σ H Q -> wpAny (model X.prog X.w) X.A (isTrue e X.env (eval e X.env)) (TP X pins σ Q) X.xe s
def PW (X:Cx) (e:Expr) (t:TT):Prop:=
  ∀ (whole:Sem Value) (pins:List (Addr × Obj)) (s:Shared) (σ:St) (H:Hp) (Q:Bool -> Hp -> Prop),Inv X pins σ H s -> t σ H Q -> wpAny (model X.prog X.w) X.A (isTrue e X.env whole) (TP X pins σ Q) X.xe s
theorem PW.pt {X:Cx} {e:Expr} {t:TT} (h:PW X e t):PT X e t:=h _
def PA (X:Cx) (es:List Expr) (t:TA):Prop:=
  ∀ (pos:Pos) (pins:List (Addr × Obj)) (s:Shared) (σ:St) (H:Hp) (Q:List V -> Hp -> Prop),Inv X pins σ H s -> t σ H Q -> wpAny (model X.prog X.w) X.A (spliced (backTo pos (starEach es X.env))) (AP X pins σ Q) X.xe s
def PS (X:Cx) (st:Stmt) (t:TS):Prop:=
  ∀ (pins:List (Addr × Obj)) (s:Shared) (σ:St) (H:Hp) (D:wK),Inv X pins σ H s -> t D σ H -> wpAny (model X.prog X.w) X.A (exec st X.env) (SP X pins D) X.xe s
def PSs (X:Cx) (st:List Stmt) (t:TS):Prop:=
  ∀ (pins:List (Addr × Obj)) (s:Shared) (σ:St) (H:Hp) (D:wK),Inv X pins σ H s -> t D σ H -> wpAny (model X.prog X.w) X.A (execs st X.env) (SP X pins D) X.xe s
theorem thn {α:Type} {t:Sem α} {Q Q':α -> Shared -> Prop} {M:Model} {A:Around} {E:Value -> Shared -> Prop} {s:Shared} (h:wpAny M A t Q E s) (hQ:∀ a s,Q a s -> Q' a s):wpAny M A t Q' E s:=wpAny_mono h hQ fun _ _ x=>x
section
variable {X:Cx}
inductive IsB (x:V) (H:Hp) (Q:Bool -> Hp -> Prop):Prop
  | mk (c:Bool) (h:x = .bl c) (q:Q c H):IsB x H Q
inductive IsI (x:V) (H:Hp) (Q:Int -> Hp -> Prop):Prop
  | mk (i:Int) (h:x = .int i) (q:Q i H):IsI x H Q
inductive zbg (vs:List V) (H:Hp) (Q:V -> V -> Hp -> Prop):Prop
  | mk (v w:V) (h:vs = [v,w]) (q:Q v w H):zbg vs H Q
inductive YB (i:Nat) (σ:St) (H:Hp) (Q:VK):Prop
  | mk (v:_) (_:σ[i]? = some (some v)) (_:Q v H):YB i σ H Q
def tC (v:V):TE:=fun _ H Q=>Q v H
theorem YV {i:Nat} {x:Str} {pos:Pos} (hN:X.N[i]? = some x) (hv:Vis X.env.scope x) (hd:(x == ("__debug__" : Str)) = false:=by decide) (hcd:(x == ("__classdict__" : Str)) = false:=by decide):PE X (.Name x pos) (YB i):=by
  intro pins s σ H Q I h
  obtain ⟨v,e,h⟩:=h
  obtain ⟨m,hn,hl⟩:=I.loc
  obtain ⟨u,r,l⟩:=hl i x v hN e hv
  have fin:EP X pins σ Q u s:=⟨v,H,I,r,h⟩
  rcases l with ⟨hk,hm⟩ | ⟨hk,c,hc,hcell⟩
  · exact wpAny_Name (wpAny_loadName_local I.ok.kind hk hn hm fin) hd
  · rcases hk with hk | hk
    · exact wpAny_Name (wpAny_loadName_cell I.ok.kind hk hc hcell fin) hd
    · exact wpAny_Name (wpAny_loadName_free I.ok.kind hk hc hcell fin hcd) hd
theorem ze {i j pos}:PE X (.Constant (.int i) j pos) (tC (.int i)):=fun _ _ _ H _ I h=>wpAny_Constant_int ⟨.int i,H,I.tok _,⟨_,rfl⟩,h⟩
theorem Va {b j pos}:PE X (.Constant (.bool b) j pos) (tC (.bl b)):=fun _ _ _ H _ I h=>Constant_bool ⟨.bl b,H,I,rfl,h⟩
theorem YX {j pos}:PE X (.Constant .none j pos) (tC .non):=fun _ _ _ H _ I h=>Constant_none ⟨.non,H,I,rfl,h⟩
theorem X2 {x j pos}:PE X (.Constant (.str x) j pos) (tC (.str x)):=fun _ _ _ H _ I h=>Calls.Constant_str ⟨.str x,H,I.tok _,⟨_,rfl⟩,h⟩
def Gl (X:Cx) (x:Str):Prop:=X.env.kindOf x = some .globalImplicit
theorem WG {E:Value -> Shared -> Prop} {pins:List (Addr × Obj)} {s:Shared} {σ:St} {H:Hp} {x:Str} {u:Value} {pos:Pos} {Q:Value -> Shared -> Prop} (I:Inv X pins σ H s) (hg:Gl X x) (hm:X.mg x = some u) (h:Q u s)
    (hd:(x == ("__debug__" : Str)) = false:=by decide):wpAny (model X.prog X.w) X.A (eval (.Name x pos) X.env) Q E s:=
  Calls.Name_function_global I.ok.kind hg (Calls.loadGlobal_global (by rw [I.ok.glob];exact I.mod.glob.keeps I.bk) hm h) hd
theorem jw {E:Value -> Shared -> Prop} {pins:List (Addr × Obj)} {s:Shared} {σ:St} {H:Hp} {x:Str} {u:Value} {pos:Pos} {Q:Value -> Shared -> Prop} (I:Inv X pins σ H s) (hg:Gl X x) (hm:X.mg x = none) (hv:bootBuiltins x = some u) (h:Q u s)
    (hn:x ≠ "__name__" :=by decide) (hd:(x == ("__debug__" : Str)) = false:=by decide):wpAny (model X.prog X.w) X.A (eval (.Name x pos) X.env) Q E s:=by
  obtain ⟨mb,h1,h2⟩:=I.mod.blt
  exact Calls.Name_function_global I.ok.kind hg (Calls.loadGlobal_builtin (by rw [I.ok.glob];exact I.mod.glob.keeps I.bk) hm (by rw [I.ok.blt];exact h1.keeps I.bk) ((h2 x hn).trans hv) h) hd
theorem z7 {x:Str} {v:V} {u:Value} {pos:Pos} (hg:Gl X x) (hm:X.mg x = none) (hv:bootBuiltins x = some u) (r:RelV v u) (hn:x ≠ "__name__" :=by decide) (hd:(x == ("__debug__" : Str)) = false:=by decide):PE X (.Name x pos) (tC v):=
  fun _ _ _ H _ I h=>jw I hg hm hv ⟨v,H,I,r,h⟩ hn hd
variable {a b:Expr} {ta tb:TE} {pos:Pos}
def PC (X:Cx) (op:CmpOp) (a b:Expr) (t:TE):Prop:=
  ∀ (pins:List (Addr × Obj)) (s:Shared) (σ:St) (H:Hp) (Q:VK),Inv X pins σ H s -> t σ H Q ->
    wpAny (model X.prog X.w) X.A (eval a X.env) (fun v s₁=>wpAny (model X.prog X.w) X.A (eval b X.env) (fun u s₂=>wpAny (model X.prog X.w) X.A (compareOp op v u) (EP X pins σ Q) X.xe s₂) X.xe s₁) X.xe s
theorem Vk (b:Expr) {op:CmpOp} (h:op ≠ .In) (h2:op ≠ .NotIn):behindInMarks op b = false:=by
  have e1:(op == CmpOp.In) = false:=by cases op <;> first | rfl | exact absurd rfl h
  have e2:(op == CmpOp.NotIn) = false:=by cases op <;> first | rfl | exact absurd rfl h2
  cases b <;> simp [behindInMarks,e1,e2]
def tB (t:TE):TT:=fun σ H Q=>t σ H fun x H1=>IsB x H1 Q
theorem YQ {op:CmpOp} {t:TE} (h:PC X op a b t) (h1:behindInMarks op b = false:=by first | exact Vk _ (by decide) (by decide) | rfl):PT X (.Compare a [op] [b] pos) (tB t):=by
  intro pins s σ H Q I hw
  refine wpAny_isTrue_Compare1 (thn (h pins s σ H _ I hw) fun v s1 h1=>thn h1 fun u s2 h2=>thn h2 fun c s3 ⟨x,H1,I1,r1,q1⟩=>?_) h1
  obtain ⟨d,rfl,q⟩:=q1
  cases r1
  exact wpAny_truthy_bool ⟨H1,I1,q⟩
theorem xf {e:Expr} {t:TE} (h:PE X e t) (he:∀ whole,isTrue e X.env whole = (do let v <- whole;standAt e.pos;holding [v] (truthy v)):=by intro _;rfl):PT X e (tB t):=by
  intro pins s σ H Q I hw
  refine isTrue_plain (thn (h pins s σ H _ I hw) fun v s1 ⟨x,H1,I1,r1,q1⟩=>?_) (he _)
  obtain ⟨d,rfl,q⟩:=q1
  cases r1
  exact wpAny_truthy_bool ⟨H1,I1,q⟩
variable {tA tB':TT} {jd:List Expr}
def tOr (t u:TT):TT:=fun σ H Q=>t σ H fun c H1=>if c = true then Q true H1 else u σ H1 Q
def zbp (t:TT):TT:=fun σ H Q=>t σ H fun c H1=>Q (!c) H1
theorem Z4 (ha:PT X a tA):PW X (.BoolOp .Or [a] pos) tA:=by
  intro wh pins s σ H Q I h
  refine isTrue_or (thn (ha pins s σ H Q I h) fun c s1 e=>?_)
  cases c with
  | false=>exact isTrue_or_nil e
  | true=>exact e
theorem XS (ha:PT X a tA) (hb:PW X (.BoolOp .Or (b :: jd) pos) tB'):PW X (.BoolOp .Or (a :: b :: jd) pos) (tOr tA tB'):=by
  intro wh pins s σ H Q I h
  refine isTrue_or (thn (ha pins s σ H _ I h) fun c s1 ⟨H1,I1,q1⟩=>?_)
  cases c with
  | true=>exact ⟨H1,I1,q1⟩
  | false=>exact hb wh pins s1 σ H1 Q I1 q1
theorem XU (ha:PT X a tA):PT X (.UnaryOp .Not a pos) (zbp tA):=by
  intro pins s σ H Q I h
  exact isTrue_not (ha pins s σ H (fun c H1=>Q (!c) H1) I h)
def zaH (ta tb:TE):TE:=fun σ H Q=>ta σ H fun x H1=>IsB x H1 fun c H1=>if c = true then tb σ H1 Q else Q (.bl false) H1
theorem Qb {op} {t:TE} (h:PE X a t):PE X (.BoolOp op [a] pos) t:=fun pins s σ H Q I hw=>BoolOp_one (h pins s σ H Q I hw)
theorem yD (ha:PE X a ta) (hb:PE X (.BoolOp .And (b :: jd) pos) tb):PE X (.BoolOp .And (a :: b :: jd) pos) (zaH ta tb):=by
  intro pins s σ H Q I h
  refine BoolOp_and (thn (ha pins s σ H _ I h) fun v s1 ⟨x,H1,I1,r1,q1⟩=>?_)
  obtain ⟨c,rfl,q1⟩:=q1
  cases r1
  refine wpAny_truthy_bool ?_
  cases c with
  | true=>exact hb pins s1 σ H1 Q I1 q1
  | false=>exact ⟨.bl false,H1,I1,rfl,q1⟩
def tIf (t:TT) (ta tb:TE):TE:=fun σ H Q=>t σ H fun c H1=>if c = true then ta σ H1 Q else tb σ H1 Q
theorem jH {c:Expr} (hc:PT X c tA) (ha:PE X a ta) (hb:PE X b tb):PE X (.IfExp c a b pos) (tIf tA ta tb):=by
  intro pins s σ H Q I h
  refine wpAny_IfExp (thn (hc pins s σ H _ I h) fun d s1 ⟨H1,I1,q1⟩=>?_)
  cases d with
  | true=>exact ha pins s1 σ H1 Q I1 q1
  | false=>exact hb pins s1 σ H1 Q I1 q1
end
def SqL (K:PySem.W.Frag) (H:Hp) (a:Addr) (xs:List V):Prop:=
  Rd H a (.lst xs) \/
    ∃ (o:Obj) (its:Array Value) (n:Nat),K.lookup a = some o /\ o.cls = .type "list" /\ o.dict = none /\ o.data = .seq its n /\ its.size <= sizeLine /\ Vals xs its.toList
def SqT (K:PySem.W.Frag) (H:Hp) (a:Addr) (xs:List V):Prop:=
  Rd H a (.tup xs) \/
    ∃ (o:Obj) (its:Array Value) (n:Nat),K.lookup a = some o /\ o.cls = .type "tuple" /\ o.data = .seq its n /\ its.size <= sizeLine /\ Vals xs its.toList
def zbD:Value -> Option V
  | .none=>some .non
  | .bool b=>some (.bl b)
  | .int i _=>some (.int i)
  | .str x _=>some (.str x)
  | .bytes b _=>some (.byt b)
  | .float b _=>some (.flt b)
  | .ref a=>some (.ref a)
  | .type n=>some (.ty n)
  | _=>none
theorem RelV.abs {x:V} {u:Value} (r:RelV x u):zbD u = some x:=by
  cases x with
  | non=>cases r;rfl
  | bl _=>cases r;rfl
  | int _=>obtain ⟨t,rfl⟩:=r;rfl
  | str _=>obtain ⟨t,rfl⟩:=r;rfl
  | byt _=>obtain ⟨t,rfl⟩:=r;rfl
  | flt _=>obtain ⟨t,rfl⟩:=r;rfl
  | ref _=>cases r;rfl
  | ty _=>cases r;rfl
theorem RelV.inj {x y:V} {u:Value} (r:RelV x u) (q:RelV y u):x = y:=Option.some.inj (r.abs.symm.trans q.abs)
theorem Vals.inj:∀ {xs ys:List V} {us:List Value},Vals xs us -> Vals ys us -> xs = ys
  | _,_,_,.nil,.nil=>rfl
  | _,_,_,.cons r t,.cons r' t'=>by rw [r.inj r',Vals.inj t t']
section
variable {X:Cx} {pins:List (Addr × Obj)} {σ:St} {H:Hp} {s:Shared} {a:Addr} {xs ys:List V}
theorem SqL.of {K:PySem.W.Frag} (h:H a = some (.lst xs)):SqL K H a xs:=.inl (.inl h)
theorem SqT.of {K:PySem.W.Frag} (h:H a = some (.tup xs)):SqT K H a xs:=.inl (.inl h)
theorem Inv.list (I:Inv X pins σ H s) (h:SqL X.K H a xs):∃ its:List Value,Vals xs its /\ PlainL s.heap a its.toArray /\ xs.length <= sizeLine:=by
  rcases h with h | ⟨o,its,n,hk,hc,hd,hs,hz,r⟩
  · obtain ⟨z,its,n,r,e⟩:=h.ok I.hok
    exact ⟨its,r,⟨_,n,e,rfl,rfl,rfl⟩,z⟩
  · refine ⟨its.toList,r,⟨o,n,I.kIn a o hk,hc,hd,by simpa using hs⟩,?_⟩
    have e:=r.length
    simp only [Array.length_toList] at e
    omega
theorem Inv.tuple (I:Inv X pins σ H s) (h:SqT X.K H a xs):∃ its:List Value,Vals xs its /\ IsTup s.heap a its.toArray /\ xs.length <= sizeLine:=by
  rcases h with h | ⟨o,its,n,hk,hc,hs,hz,r⟩
  · obtain ⟨z,its,r,p⟩:=h.ok I.hok
    exact ⟨its,r,p.1,z⟩
  · refine ⟨its.toList,r,⟨o,I.kIn a o hk,hc,n,by simpa using hs⟩,?_⟩
    have e:=r.length
    simp only [Array.length_toList] at e
    omega
theorem Inv.list_inj (I:Inv X pins σ H s) (h:SqL X.K H a xs) (h':SqL X.K H a ys):xs = ys:=by
  obtain ⟨its,r,⟨o,n,e,_,_,d⟩,_⟩:=I.list h
  obtain ⟨its',r',⟨o',n',e',_,_,d'⟩,_⟩:=I.list h'
  rw [e] at e';cases e'
  rw [d] at d'
  injection d' with d1 _
  have:its = its':=by simpa using congrArg Array.toList d1
  subst this
  exact r.inj r'
theorem Inv.tuple_inj (I:Inv X pins σ H s) (h:SqT X.K H a xs) (h':SqT X.K H a ys):xs = ys:=by
  obtain ⟨its,r,⟨o,e,_,n,d⟩,_⟩:=I.tuple h
  obtain ⟨its',r',⟨o',e',_,n',d'⟩,_⟩:=I.tuple h'
  rw [e] at e';cases e'
  rw [d] at d'
  injection d' with d1 _
  have:its = its':=by simpa using congrArg Array.toList d1
  subst this
  exact r.inj r'
end
abbrev Cx.wish (X:Cx) (E:Value -> Shared -> Prop):Cx:={ X with xe:=E }
abbrev Cx.nox (X:Cx):Cx:=X.wish fun _ _=>False
theorem Cx.Ok.wish {X:Cx} (ok:X.Ok) (E:Value -> Shared -> Prop):(X.wish E).Ok:=
  ⟨ok.mod,ok.kind,ok.glob,ok.blt,ok.above,ok.inj,ok.has,ok.cab,ok.hd,ok.frames,ok.stk,ok.exf,ok.bs,ok.bsz,ok.noex,ok.exfs,ok.funs,ok.frf⟩
theorem Cx.Ok.unwish {X:Cx} {E:Value -> Shared -> Prop} (ok:(X.wish E).Ok):X.Ok:=
  ⟨ok.mod,ok.kind,ok.glob,ok.blt,ok.above,ok.inj,ok.has,ok.cab,ok.hd,ok.frames,ok.stk,ok.exf,ok.bs,ok.bsz,ok.noex,ok.exfs,ok.funs,ok.frf⟩
section
variable {X:Cx} {pins:List (Addr × Obj)} {σ:St} {H:Hp} {s:Shared} {E:Value -> Shared -> Prop}
theorem Inv.wish (I:Inv X pins σ H s) (E:Value -> Shared -> Prop):Inv (X.wish E) pins σ H s:=⟨I.ok.wish E,I.os,I.bare,I.base,I.loc,I.cell,I.free,I.freeC,I.pin,I.hok,I.len⟩
theorem Inv.unwish (I:Inv (X.wish E) pins σ H s):Inv X pins σ H s:=⟨I.ok.unwish,I.os,I.bare,I.base,I.loc,I.cell,I.free,I.freeC,I.pin,I.hok,I.len⟩
theorem SP.unwish {D:wK} {f:Flow} {s':Shared} (h:SP (X.wish E) pins D f s'):SP X pins D f s':=by
  cases f with
  | next=>obtain ⟨σ',H',I,q⟩:=h;exact ⟨σ',H',I.unwish,q⟩
  | brk=>obtain ⟨σ',H',I,q⟩:=h;exact ⟨σ',H',I.unwish,q⟩
  | cont=>obtain ⟨σ',H',I,q⟩:=h;exact ⟨σ',H',I.unwish,q⟩
  | ret u=>obtain ⟨v,σ',H',I,r,q⟩:=h;exact ⟨v,σ',H',I.unwish,r,q⟩
theorem PE.nox {e:Expr} {t:TE} (h:PE X.nox e t):PE X e t:=fun pins s σ H Q I hw=>
  wpAny_mono (h pins s σ H Q (I.wish _) hw) (fun _ _ ⟨v,H',I',r,q⟩=>⟨v,H',I'.unwish,r,q⟩) fun _ _ z=>False.elim z
theorem PT.nox {e:Expr} {t:TT} (h:PT X.nox e t):PT X e t:=fun pins s σ H Q I hw=>
  wpAny_mono (h pins s σ H Q (I.wish _) hw) (fun _ _ ⟨H',I',q⟩=>⟨H',I'.unwish,q⟩) fun _ _ z=>False.elim z
theorem PSs.nox {st:List Stmt} {t:TS} (h:PSs X.nox st t):PSs X st t:=fun pins s σ H D I hw=>
  wpAny_mono (h pins s σ H D (I.wish _) hw) (fun _ _ q=>q.unwish) fun _ _ z=>False.elim z
end
section
variable {X:Cx} {st:Stmt} {jd:List Stmt} {t u:TS} {e:Expr} {te:TE} {pos:Pos}
def zaA:TS:=fun D σ H=>D.nx σ H
def YC (t u:TS):TS:=fun D σ H=>t { D with nx:=u D } σ H
theorem qA:PSs X [] zaA:=fun _ _ σ H _ I h=>wpAny_execs_nil ⟨σ,H,I,h⟩
theorem zf (h1:PS X st t) (h2:PSs X jd u):PSs X (st :: jd) (YC t u):=by
  intro pins s σ H D I h
  refine wpAny_execs_cons (thn (h1 pins s σ H { D with nx:=u D } I h) fun f s1 q=>?_)
  cases f with
  | next=>
    obtain ⟨σ',H',I',q⟩:=q
    exact h2 pins s1 σ' H' D I' q
  | ret v=>exact q
  | brk=>exact q
  | cont=>exact q
theorem zm (h1:PS X st t):PSs X [st] t:=by
  intro pins s σ H D I h
  refine wpAny_execs_cons (thn (h1 pins s σ H D I h) fun f s1 q=>?_)
  cases f with
  | next=>exact wpAny_execs_nil q
  | ret v=>exact q
  | brk=>exact q
  | cont=>exact q
def zaG:TS:=fun D σ H=>D.ct σ H
theorem Zm:PS X (.Continue pos) zaG:=fun _ _ σ H _ I h=>wpAny_Continue ⟨σ,H,I,h⟩
theorem Inv.quiet {pins:List (Addr × Obj)} {σ:St} {H:Hp} {s:Shared} (I:Inv X pins σ H s):interactive X.env = false:=by simp [interactive,I.ok.kind]
def zaD (te:TE):TS:=fun D σ H=>te σ H fun _ H1=>D.nx σ H1
theorem qD (he:PE X e te) (hs:swapsWith e none pos.line X.env = pure false:=by rfl):PS X (.Expr e pos) (zaD te):=by
  intro pins s σ H D I h
  exact wpAny_Expr_any (thn (he pins s σ H _ I h) fun v s1 ⟨x,H1,I1,r1,q1⟩=>⟨σ,H1,I1,q1⟩) I.quiet hs
def zbn (te:TE):TS:=fun D σ H=>te σ H D.rt
theorem zC (he:PE X e te):PS X (.Return (some e) pos) (zbn te):=by
  intro pins s σ H D I h
  exact wpAny_Return_some (thn (he pins s σ H _ I h) fun v s1 ⟨x,H1,I1,r1,q1⟩=>⟨x,σ,H1,I1,r1,q1⟩)
def zbr (c:TT) (t u:TS):TS:=fun D σ H=>c σ H fun b H1=>if b = true then t D σ H1 else u D σ H1
theorem j5 {c:Expr} {a b:List Stmt} {tc:TT} (hc:PT X c tc) (ha:PSs X a t) (hb:PSs X b u):PS X (.If c a b pos) (zbr tc t u):=by
  intro pins s σ H D I h
  refine wpAny_If (thn (hc pins s σ H _ I h) fun d s1 ⟨H1,I1,q1⟩=>?_)
  cases d with
  | true=>exact ha pins s1 σ H1 D I1 q1
  | false=>exact hb pins s1 σ H1 D I1 q1
end
abbrev TG:=V -> St -> Hp -> (St -> Hp -> Prop) -> Prop
abbrev TGs:=List V -> St -> Hp -> (St -> Hp -> Prop) -> Prop
def PG (X:Cx) (target:Expr) (t:TG):Prop:=
  ∀ (pins:List (Addr × Obj)) (s:Shared) (σ:St) (H:Hp) (v:V) (u:Value) (Q:St -> Hp -> Prop),Inv X pins σ H s -> RelV v u -> t v σ H Q ->
    wpAny (model X.prog X.w) X.A (assign target X.env u) (fun _ s'=>∃ σ' H',Inv X pins σ' H' s' /\ Q σ' H') X.xe s
def PGs (X:Cx) (ts:List Expr) (t:TGs):Prop:=
  ∀ (pins:List (Addr × Obj)) (s:Shared) (σ:St) (H:Hp) (vs:List V) (us:List Value) (Q:St -> Hp -> Prop),Inv X pins σ H s -> Vals vs us -> t vs σ H Q ->
    wpAny (model X.prog X.w) X.A (assignInOrder ((assignEach ts X.env).map (·.2)) us) (fun _ s'=>∃ σ' H',Inv X pins σ' H' s' /\ Q σ' H') X.xe s
abbrev zas:=V -> V -> V -> Hp -> (Hp -> Prop) -> Prop
def zat (X:Cx) (t:zas):Prop:=
  ∀ (pins:List (Addr × Obj)) (s:Shared) (σ:St) (H:Hp) (o i v:V) (ov iv u:Value) (Q:Hp -> Prop),Inv X pins σ H s -> RelV o ov -> RelV i iv -> RelV v u -> t o i v H Q ->
    wpAny (model X.prog X.w) X.A (setItem ov iv u) (fun _ s'=>∃ H',Inv X pins σ H' s' /\ Q H') X.xe s
section
variable {X:Cx} {pos:Pos}
def qx (i:Nat):TG:=fun v σ H Q=>Q (σ.set i (some v)) H
theorem zt {i:Nat} {x:Str} (hN:X.N.Nodup) (hi:X.N[i]? = some x) (hx:Loc X.env.scope x) (hf:X.fn x = true \/ X.env.scope.names.lookup x = some .local:=by first | exact .inl rfl | exact .inr rfl | assumption):PG X (.Name x pos) (qx i):=by
  intro pins s σ H v u Q I r h
  exact wpAny_assign_Name (xn I hN hi hx r (fun s' I'=>⟨_,H,I',h⟩) hf)
def Qm:TGs:=fun vs σ H Q=>vs = [] /\ Q σ H
inductive qW (t:TG) (u:TGs) (vs:List V) (σ:St) (H:Hp) (Q:St -> Hp -> Prop):Prop
  | mk (v r:_) (_:vs = v :: r) (_:t v σ H fun σ' H'=>u r σ' H' Q):qW t u vs σ H Q
theorem zW:PGs X [] Qm:=by
  intro pins s σ H vs us Q I r h
  obtain ⟨e,h⟩:=h
  subst e
  cases r
  exact assignInOrder_nil ⟨σ,H,I,h⟩
theorem zw {e:Expr} {es:List Expr} {t:TG} {u:TGs} (h1:PG X e t) (h2:PGs X es u)
    (hs:(assignEach (e :: es) X.env).map (·.2) = assign e X.env :: (assignEach es X.env).map (·.2):=by rfl):PGs X (e :: es) (qW t u):=by
  intro pins s σ H vs us Q I r h
  obtain ⟨v,vr,e1,h⟩:=h
  subst e1
  cases r with
  | cons r rr=>
    rw [hs]
    refine assignInOrder_cons (thn (h1 pins s σ H _ _ _ I r h) fun _ s1 ⟨σ1,H1,I1,q1⟩=>?_)
    exact h2 pins s1 σ1 H1 _ _ Q I1 rr q1
inductive ZE (K:PySem.W.Frag) (n:Nat) (t:TGs) (v:V) (σ:St) (H:Hp) (Q:St -> Hp -> Prop):Prop
  | mk (a xs:_) (_:v = .ref a) (_:SqT K H a xs) (_:xs.length = n) (_:t xs σ H Q):ZE K n t v σ H Q
theorem z9 {es:List Expr} {k:Nat} {t:TGs} {n:Nat} (hc:X.calm = true) (h:PGs X es t)
    (hn:(assignEach es X.env).length = n:=by rfl) (hst:(assignEach es X.env).findIdx? (·.1) = none:=by rfl):PG X (.Tuple es k pos) (ZE X.K n t):=by
  intro pins s σ H v u Q I r hw
  obtain ⟨a,xs,e1,hq,hl,hw⟩:=hw
  subst e1
  cases r
  obtain ⟨its,rv,ht,hz⟩:=I.tuple hq
  refine assign_Tuple_tuple (I.ok.hd hc) ht (by simp [hn,<- hl,rv.length]) hst fun h' hx=>?_
  have I1:Inv X pins σ H { s with heap:=h' }:=I.kept (t':=s.toks) fun b o e=>hx b o (Nat.ne_of_lt (Heap.lt_size e)) e
  exact h pins _ σ H xs _ Q I1 (by simpa using rv) hw
def zbA (to ti:TE) (t:zas):TG:=fun v σ H Q=>to σ H fun o H1=>ti σ H1 fun i H2=>t o i v H2 fun H3=>Q σ H3
theorem Qa {o i:Expr} {to ti:TE} {t:zas} (ho:PE X o to) (hi:PE X i ti) (hs:zat X t)
    (ha:∀ v,assign (.Subscript o i pos) X.env v = (do
      let ov <- holding [v] (eval o X.env)
      let iv <- holding [v,ov] (eval i X.env)
      standAt pos
      holding [v,ov,iv] (setItem ov iv v)
      release [v,ov,iv] []):=by intro _;rfl):PG X (.Subscript o i pos) (zbA to ti t):=by
  intro pins s σ H v u Q I r h
  rw [ha]
  refine wpAny_bind (wpAny_holding (thn (ho pins s σ H _ I h) fun ov s1 ⟨x,H1,I1,r1,q1⟩=>?_))
  refine wpAny_bind (wpAny_holding (thn (hi pins s1 σ H1 _ I1 q1) fun iv s2 ⟨y,H2,I2,r2,q2⟩=>?_))
  refine wpAny_bind (wpAny_standAt (wpAny_bind (wpAny_holding (thn (hs pins s2 σ H2 x y v ov iv u _ I2 r1 r2 r q2) fun _ s3 ⟨H3,I3,q3⟩=>?_))))
  exact wpAny_release ⟨σ,H3,I3,q3⟩
def ZV (te:TE) (g:TG):TS:=fun D σ H=>te σ H fun x H1=>g x σ H1 D.nx
theorem yA {tg e:Expr} {te:TE} {g:TG} (he:PE X e te) (hg:PG X tg g) (hs:swapsWithSole [tg] e pos.line X.env = pure false:=by rfl) (hw:swappedStores [tg] e X.env = pure none:=by rfl)
    (h1:(assignEach [tg] X.env).map (·.2) = [assign tg X.env]:=by rfl):PS X (.Assign [tg] e pos) (ZV te g):=by
  intro pins s σ H D I h
  refine wpAny_Assign_stores (thn (he pins s σ H _ I h) fun v s1 ⟨x,H1,I1,r1,q1⟩=>?_) hs hw
  rw [h1]
  exact thn (hg pins s1 σ H1 x v _ I1 r1 q1) fun _ s2 q=>q
theorem zv {i:Nat} {x:Str} {e:Expr} {te:TE} {pos':Pos} (hN:X.N.Nodup) (hi:X.N[i]? = some x) (hx:Loc X.env.scope x) (he:PE X e te) (hs:swapsWith e (some (.Name x pos')) pos.line X.env = pure false:=by rfl) (hf:X.fn x = true \/ X.env.scope.names.lookup x = some .local:=by first | exact .inl rfl | exact .inr rfl | assumption) :
    PS X (.Assign [.Name x pos'] e pos) (ZV te (qx i)):=by
  intro pins s σ H D I h
  refine wpAny_Assign_Name (thn (he pins s σ H _ I h) fun v s1 ⟨y,H1,I1,r1,q1⟩=>?_) hs
  exact xn I1 hN hi hx r1 (fun s2 I2=>⟨_,H1,I2,q1⟩) hf
def zbo (i j:Nat) (ta:TA):TS:=fun D σ H=>ta σ H fun vs H1=>zbg vs H1 fun v w H1=>D.nx ((σ.set i (some v)).set j (some w)) H1
theorem Z5 {i j:Nat} {x y:Str} {a b:Expr} {ta:TA} {px py pt:Pos} {kt k2 pt2} (hc:X.calm = true) (hN:X.N.Nodup) (hi:X.N[i]? = some x) (hj:X.N[j]? = some y) (hij:i ≠ j)
    (hx:X.env.scope.names.lookup x = some .local) (hy:X.env.scope.names.lookup y = some .local) (ha:PA X [a,b] ta)
    (hw:swappedStores [.Tuple [.Name x px,.Name y py] kt pt] (.Tuple [a,b] k2 pt2) X.env = pure (some [x,y]))
    (hs:swapsWithSole [.Tuple [.Name x px,.Name y py] kt pt] (.Tuple [a,b] k2 pt2) pos.line X.env = pure false:=by rfl) :
    PS X (.Assign [.Tuple [.Name x px,.Name y py] kt pt] (.Tuple [a,b] k2 pt2) pos) (zbo i j ta):=by
  intro pins s σ H D I h
  rw [exec_Assign_arm]
  refine wpAny_bind (wpAny_standAt ?_)
  rw [hs]
  refine wpAny_bind (wpAny_pure ?_)
  rw [if_neg (by decide)]
  refine wpAny_bind (Tuple_ (thn (ha _ pins s σ H _ I h) fun us s1 ⟨vs,H1,I1,r1,q1⟩=>?_))
  obtain ⟨v,w,e1,q1⟩:=q1
  subst e1
  obtain ⟨u1,u2,rfl,rv,rw'⟩:∃ u1 u2,us = [u1,u2] /\ RelV v u1 /\ RelV w u2:=by
    cases r1 with
    | cons p q=>
      cases q with
      | cons p' q'=>
        cases q'
        exact ⟨_,_,rfl,p,p'⟩
  refine wpAny_newObj_type ?_ (by show 2 <= sizeLine;decide)
  have I2:Inv X pins σ H1 { s1 with heap:=s1.heap.push { cls:=.type "tuple",data:=.seq [u1,u2].toArray } }:=I1.kept (t':=s1.toks) fun b o e=>Heap.get?_push_of_some _ e
  rw [hw]
  refine wpAny_bind (wpAny_pure ?_)
  show wpAny (model X.prog X.w) X.A (do rule "assign.swapped-stores";let items <- unpackItems (.ref s1.heap.objs.size) 2 none;assignInOrder [fun v=>bindName X.env y v,fun v=>bindName X.env x v] items.reverse;pure Flow.next) _ _ _
  refine wpAny_bind (wpAny_rule (wpAny_bind (unpackItems_tuple (items:=#[u1,u2]) (I.ok.hd hc) (IsTup.new s1.heap _) fun h' hx'=>?_)))
  have I3:=I2.kept (h':=h') (t':=s1.toks) fun b o e=>hx' b o (Nat.ne_of_lt (Heap.lt_size e)) e
  show wpAny _ _ (assignInOrder [fun v=>bindName X.env y v,fun v=>bindName X.env x v] [u2,u1] >>= fun _=>pure Flow.next) _ _ _
  refine wpAny_bind (assignInOrder_cons (wpAny_bindName (xn I3 hN hj (.inl hy) rw' (fun s2 I4=>?_) (.inr hy))))
  refine assignInOrder_cons (wpAny_bindName (xn I4 hN hi (.inl hx) rv (fun s3 I5=>assignInOrder_nil (wpAny_pure ?_)) (.inr hx)))
  rw [List.set_comm _ _ (Ne.symm hij)] at I5
  exact ⟨_,H1,I5,q1⟩
end
section
variable {X:Cx} {pos:Pos}
def YA (c:TT) (tb:TS):TS:=fun D σ H=>∃ W:Nat -> St -> Hp -> Prop,(∃ m,W m σ H) /\ ∀ m σ H,W m σ H ->
  c σ H fun b H1=>if b = true then ∃ N:St -> Hp -> Prop,(∀ σ' H',N σ' H' -> ∃ m',m' < m /\ W m' σ' H') /\ tb { D with nx:=N,ct:=N,bk:=D.nx } σ H1 else D.nx σ H1
theorem XV {c:Expr} {body:List Stmt} {tc:TT} {tb:TS} (hp:PassesOwn (model X.prog X.w) X.A X.env X.xe) (hc:PT X c tc) (hb:PSs X body tb):PS X (.While c body [] pos) (YA tc tb):=by
  intro pins s σ H D I h
  obtain ⟨W,⟨m0,w0⟩,turn⟩:=h
  refine wpAny_While (codeAny_whileLoop (fun n s'=>∃ σ' H',Inv X pins σ' H' s' /\ W n σ' H') ?_ m0 ⟨σ,H,I,w0⟩)
  rintro n s1 ⟨σ1,H1,I1,w1⟩
  refine wpAny_passesOwn hp (thn (hc pins s1 σ1 H1 _ I1 (turn n σ1 H1 w1)) fun b s2 ⟨H2,I2,q2⟩=>?_)
  cases b with
  | true=>
    obtain ⟨N,hN,q2⟩:=q2
    rw [if_pos rfl]
    refine wpAny_passesOwn hp (thn (hb pins s2 σ1 H2 _ I2 q2) fun f s3 q3=>?_)
    cases f with
    | next=>
      obtain ⟨σ3,H3,I3,n3⟩:=q3
      obtain ⟨m',hm,w3⟩:=hN σ3 H3 n3
      exact ⟨m',hm,σ3,H3,I3,w3⟩
    | cont=>
      obtain ⟨σ3,H3,I3,n3⟩:=q3
      obtain ⟨m',hm,w3⟩:=hN σ3 H3 n3
      exact ⟨m',hm,σ3,H3,I3,w3⟩
    | brk=>exact q3
    | ret v=>exact q3
  | false=>
    rw [if_neg Bool.false_ne_true]
    exact wpAny_execs_nil ⟨σ1,H2,I2,q2⟩
end
structure It where
  go:Nat -> Hp -> Prop
  yld:Nat -> Hp -> V -> Hp -> Prop
  stop:Nat -> Hp -> Prop
def qu (X:Cx) (pins:List (Addr × Obj)) (H:Hp) (b:Addr):Prop:=
  H b = none /\ b ≠ X.env.locals /\ b ∉ X.fs /\ (b ∈ X.ex \/ X.s₀.heap.objs.size <= b) /\ (∀ x c,X.env.cells.lookup x = some c -> c ≠ b) /\ ∀ p ∈ X.pn ++ pins,p.1 ≠ b
theorem Inv.fpOk {X:Cx} {pins:List (Addr × Obj)} {σ:St} {H H':Hp} {s:Shared} {b:Addr} (I:Inv X pins σ H s) (hb:s.heap.objs.size <= b) (hn:H' b = none):qu X pins H' b:=by
  refine ⟨hn,Nat.ne_of_gt (Nat.lt_of_lt_of_le I.lt hb),I.nofs hb,.inr (Nat.le_trans I.sz hb),fun x c e z=>?_,fun p hp z=>?_⟩
  · obtain ⟨v,q⟩:=I.cell x c e
    exact absurd (Nat.lt_of_lt_of_le q.lt (by rw [z];exact hb)) (Nat.lt_irrefl _)
  · exact absurd (Nat.lt_of_lt_of_le (Heap.lt_size (I.pin p hp).1) (by rw [z];exact hb)) (Nat.lt_irrefl _)
structure wJ (P:Program) (w:World) (K:PySem.W.Frag) (tg:Expr) (J:It) (fp:List Addr) (it:Addr) (tn:Nat -> Heap -> Prop):Prop where
  mem:it ∈ fp
  obj:∀ i h,tn i h -> ∀ b ∈ fp,∃ o,h.get? b = some o /\ ∀ v,o.data ≠ .cell v
  keep:∀ i h h',tn i h -> (∀ b ∈ fp,∀ o,h.get? b = some o -> h'.get? b = some o) -> tn i h'
  item:∀ (X:Cx),X.prog = P -> X.w = w -> X.K = K -> X.calm = true -> ∀ (i:Nat) (pins:List (Addr × Obj)) (s:Shared) (σ:St) (H:Hp) (E:Value -> Shared -> Prop),Inv X pins σ H s -> (∀ b ∈ fp,qu X pins H b) -> tn i s.heap -> J.go i H ->
    wpAny (model P w) X.A (pyNext (.ref it)) (fun r s1=>∃ u,r = some u /\
      wpAny (model P w) X.A (letOwnedTupleGo tg (.ref it) u) (fun _ s2=>∃ x H',Inv X pins σ H' s2 /\ RelV x u /\ J.yld i H x H' /\ tn (i + 1) s2.heap /\ ∀ b ∈ fp,H' b = none) E s1) E s
  done:∀ (X:Cx),X.prog = P -> X.w = w -> X.K = K -> X.calm = true -> ∀ (i:Nat) (pins:List (Addr × Obj)) (s:Shared) (σ:St) (H:Hp) (E:Value -> Shared -> Prop),Inv X pins σ H s -> (∀ b ∈ fp,qu X pins H b) -> tn i s.heap -> J.stop i H ->
    wpAny (model P w) X.A (pyNext (.ref it)) (fun r s1=>r = none /\ Inv X pins σ H s1) E s
  self:∀ (A:Around) (i:Nat) (s:Shared) (Q:Value -> Shared -> Prop) (E:Value -> Shared -> Prop),tn i s.heap -> Q (.ref it) s -> wpAny (model P w) A (pyIter (.ref it)) Q E s
abbrev TI:=St -> Hp -> (It -> Hp -> Prop) -> Prop
def PIE (X:Cx) (pins:List (Addr × Obj)) (σ:St) (tg:Expr) (R:It -> Hp -> Prop) (itv:Value) (s2:Shared):Prop:=
  ∃ (it:Addr) (fp:List Addr) (tn:Nat -> Heap -> Prop) (J:It) (H':Hp),itv = .ref it /\ Inv X pins σ H' s2 /\ wJ X.prog X.w X.K tg J fp it tn /\ tn 0 s2.heap /\ (∀ b ∈ fp,qu X pins H' b) /\ R J H'
def PI (X:Cx) (tg iter:Expr) (wi:TI):Prop:=
  ∀ (pins:List (Addr × Obj)) (s:Shared) (σ:St) (H:Hp) (R:It -> Hp -> Prop),Inv X pins σ H s -> wi σ H R ->
    wpAny (model X.prog X.w) X.A (eval iter X.env) (fun v s1=>wpAny (model X.prog X.w) X.A (pyIter v) (PIE X pins σ tg R) X.xe s1) X.xe s
theorem Q5 {M:Model} {A:Around} {E:Value -> Shared -> Prop} {s:Shared} {tg:Expr} {it:Addr} {u:Value} {o:Obj} {n:String} {vs:Array Value} {Q:Unit -> Shared -> Prop} (ho:s.heap.get? it = some o) (hc:o.cls = .type n) (hd:o.data = .fields vs)
    (hn:["enumerate", "zip", "dict_itemiterator", "dict_reverseitemiterator", "odict_iterator", "itertools.zip_longest", "itertools.pairwise"].contains n = false) (hQ:Q () s):wpAny M A (letOwnedTupleGo tg (.ref it) u) Q E s:=by
  unfold letOwnedTupleGo
  cases tg <;> first
    | exact wpAny_pure hQ
    | (cases u <;> first
        | exact wpAny_pure hQ
        | (refine wpAny_bind (wpAny_load ho ?_)
           rw [hc,hd]
           show wpAny M A (if (["enumerate", "zip", "dict_itemiterator", "dict_reverseitemiterator", "odict_iterator", "itertools.zip_longest", "itertools.pairwise"].contains n && vs[0]? == some (rawInt _)) = true then _ else _) Q E s
           rw [if_neg (by intro h;rw [hn,Bool.false_and] at h;cases h)]
           exact wpAny_pure hQ))
def Itl (K:PySem.W.Frag) (a:Addr):It:=
  ⟨fun i H=>∃ xs x,SqL K H a xs /\ xs[i]? = some x,fun i H x H'=>H' = H /\ ∀ xs,SqL K H a xs -> xs[i]? = some x,fun i H=>∃ xs,SqL K H a xs /\ xs.length <= i⟩
def Itt (K:PySem.W.Frag) (a:Addr):It:=
  ⟨fun i H=>∃ xs x,SqT K H a xs /\ xs[i]? = some x,fun i H x H'=>H' = H /\ ∀ xs,SqT K H a xs -> xs[i]? = some x,fun i H=>∃ xs,SqT K H a xs /\ xs.length <= i⟩
def Itr (lo:Int) (n:Nat):It:=⟨fun i _=>i < n,fun i H x H'=>H' = H /\ x = .int (lo + i),fun i _=>n <= i⟩
theorem wO {P:Program} {w:World} {K:PySem.W.Frag} {tg:Expr} (a it:Addr):wJ P w K tg (Itl K a) [it] it (fun i h=>h.IsListIter it a i) where
  mem:=by simp
  obj:=fun i h st b hb=>by
    have e:b = it:=by simpa using hb
    subst e
    obtain ⟨o,e,c,d⟩:=st
    exact ⟨o,e,fun v z=>by rw [d] at z;cases z⟩
  keep:=fun i h h' st k=>st.at fun o e=>k it (by simp) o e
  item:=by
    intro X hP hw hK hc i pins s σ H E I hf st hg
    subst hP hw hK
    obtain ⟨xs,x,hq,hx⟩:=hg
    obtain ⟨its,rv,p,hz⟩:=I.list hq
    obtain ⟨u,hu,ru⟩:=rv.get hx
    obtain ⟨f0,f1,f2,f3,f4,f5⟩:=hf it (by simp)
    refine wpAny_pyNext_list_item st p.isList (x:=u) (by simpa using hu) fun h' st' sb=>?_
    have I1:Inv X pins σ H { s with heap:=h' }:=I.turned (t':=s.toks) (fun b o hb e=>(sb.2 b hb).trans e) f0 f1 f3 f4 f5
    obtain ⟨o,e,c,d⟩:=id st'
    exact ⟨u,rfl,Q5 (s:={ s with heap:=h' }) e c d (by decide) ⟨x,H,I1,ru,⟨rfl,fun ys hy=>by rw [I.list_inj hy hq];exact hx⟩,st',fun b hb=>(hf b hb).1⟩⟩
  done:=by
    intro X hP hw hK hc i pins s σ H E I hf st hg
    subst hP hw hK
    obtain ⟨xs,hq,hx⟩:=hg
    obtain ⟨its,rv,p,hz⟩:=I.list hq
    obtain ⟨f0,f1,f2,f3,f4,f5⟩:=hf it (by simp)
    have hl:=rv.length
    exact wpAny_pyNext_list_end (I.ok.hd hc) st p.isList (by simp;omega) fun h' eb=>⟨rfl,I.turned (t':=s.toks) (fun b o hb e=>eb b o hb e) f0 f1 f3 f4 f5⟩
  self:=fun _ _ _ _ _ st h=>wpAny_pyIter_listiter st h
theorem vC {P:Program} {w:World} {K:PySem.W.Frag} {tg:Expr} (a it:Addr):wJ P w K tg (Itt K a) [it] it (fun i h=>h.IsTupleIter it a i) where
  mem:=by simp
  obj:=fun i h st b hb=>by
    have e:b = it:=by simpa using hb
    subst e
    obtain ⟨o,e,c,d⟩:=st
    exact ⟨o,e,fun v z=>by rw [d] at z;cases z⟩
  keep:=fun i h h' st k=>st.at fun o e=>k it (by simp) o e
  item:=by
    intro X hP hw hK hc i pins s σ H E I hf st hg
    subst hP hw hK
    obtain ⟨xs,x,hq,hx⟩:=hg
    obtain ⟨its,rv,p,hz⟩:=I.tuple hq
    obtain ⟨u,hu,ru⟩:=rv.get hx
    obtain ⟨f0,f1,f2,f3,f4,f5⟩:=hf it (by simp)
    refine wpAny_pyNext_tuple_item st (show s.heap.IsTuple a its.toArray from p) (x:=u) (by simpa using hu) fun h' st' sb=>?_
    have I1:Inv X pins σ H { s with heap:=h' }:=I.turned (t':=s.toks) (fun b o hb e=>(sb.2 b hb).trans e) f0 f1 f3 f4 f5
    obtain ⟨o,e,c,d⟩:=id st'
    exact ⟨u,rfl,Q5 (s:={ s with heap:=h' }) e c d (by decide) ⟨x,H,I1,ru,⟨rfl,fun ys hy=>by rw [I.tuple_inj hy hq];exact hx⟩,st',fun b hb=>(hf b hb).1⟩⟩
  done:=by
    intro X hP hw hK hc i pins s σ H E I hf st hg
    subst hP hw hK
    obtain ⟨xs,hq,hx⟩:=hg
    obtain ⟨its,rv,p,hz⟩:=I.tuple hq
    obtain ⟨f0,f1,f2,f3,f4,f5⟩:=hf it (by simp)
    have hl:=rv.length
    exact wpAny_pyNext_tuple_end (I.ok.hd hc) st (show s.heap.IsTuple a its.toArray from p) (by simp;omega) fun h' eb=>⟨rfl,I.turned (t':=s.toks) (fun b o hb e=>eb b o hb e) f0 f1 f3 f4 f5⟩
  self:=fun _ _ _ _ _ st h=>wpAny_pyIter_tupleiter st h
theorem ZS {P:Program} {w:World} {K:PySem.W.Frag} {tg:Expr} (it:Addr) (lo:Int) (n:Nat):wJ P w K tg (Itr lo n) [it] it (fun i h=>IsRangeIter h it (lo + (i:Nat) * 1) ((n:Int) - (i:Nat)) 1) where
  mem:=by simp
  obj:=fun i h st b hb=>by
    have e:b = it:=by simpa using hb
    subst e
    exact ⟨_,st,fun v z=>by
      have z':Data.fields _ = Data.cell v:=z
      cases z'⟩
  keep:=fun i h h' st k=>k it (by simp) _ st
  item:=by
    intro X hP hw hK hc i pins s σ H E I hf st hg
    subst hP hw hK
    obtain ⟨f0,f1,f2,f3,f4,f5⟩:=hf it (by simp)
    have W:=Walks.range (prog:=X.prog) (w:=X.w) (I.ok.hd hc) it lo 1 n
    refine W.item i s _ _ hg st fun v h' tk hv st' kk=>?_
    obtain ⟨t,rfl⟩:=hv
    have I1:Inv X pins σ H { s with heap:=h',toks:=tk }:=I.turned (fun b o hb e=>kk b o (by simpa using hb) e) f0 f1 f3 f4 f5
    refine ⟨_,rfl,Q5 (s:={ s with heap:=h',toks:=tk }) (n:= "range_iterator") st' rfl rfl (by decide) ⟨.int (lo + i),H,I1,⟨t,?_⟩,⟨rfl,rfl⟩,st',fun b hb=>(hf b hb).1⟩⟩
    rw [Int.mul_one]
  done:=by
    intro X hP hw hK hc i pins s σ H E I hf st hg
    subst hP hw hK
    obtain ⟨f0,f1,f2,f3,f4,f5⟩:=hf it (by simp)
    exact wpAny_pyNext_range_end (I.ok.hd hc) st (by have:n <= i:=hg;omega) fun h' eb=>⟨rfl,I.turned (t':=s.toks) (fun b o hb e=>eb b o hb e) f0 f1 f3 f4 f5⟩
  self:=fun _ _ _ _ _ st h=>wpAny_pyIter_rangeiter st h
section
variable {X:Cx} {tg:Expr}
inductive InL (K:PySem.W.Frag) (x:V) (H:Hp) (R:It -> Hp -> Prop):Prop
  | mk (a:Addr) (h:x = .ref a) (e:∃ xs,SqL K H a xs) (r:R (Itl K a) H):InL K x H R
inductive InT (K:PySem.W.Frag) (x:V) (H:Hp) (R:It -> Hp -> Prop):Prop
  | mk (a:Addr) (h:x = .ref a) (e:∃ xs,SqT K H a xs) (r:R (Itt K a) H):InT K x H R
def Yv (K:PySem.W.Frag) (tl:TE):TI:=fun σ H R=>tl σ H fun x H1=>InL K x H1 R
def zby (K:PySem.W.Frag) (tl:TE):TI:=fun σ H R=>tl σ H fun x H1=>InT K x H1 R
theorem z6 {l:Expr} {tl:TE} (hl:PE X l tl):PI X tg l (Yv X.K tl):=by
  intro pins s σ H R I h
  refine thn (hl pins s σ H _ I h) fun v s1 ⟨x,H1,I1,r1,q1⟩=>?_
  obtain ⟨a,e,⟨xs,hq⟩,q⟩:=q1
  subst e
  cases r1
  obtain ⟨its,rv,p,hz⟩:=I1.list hq
  refine wpAny_pyIter_list p.isList ?_
  refine ⟨s1.heap.objs.size,[s1.heap.objs.size],_,_,H1,rfl,I1.kept (t':=s1.toks) fun b o e=>Heap.get?_push_of_some _ e,wO a _,⟨_,Heap.get?_push_size _ rfl,rfl,rfl⟩,fun b hb=>?_,q⟩
  have e:b = s1.heap.objs.size:=by simpa using hb
  subst e
  exact I1.fpOk (Nat.le_refl _) (I1.hok.fresh (Nat.le_refl _))
theorem xg {l:Expr} {tl:TE} (hl:PE X l tl):PI X tg l (zby X.K tl):=by
  intro pins s σ H R I h
  refine thn (hl pins s σ H _ I h) fun v s1 ⟨x,H1,I1,r1,q1⟩=>?_
  obtain ⟨a,e,⟨xs,hq⟩,q⟩:=q1
  subst e
  cases r1
  obtain ⟨its,rv,p,hz⟩:=I1.tuple hq
  refine wpAny_pyIter_tuple (show s1.heap.IsTuple a its.toArray from p) ?_
  refine ⟨s1.heap.objs.size,[s1.heap.objs.size],_,_,H1,rfl,I1.kept (t':=s1.toks) fun b o e=>Heap.get?_push_of_some _ e,vC a _,⟨_,Heap.get?_push_size _ rfl,rfl,rfl⟩,fun b hb=>?_,q⟩
  have e:b = s1.heap.objs.size:=by simpa using hb
  subst e
  exact I1.fpOk (Nat.le_refl _) (I1.hok.fresh (Nat.le_refl _))
theorem XN {pins:List (Addr × Obj)} {σ:St} {H:Hp} {s:Shared} {R:It -> Hp -> Prop} {E:Value -> Shared -> Prop} {lo hi:Int} {t u v:Tok} {tk:Nat} (I:Inv X pins σ H s) (h1:-(2 ^ 62) <= lo) (h2:lo < 2 ^ 62) (h3:-(2 ^ 62) <= hi) (h4:hi < 2 ^ 62)
    (q:R (Itr lo (hi - lo).toNat) H):wpAny (model X.prog X.w) X.A (pyIter (.ref s.heap.objs.size)) (PIE X pins σ tg R) E { s with heap:=s.heap.push { cls:=.type "range",data:=.fields #[.int lo t,.int hi u,.int 1 v] },toks:=tk }:=by
  refine wpAny_pyIter_range (IsRange.new ..) (small_one h1 h2 h3 h4) ?_
  have I1:Inv X pins σ H { s with heap:=s.heap.push { cls:=.type "range",data:=.fields #[.int lo t,.int hi u,.int 1 v] },toks:=tk }:=I.kept fun b o e=>Heap.get?_push_of_some _ e
  refine ⟨(s.heap.push { cls:=.type "range",data:=.fields #[.int lo t,.int hi u,.int 1 v] }).objs.size,[(s.heap.push { cls:=.type "range",data:=.fields #[.int lo t,.int hi u,.int 1 v] }).objs.size],_,_,H,rfl,
    I1.kept (t':=tk) fun b o e=>Heap.get?_push_of_some _ e,ZS _ lo (hi - lo).toNat,?_,fun b hb=>?_,q⟩
  · have e1:lo + ((0:Nat):Int) * 1 = lo:=by simp
    have e2:(((hi - lo).toNat:Nat):Int) - ((0:Nat):Int) = Builtin.Range.rangeSize lo hi 1:=by rw [rangeSize_one];split <;> omega
    show IsRangeIter _ _ (lo + ((0:Nat):Int) * 1) ((((hi - lo).toNat:Nat):Int) - ((0:Nat):Int)) 1
    rw [e1,e2]
    exact Heap.get?_push_size _ rfl
  · have e:b = (s.heap.push { cls:=.type "range",data:=.fields #[.int lo t,.int hi u,.int 1 v] }).objs.size:=by simpa using hb
    subst e
    exact I1.fpOk (Nat.le_refl _) (I1.hok.fresh (Nat.le_refl _))
inductive zbh (vs:List V) (H:Hp) (R:It -> Hp -> Prop):Prop
  | mk (j:Int) (h:vs = [.int j]) (h1:-(2 ^ 62) <= j) (h2:j < 2 ^ 62) (r:R (Itr 0 j.toNat) H):zbh vs H R
def zba (ta:TA):TI:=fun σ H R=>ta σ H fun vs H1=>zbh vs H1 R
theorem zI {a:Expr} {ta:TA} {p pos:Pos} (hg:Gl X "range") (hm:X.mg "range" = none) (ha:PA X [a] ta) (hs:starEach [a] X.env = [(false,eval a X.env)]:=by rfl):PI X tg (.Call (.Name "range" p) [a] [] pos) (zba ta):=by
  intro pins s σ H R I h
  refine Call_ (jw I hg hm boot_range (PyProof.Rows.callWith_type1 (thn (ha pos pins s σ H _ I h) fun us s1 ⟨vs,H1,I1,r1,q1⟩=>?_) hs rfl))
  obtain ⟨j,e,q1,q2,q⟩:=q1
  subst e
  cases r1 with
  | cons r rr=>
    cases rr
    obtain ⟨t,rfl⟩:=r
    exact call_range_1 (XN I1 (by omega) (by omega) q1 q2 (by simpa using q))
def zbs (wi:TI) (g:TG) (tb:TS):TS:=fun D σ H=>wi σ H fun J H1=>∃ W:Nat -> Nat -> St -> Hp -> Prop,(∃ m,W 0 m σ H1) /\ ∀ i m σ H,W i m σ H ->
  (J.stop i H /\ D.nx σ H) \/ (J.go i H /\ ∃ N:St -> Hp -> Prop,(∀ σ' H',N σ' H' -> ∃ m',m' < m /\ W (i + 1) m' σ' H') /\ ∀ x H',J.yld i H x H' -> g x σ H' fun σ2 H2=>tb { D with nx:=N,ct:=N,bk:=D.nx } σ2 H2)
def zp (fp:List Addr) (h:Heap):List (Addr × Obj):=fp.filterMap fun b=>(h.get? b).map fun o=>(b,o)
theorem zD {fp:List Addr} {h:Heap} {b:Addr} {o:Obj} (hb:b ∈ fp) (e:h.get? b = some o):(b,o) ∈ zp fp h:=List.mem_filterMap.mpr ⟨b,hb,by rw [e];rfl⟩
theorem qz {fp:List Addr} {h:Heap} {p:Addr × Obj} (hp:p ∈ zp fp h):p.1 ∈ fp /\ h.get? p.1 = some p.2:=by
  obtain ⟨b,hb,e⟩:=List.mem_filterMap.mp hp
  cases q:h.get? b with
  | none=>rw [q] at e;cases e
  | some o=>
    rw [q] at e
    have e':(b,o) = p:=Option.some.inj e
    subst e'
    exact ⟨hb,q⟩
theorem Inv.pinned {pins:List (Addr × Obj)} {σ:St} {H:Hp} {s:Shared} {fp:List Addr} (I:Inv X pins σ H s) (hf:∀ b ∈ fp,qu X pins H b) (ho:∀ b ∈ fp,∃ o,s.heap.get? b = some o /\ ∀ v,o.data ≠ .cell v):Inv X (pins ++ zp fp s.heap) σ H s:=
  I.pins_of fun p hp=>(List.mem_append.mp hp).elim (fun z=>I.pin p (List.mem_append_right _ z)) fun z=>by
    obtain ⟨hb,e⟩:=qz z
    obtain ⟨f0,f1,f2,_⟩:=hf p.1 hb
    obtain ⟨o,e',d⟩:=ho p.1 hb
    rw [e] at e';cases e'
    exact ⟨e,f0,f1,f2,d⟩
theorem Inv.unpinned {pins pl:List (Addr × Obj)} {σ:St} {H:Hp} {s:Shared} (I:Inv X (pins ++ pl) σ H s):Inv X pins σ H s:=I.pins_of fun p hp=>I.pin p (List.mem_append_right _ (List.mem_append_left _ hp))
theorem zQ {iter:Expr} {body:List Stmt} {wi:TI} {g:TG} {tb:TS} {pos:Pos} (hp:PassesOwn (model X.prog X.w) X.A X.env X.xe) (hc:X.calm = true) (hi:PI X tg iter wi) (hg:PG X tg g) (hb:PSs X body tb)
    (hs:∀ x,foldedSetIterable iter X.env x = pure x:=by intro _;rfl):PS X (.For tg iter body [] pos) (zbs wi g tb):=by
  intro pins s σ H D I h
  refine wpAny_For (thn (hi pins s σ H _ I h) fun v s1 h1=>thn h1 fun itv s2 h2=>?_) hs
  obtain ⟨it,fp,tn,J,H2,e,I2,T,st2,f2,W,⟨m0,w0⟩,turn⟩:=h2
  subst e
  have stat:∀ {H':Hp},(∀ b ∈ fp,H' b = none) -> ∀ b ∈ fp,qu X pins H' b:=fun hn b hb=>⟨hn b hb,(f2 b hb).2⟩
  refine codeAny_forLoop_any (fun n s'=>∃ i σ' H',Inv X pins σ' H' s' /\ tn i s'.heap /\ (∀ b ∈ fp,H' b = none) /\ W i n σ' H') ?_ m0 ⟨0,σ,H2,I2,st2,fun b hb=>(f2 b hb).1,w0⟩
  rintro n s3 ⟨i,σ3,H3,I3,st3,fr3,w3⟩
  rcases turn i n σ3 H3 w3 with ⟨stop,qn⟩ | ⟨go,N,hN,step⟩
  · refine wpAny_passesOwn hp (thn (T.done X rfl rfl rfl hc i pins s3 σ3 H3 X.xe I3 (stat fr3) st3 stop) fun r s4 ⟨hr,I4⟩=>?_)
    subst hr
    exact wpAny_execs_nil ⟨σ3,H3,I4,qn⟩
  · refine wpAny_passesOwn hp (thn (T.item X rfl rfl rfl hc i pins s3 σ3 H3 X.xe I3 (stat fr3) st3 go) fun r s4 ⟨u,hr,h4⟩=>?_)
    subst hr
    refine wpAny_passesOwn hp (thn h4 fun _ s5 ⟨x,H5,I5,r5,y5,st5,fr5⟩=>?_)
    have I5':=I5.pinned (stat fr5) (T.obj _ _ st5)
    refine wpAny_passesOwn hp (thn (hg _ s5 σ3 H5 x u _ I5' r5 (step x H5 y5)) fun _ s6 ⟨σ6,H6,I6,q6⟩=>?_)
    refine wpAny_passesOwn hp (thn (hb _ s6 σ6 H6 _ I6 q6) fun f s7 q7=>?_)
    have again:∀ {σ7:St} {H7:Hp},Inv X (pins ++ zp fp s5.heap) σ7 H7 s7 -> N σ7 H7 -> ∃ m,m < n /\ ∃ i σ' H',Inv X pins σ' H' s7 /\ tn i s7.heap /\ (∀ b ∈ fp,H' b = none) /\ W i m σ' H':=fun {σ7 H7} I7 n7=>by
      obtain ⟨m',hm,w7⟩:=hN σ7 H7 n7
      refine ⟨m',hm,i + 1,σ7,H7,I7.unpinned,T.keep _ _ _ st5 fun b hb o e=>(I7.pin (b,o) (List.mem_append_right _ (List.mem_append_right _ (zD hb e)))).1,fun b hb=>?_,w7⟩
      obtain ⟨o,e,d⟩:=T.obj _ _ st5 b hb
      exact (I7.pin (b,o) (List.mem_append_right _ (List.mem_append_right _ (zD hb e)))).2.1
    cases f with
    | next=>obtain ⟨σ7,H7,I7,n7⟩:=q7;exact again I7 n7
    | cont=>obtain ⟨σ7,H7,I7,n7⟩:=q7;exact again I7 n7
    | brk=>obtain ⟨σ7,H7,I7,q7⟩:=q7;exact ⟨σ7,H7,I7.unpinned,q7⟩
    | ret v=>obtain ⟨x7,σ7,H7,I7,r7,q7⟩:=q7;exact ⟨x7,σ7,H7,I7.unpinned,r7,q7⟩
end
theorem jh {K:PySem.W.Frag} {a:Addr} {xs:List V} {g:TG} {tb:TS} {D:wK} {σ:St} {H:Hp} (Pv:Nat -> St -> Hp -> Prop) (h0:Pv 0 σ H) (hl:∀ i σ H,i <= xs.length -> Pv i σ H -> SqL K H a xs)
    (hs:∀ i x σ H,xs[i]? = some x -> Pv i σ H -> g x σ H fun σ2 H2=>tb { D with nx:=Pv (i + 1),ct:=Pv (i + 1),bk:=D.nx } σ2 H2) (hd:∀ σ H,Pv xs.length σ H -> D.nx σ H) :
    ∃ W:Nat -> Nat -> St -> Hp -> Prop,(∃ m,W 0 m σ H) /\ ∀ i m σ H,W i m σ H ->
      ((Itl K a).stop i H /\ D.nx σ H) \/ ((Itl K a).go i H /\ ∃ N:St -> Hp -> Prop,(∀ σ' H',N σ' H' -> ∃ m',m' < m /\ W (i + 1) m' σ' H') /\ ∀ x H',(Itl K a).yld i H x H' -> g x σ H' fun σ2 H2=>tb { D with nx:=N,ct:=N,bk:=D.nx } σ2 H2):=by
  refine ⟨fun i m σ H=>m = xs.length - i /\ i <= xs.length /\ Pv i σ H,⟨xs.length,by simp,Nat.zero_le _,h0⟩,?_⟩
  rintro i m σ H ⟨rfl,hi,p⟩
  have q:=hl i σ H hi p
  by_cases hlt:i < xs.length
  · refine .inr ⟨⟨xs,xs[i],q,by simp [hlt]⟩,Pv (i + 1),fun σ' H' p'=>⟨xs.length - (i + 1),by omega,rfl,hlt,p'⟩,fun x H' y=>?_⟩
    obtain ⟨e,y⟩:=y
    subst e
    exact hs i x σ _ (y xs q) p
  · have e:i = xs.length:=by omega
    subst e
    exact .inl ⟨⟨xs,q,Nat.le_refl _⟩,hd σ H p⟩
theorem yK {K:PySem.W.Frag} {a:Addr} {xs:List V} {g:TG} {tb:TS} {D:wK} {σ:St} {H:Hp} (Pv:Nat -> St -> Hp -> Prop) (h0:Pv 0 σ H) (hl:∀ i σ H,i <= xs.length -> Pv i σ H -> SqT K H a xs)
    (hs:∀ i x σ H,xs[i]? = some x -> Pv i σ H -> g x σ H fun σ2 H2=>tb { D with nx:=Pv (i + 1),ct:=Pv (i + 1),bk:=D.nx } σ2 H2) (hd:∀ σ H,Pv xs.length σ H -> D.nx σ H) :
    ∃ W:Nat -> Nat -> St -> Hp -> Prop,(∃ m,W 0 m σ H) /\ ∀ i m σ H,W i m σ H ->
      ((Itt K a).stop i H /\ D.nx σ H) \/ ((Itt K a).go i H /\ ∃ N:St -> Hp -> Prop,(∀ σ' H',N σ' H' -> ∃ m',m' < m /\ W (i + 1) m' σ' H') /\ ∀ x H',(Itt K a).yld i H x H' -> g x σ H' fun σ2 H2=>tb { D with nx:=N,ct:=N,bk:=D.nx } σ2 H2):=by
  refine ⟨fun i m σ H=>m = xs.length - i /\ i <= xs.length /\ Pv i σ H,⟨xs.length,by simp,Nat.zero_le _,h0⟩,?_⟩
  rintro i m σ H ⟨rfl,hi,p⟩
  have q:=hl i σ H hi p
  by_cases hlt:i < xs.length
  · refine .inr ⟨⟨xs,xs[i],q,by simp [hlt]⟩,Pv (i + 1),fun σ' H' p'=>⟨xs.length - (i + 1),by omega,rfl,hlt,p'⟩,fun x H' y=>?_⟩
    obtain ⟨e,y⟩:=y
    subst e
    exact hs i x σ _ (y xs q) p
  · have e:i = xs.length:=by omega
    subst e
    exact .inl ⟨⟨xs,q,Nat.le_refl _⟩,hd σ H p⟩
theorem zV {lo:Int} {n:Nat} {g:TG} {tb:TS} {D:wK} {σ:St} {H:Hp} (Pv:Nat -> St -> Hp -> Prop) (h0:Pv 0 σ H)
    (hs:∀ i σ H,i < n -> Pv i σ H -> g (.int (lo + i)) σ H fun σ2 H2=>tb { D with nx:=Pv (i + 1),ct:=Pv (i + 1),bk:=D.nx } σ2 H2) (hd:∀ σ H,Pv n σ H -> D.nx σ H) :
    ∃ W:Nat -> Nat -> St -> Hp -> Prop,(∃ m,W 0 m σ H) /\ ∀ i m σ H,W i m σ H ->
      ((Itr lo n).stop i H /\ D.nx σ H) \/ ((Itr lo n).go i H /\ ∃ N:St -> Hp -> Prop,(∀ σ' H',N σ' H' -> ∃ m',m' < m /\ W (i + 1) m' σ' H') /\ ∀ x H',(Itr lo n).yld i H x H' -> g x σ H' fun σ2 H2=>tb { D with nx:=N,ct:=N,bk:=D.nx } σ2 H2):=by
  refine ⟨fun i m σ H=>m = n - i /\ i <= n /\ Pv i σ H,⟨n,by simp,Nat.zero_le _,h0⟩,?_⟩
  rintro i m σ H ⟨rfl,hi,p⟩
  by_cases hlt:i < n
  · refine .inr ⟨hlt,Pv (i + 1),fun σ' H' p'=>⟨n - (i + 1),by omega,rfl,hlt,p'⟩,fun x H' y=>?_⟩
    obtain ⟨e,y⟩:=y
    subst e y
    exact hs i σ _ hlt p
  · have e:i = n:=by omega
    subst e
    exact .inl ⟨Nat.le_refl _,hd σ H p⟩
abbrev R2:=V -> V -> Hp -> VK -> Prop
def OpR (X:Cx) (f:Value -> Value -> Sem Value) (r:R2):Prop:=
  ∀ (pins:List (Addr × Obj)) (s:Shared) (σ:St) (H:Hp) (x y:V) (v u:Value) (Q:VK),Inv X pins σ H s -> RelV x v -> RelV y u -> r x y H Q ->
    wpAny (model X.prog X.w) X.A (f v u) (EP X pins σ Q) X.xe s
def CallR (X:Cx) (f:Value) (r:List V -> Hp -> VK -> Prop):Prop:=
  ∀ (pins:List (Addr × Obj)) (s:Shared) (σ:St) (H:Hp) (xs:List V) (us:List Value) (Q:VK),Inv X pins σ H s -> Vals xs us -> r xs H Q ->
    wpAny (model X.prog X.w) X.A (call f us) (EP X pins σ Q) X.xe s
def tOp (r:R2) (ta tb:TE):TE:=fun σ H Q=>ta σ H fun x H1=>tb σ H1 fun y H2=>r x y H2 Q
inductive rI (C:Int -> Int -> Prop) (g:Int -> Int -> V) (x:V) (y:V) (H:Hp) (Q:VK):Prop
  | mk (i j:_) (_:x = .int i) (_:y = .int j) (_:C i j) (_:Q (g i j) H):rI C g x y H Q
inductive rI0 (g:Int -> Int -> V) (x:V) (y:V) (H:Hp) (Q:VK):Prop
  | mk (i j:_) (_:x = .int i) (_:y = .int j) (_:Q (g i j) H):rI0 g x y H Q
section
variable {X:Cx} {a b c:Expr} {ta tb tc:TE} {pos:Pos}
theorem zaq (ha:PE X a ta) (hb:PE X b tb) {pins:List (Addr × Obj)} {s:Shared} {σ:St} {H:Hp} {R:V -> V -> Hp -> Prop} (I:Inv X pins σ H s)
    (h:ta σ H fun x H1=>tb σ H1 fun y H2=>R x y H2) {Q:Value -> Shared -> Prop} {f:Value -> Value -> Sem Value}
    (hf:∀ v u s2 x y H2,Inv X pins σ H2 s2 -> RelV x v -> RelV y u -> R x y H2 -> wpAny (model X.prog X.w) X.A (f v u) Q X.xe s2) :
    wpAny (model X.prog X.w) X.A (eval a X.env) (fun v s₁=>wpAny (model X.prog X.w) X.A (eval b X.env) (fun u s₂=>wpAny (model X.prog X.w) X.A (f v u) Q X.xe s₂) X.xe s₁) X.xe s:=by
  refine thn (ha pins s σ H _ I h) fun v s1 ⟨x,H1,I1,r1,q1⟩=>?_
  refine thn (hb pins s1 σ H1 _ I1 q1) fun u s2 ⟨y,H2,I2,r2,q2⟩=>?_
  exact hf v u s2 x y H2 I2 r1 r2 q2
theorem zr {op:Operator} {r:R2} (ho:OpR X (binaryOp op) r) (ha:PE X a ta) (hb:PE X b tb):PE X (.BinOp a op b pos) (tOp r ta tb):=by
  intro pins s σ H Q I h
  exact wpAny_BinOp (zaq ha hb I h fun v u s2 x y H2 I2 rx ry q=>ho pins s2 σ H2 x y v u Q I2 rx ry q)
theorem opI {f:Value -> Value -> Sem Value} {C:Int -> Int -> Prop} {g:Int -> Int -> Int}
    (rule:∀ (i j:Int) (t u:Tok) (s:Shared) (Q:Value -> Shared -> Prop) (E:Value -> Shared -> Prop),C i j -> Q (.int (g i j) s.toks) { s with toks:=s.toks + 1 } -> wpAny (model X.prog X.w) X.A (f (.int i t) (.int j u)) Q E s) :
    OpR X f (rI C fun i j=>.int (g i j)):=by
  intro pins s σ H x y v u Q I rx ry h
  obtain ⟨i,j,rfl,rfl,hc,q⟩:=h
  obtain ⟨t,rfl⟩:=rx
  obtain ⟨t',rfl⟩:=ry
  exact rule i j t t' s _ _ hc ⟨.int (g i j),H,I.tok _,⟨_,rfl⟩,q⟩
theorem za4 {f:Value -> Value -> Sem Value} {g:Int -> Int -> Int}
    (rule:∀ (i j:Int) (t u:Tok) (s:Shared) (Q:Value -> Shared -> Prop) (E:Value -> Shared -> Prop),Q (.int (g i j) s.toks) { s with toks:=s.toks + 1 } -> wpAny (model X.prog X.w) X.A (f (.int i t) (.int j u)) Q E s) :
    OpR X f (rI0 fun i j=>.int (g i j)):=by
  intro pins s σ H x y v u Q I rx ry h
  obtain ⟨i,j,rfl,rfl,q⟩:=h
  obtain ⟨t,rfl⟩:=rx
  obtain ⟨t',rfl⟩:=ry
  exact rule i j t t' s _ _ ⟨.int (g i j),H,I.tok _,⟨_,rfl⟩,q⟩
theorem Y3 {f:Value -> Value -> Sem Value} {g:Int -> Int -> Bool}
    (rule:∀ (i j:Int) (t u:Tok) (s:Shared) (Q:Value -> Shared -> Prop) (E:Value -> Shared -> Prop),Q (.bool (g i j)) s -> wpAny (model X.prog X.w) X.A (f (.int i t) (.int j u)) Q E s) :
    OpR X f (rI0 fun i j=>.bl (g i j)):=by
  intro pins s σ H x y v u Q I rx ry h
  obtain ⟨i,j,rfl,rfl,q⟩:=h
  obtain ⟨t,rfl⟩:=rx
  obtain ⟨t',rfl⟩:=ry
  exact rule i j t t' s _ _ ⟨.bl (g i j),H,I,rfl,q⟩
def zbi (i j:Int):Prop:=0 < j /\ j < 1073741824
def zbF (i j:Int):Prop:=0 <= j /\ j <= 1000000 /\ i.natAbs < 2 ^ 64
def CMul (i j:Int):Prop:=(-(2 ^ 64) < i /\ i < 2 ^ 64) \/ (-(2 ^ 64) < j /\ j < 2 ^ 64)
theorem CMul.ok {i j:Int} (h:CMul i j):IntMulOk i j:=by
  rcases h with ⟨h1,h2⟩ | ⟨h1,h2⟩
  · exact .of_left (intBits_le_64 h1 h2)
  · exact .of_right (intBits_le_64 h1 h2)
theorem zF:OpR X (binaryOp .Add) (rI0 fun i j=>.int (i + j)):=za4 fun _ _ _ _ _ _ _ q=>add_int q
theorem jJ:OpR X (binaryOp .Sub) (rI0 fun i j=>.int (i - j)):=za4 fun _ _ _ _ _ _ _ q=>sub_int q
theorem qQ:OpR X (binaryOp .Mult) (rI CMul fun i j=>.int (i * j)):=opI fun _ _ _ _ _ _ _ hc q=>mul_int q hc.ok
theorem QV:OpR X (binaryOp .FloorDiv) (rI zbi fun i j=>.int (i / j)):=opI fun i j _ _ _ _ _ hc q=>by
  have h1:(0:Int) < j:=hc.1
  have h2:j < 1073741824:=hc.2
  exact floordiv_int (by omega) (by rw [Int.fdiv_eq_ediv_of_nonneg i (by omega)];exact q) (.inl (PyProof.noPylong_small (by omega)))
theorem qJ:OpR X (binaryOp .Mod) (rI (fun _ j=>0 < j) fun i j=>.int (i % j)):=opI fun i j _ _ _ _ _ hc q=>by
  have h1:(0:Int) < j:=hc
  exact mod_int' (by omega) (by rw [Int.fmod_eq_emod_of_nonneg i (by omega)];exact q)
theorem Y1:OpR X (binaryOp .Pow) (rI zbF fun i j=>.int (i ^ j.toNat)):=opI fun _ _ _ _ _ _ _ hc q=>pow_int_small hc.1 hc.2.1 hc.2.2 q
end
def zaI:V -> V -> Bool
  | .non,.non=>true | .non,.int _=>true | .int _,.non=>true | .non,.bl _=>true | .bl _,.non=>true | .non,.str _=>true | .str _,.non=>true
  | .int _,.int _=>true | .bl _,.bl _=>true | .str _,.str _=>true | .byt _,.byt _=>true
  | .int _,.str _=>true | .str _,.int _=>true | .bl _,.str _=>true | .str _,.bl _=>true
  | _,_=>false
def rEq:R2:=fun x y H Q=>zaI x y = true /\ Q (.bl (decide (x = y))) H
def rNe:R2:=fun x y H Q=>zaI x y = true /\ Q (.bl (!decide (x = y))) H
theorem Ja {i j:Int}:decide (V.int i = V.int j) = (i == j):=by
  rw [Bool.eq_iff_iff]
  simp
theorem VN {i j:Bool}:decide (V.bl i = V.bl j) = (i == j):=by
  rw [Bool.eq_iff_iff]
  simp
theorem Q9 {i j:Str}:decide (V.str i = V.str j) = (i == j):=by
  rw [Bool.eq_iff_iff]
  simp
theorem Jb {i j:Array UInt8}:decide (V.byt i = V.byt j) = (i.toList == j.toList):=by
  rw [Bool.eq_iff_iff]
  cases i
  cases j
  simp
section
variable {X:Cx} {a b c:Expr} {ta tb tc:TE} {pos:Pos}
theorem zE {pins:List (Addr × Obj)} {σ:St} {H:Hp} {s:Shared} {Q:VK} {k k':Bool} (I:Inv X pins σ H s) (q:Q (.bl k) H) (e:k = k'):EP X pins σ Q (.bool k') s:=by
  subst e
  exact ⟨.bl k,H,I,rfl,q⟩
theorem jf:OpR X (compareOp .Eq) rEq:=by
  intro pins s σ H x y v u Q I rx ry h
  obtain ⟨hs,q⟩:=h
  cases x with
  | non=>
    cases rx
    cases y with
    | non=>cases ry;exact PySem.EqNone.eq_none_none (zE I q (by simp))
    | bl j=>cases ry;exact PySem.EqNone.eq_none_bool (zE I q (by simp))
    | int j=>obtain ⟨t',rfl⟩:=ry;exact PySem.EqNone.eq_none_int (zE I q (by simp))
    | str j=>obtain ⟨t',rfl⟩:=ry;exact PySem.EqNone.eq_none_str (zE I q (by simp))
    | _=>exact absurd (show false = true from hs) Bool.false_ne_true
  | bl i=>
    cases rx
    cases y with
    | non=>cases ry;exact PySem.EqNone.eq_bool_none (zE I q (by simp))
    | bl j=>cases ry;exact eq_bool (zE I q VN)
    | str j=>obtain ⟨t',rfl⟩:=ry;exact PySem.EqMixed.eq_bool_str (zE I q (by simp))
    | _=>exact absurd (show false = true from hs) Bool.false_ne_true
  | int i=>
    obtain ⟨t,rfl⟩:=rx
    cases y with
    | non=>cases ry;exact PySem.EqNone.eq_int_none (zE I q (by simp))
    | int j=>obtain ⟨t',rfl⟩:=ry;exact eq_int (zE I q Ja)
    | str j=>obtain ⟨t',rfl⟩:=ry;exact PySem.EqMixed.eq_int_str (zE I q (by simp))
    | _=>exact absurd (show false = true from hs) Bool.false_ne_true
  | str i=>
    obtain ⟨t,rfl⟩:=rx
    cases y with
    | non=>cases ry;exact PySem.EqNone.eq_str_none (zE I q (by simp))
    | bl j=>cases ry;exact PySem.EqMixed.eq_str_bool (zE I q (by simp))
    | int j=>obtain ⟨t',rfl⟩:=ry;exact PySem.EqMixed.eq_str_int (zE I q (by simp))
    | str j=>obtain ⟨t',rfl⟩:=ry;exact eq_str (zE I q Q9)
    | _=>exact absurd (show false = true from hs) Bool.false_ne_true
  | byt i=>
    obtain ⟨t,rfl⟩:=rx
    cases y with
    | byt j=>obtain ⟨t',rfl⟩:=ry;exact PySem.W.eq_bytes (zE I q Jb)
    | _=>exact absurd (show false = true from hs) Bool.false_ne_true
  | _=>cases y <;> exact absurd (show false = true from hs) Bool.false_ne_true
theorem QU:OpR X (compareOp .NotEq) rNe:=by
  intro pins s σ H x y v u Q I rx ry h
  obtain ⟨hs,q⟩:=h
  cases x with
  | non=>
    cases rx
    cases y with
    | non=>cases ry;exact PySem.EqNone.ne_none_none (zE I q (by simp))
    | bl j=>cases ry;exact PySem.EqNone.ne_none_bool (zE I q (by simp))
    | int j=>obtain ⟨t',rfl⟩:=ry;exact PySem.EqNone.ne_none_int (zE I q (by simp))
    | str j=>obtain ⟨t',rfl⟩:=ry;exact PySem.EqNone.ne_none_str (zE I q (by simp))
    | _=>exact absurd (show false = true from hs) Bool.false_ne_true
  | bl i=>
    cases rx
    cases y with
    | non=>cases ry;exact PySem.EqNone.ne_bool_none (zE I q (by simp))
    | bl j=>cases ry;exact ne_bool (zE I q (congrArg not VN))
    | str j=>obtain ⟨t',rfl⟩:=ry;exact PySem.EqMixed.ne_bool_str (zE I q (by simp))
    | _=>exact absurd (show false = true from hs) Bool.false_ne_true
  | int i=>
    obtain ⟨t,rfl⟩:=rx
    cases y with
    | non=>cases ry;exact PySem.EqNone.ne_int_none (zE I q (by simp))
    | int j=>obtain ⟨t',rfl⟩:=ry;exact ne_int (zE I q (congrArg not Ja))
    | str j=>obtain ⟨t',rfl⟩:=ry;exact PySem.EqMixed.ne_int_str (zE I q (by simp))
    | _=>exact absurd (show false = true from hs) Bool.false_ne_true
  | str i=>
    obtain ⟨t,rfl⟩:=rx
    cases y with
    | non=>cases ry;exact PySem.EqNone.ne_str_none (zE I q (by simp))
    | bl j=>cases ry;exact PySem.EqMixed.ne_str_bool (zE I q (by simp))
    | int j=>obtain ⟨t',rfl⟩:=ry;exact PySem.EqMixed.ne_str_int (zE I q (by simp))
    | str j=>obtain ⟨t',rfl⟩:=ry;exact ne_str (zE I q (congrArg not Q9))
    | _=>exact absurd (show false = true from hs) Bool.false_ne_true
  | byt i=>
    obtain ⟨t,rfl⟩:=rx
    cases y with
    | byt j=>obtain ⟨t',rfl⟩:=ry;exact PySem.W.ne_bytes (zE I q (congrArg not Jb))
    | _=>exact absurd (show false = true from hs) Bool.false_ne_true
  | _=>cases y <;> exact absurd (show false = true from hs) Bool.false_ne_true
theorem Yp:OpR X (compareOp .Lt) (rI0 fun i j=>.bl (decide (i < j))):=Y3 fun _ _ _ _ _ _ _ q=>lt_int q
theorem Yq:OpR X (compareOp .Gt) (rI0 fun i j=>.bl (decide (j < i))):=Y3 fun _ _ _ _ _ _ _ q=>gt_int q
theorem za3:OpR X (compareOp .GtE) (rI0 fun i j=>.bl (decide (j <= i))):=Y3 fun _ _ _ _ _ _ _ q=>ge_int q
theorem Y2:OpR X (compareOp .Is) (fun x y H Q=>y = .non /\ Q (.bl (decide (x = .non))) H):=by
  intro pins s σ H x y v u Q I rx ry h
  obtain ⟨rfl,q⟩:=h
  cases ry
  refine is_none_gen (zE I q ?_)
  cases x <;> first
    | (cases rx;rfl)
    | (obtain ⟨t,rfl⟩:=rx;rfl)
theorem OpR.or {f:Value -> Value -> Sem Value} {r r':R2} (h:OpR X f r) (h':OpR X f r'):OpR X f (fun x y H Q=>r x y H Q \/ r' x y H Q):=by
  intro pins s σ H x y v u Q I rx ry q
  rcases q with q | q
  · exact h pins s σ H x y v u Q I rx ry q
  · exact h' pins s σ H x y v u Q I rx ry q
theorem zJ (b:Expr) {op:CmpOp} (h:op ≠ .In:=by decide) (h2:op ≠ .NotIn:=by decide):behindInMarks op b = false:=by
  have e1:(op == CmpOp.In) = false:=by cases op <;> first | rfl | exact absurd rfl h
  have e2:(op == CmpOp.NotIn) = false:=by cases op <;> first | rfl | exact absurd rfl h2
  cases b <;> simp [behindInMarks,e1,e2]
theorem qE {op:CmpOp} {r:R2} (ho:OpR X (compareOp op) r) (ha:PE X a ta) (hb:PE X b tb) (hm:behindInMarks op b = false):PE X (.Compare a [op] [b] pos) (tOp r ta tb):=by
  intro pins s σ H Q I h
  exact wpAny_Compare1 (zaq ha hb I h fun v u s2 x y H2 I2 rx ry q=>ho pins s2 σ H2 x y v u Q I2 rx ry q) hm
def zax (t:TE):TT:=fun σ H Q=>t σ H fun x H'=>IsB x H' Q
theorem zS {op:CmpOp} {r:R2} (ho:OpR X (compareOp op) r) (ha:PE X a ta) (hb:PE X b tb) (hm:behindInMarks op b = false):PT X (.Compare a [op] [b] pos) (zax (tOp r ta tb)):=by
  intro pins s σ H Q I h
  refine wpAny_isTrue_Compare1 (thn (ha pins s σ H _ I h) fun v s1 ⟨x,H1,I1,r1,q1⟩=>thn (hb pins s1 σ H1 _ I1 q1) fun u s2 ⟨y,H2,I2,r2,q2⟩=>
    thn (ho pins s2 σ H2 x y v u _ I2 r1 r2 q2) fun c s3 ⟨z,H3,I3,r3,k,e,q3⟩=>?_) hm
  subst e
  cases r3
  exact wpAny_truthy_bool ⟨H3,I3,q3⟩
theorem vT:(sizeLine:Nat) < 2 ^ 63:=by rw [sizeLine_eq];decide
inductive xH (x:V) (y:V) (H:Hp) (Q:VK):Prop
  | mk (i j:_) (_:x = .str i) (_:y = .str j) (_:i.length + j.length <= sizeLine) (_:Q (.str (i ++ j)) H):xH x y H Q
theorem Qe:OpR X (binaryOp .Add) (xH):=by
  intro pins s σ H x y v u Q I rx ry h
  obtain ⟨i,j,rfl,rfl,hz,q⟩:=h
  obtain ⟨t,rfl⟩:=rx
  obtain ⟨t',rfl⟩:=ry
  exact add_str (fun t' tk=>⟨.str (i ++ j),H,I.tok _,⟨_,rfl⟩,q⟩) hz
theorem jb {x:V} {us:List Value} (r:Vals [x] us):∃ u,us = [u] /\ RelV x u:=by
  cases r with
  | cons r1 r2=>cases r2;exact ⟨_,rfl,r1⟩
theorem vy {x y:V} {us:List Value} (r:Vals [x,y] us):∃ u w',us = [u,w'] /\ RelV x u /\ RelV y w':=by
  cases r with
  | cons r1 r2=>
    cases r2 with
    | cons r3 r4=>cases r4;exact ⟨_,_,rfl,r1,r3⟩
inductive wt (xs:List V) (H:Hp) (Q:VK):Prop
  | mk (i:_) (_:xs = [.int i]) (_:Q (.int (if i < 0 then -i else i)) H):wt xs H Q
theorem ji:CallR X (.builtin "abs") (wt):=by
  intro pins s σ H xs us Q I r h
  obtain ⟨i,rfl,q⟩:=h
  obtain ⟨u,rfl,t,rfl⟩:=jb r
  exact call_abs_int fun u tk=>⟨.int (if i < 0 then -i else i),H,I.tok _,⟨_,rfl⟩,q⟩
inductive va (xs:List V) (H:Hp) (Q:VK):Prop
  | mk (i j:_) (_:xs = [.int i,.int j]) (_:Q (.int (if j > i then j else i)) H):va xs H Q
theorem xR (hc:X.calm = true):CallR X (.builtin "max") (va):=by
  intro pins s σ H xs us Q I r h
  obtain ⟨i,j,rfl,q⟩:=h
  obtain ⟨u,w',rfl,⟨t,rfl⟩,⟨t',rfl⟩⟩:=vy r
  refine max_two_ints (I.ok.hd hc) fun h' tk k=>⟨_,H,I.kept k,?_,q⟩
  by_cases hj:j > i
  · rw [if_pos hj,if_pos hj];exact ⟨_,rfl⟩
  · rw [if_neg hj,if_neg hj];exact ⟨_,rfl⟩
theorem yd:CallR X (.type "int") (fun xs H Q=>(∃ i,xs = [.int i] /\ Q (.int i) H) \/ ∃ k,xs = [.bl k] /\ Q (.int (if k then 1 else 0)) H):=by
  intro pins s σ H xs us Q I r h
  rcases h with ⟨i,rfl,q⟩ | ⟨k,rfl,q⟩
  · obtain ⟨u,rfl,t,rfl⟩:=jb r
    exact call_int_int ⟨.int i,H,I,⟨_,rfl⟩,q⟩
  · obtain ⟨u,rfl,r1⟩:=jb r
    cases r1
    exact call_int_bool ⟨.int (if k then 1 else 0),H,I.tok _,⟨_,rfl⟩,q⟩
inductive j9 (xs:List V) (H:Hp) (Q:VK):Prop
  | mk (i j:_) (_:xs = [.int i,.int j]) (_:zbi i j) (_:∀ p,H p = none -> Q (.ref p) (upd H p (.tup [.int (i / j),.int (i % j)]))):j9 xs H Q
theorem ZJ:CallR X (.builtin "divmod") (j9):=by
  intro pins s σ H xs us Q I r h
  obtain ⟨i,j,rfl,⟨h1,h2⟩,q⟩:=h
  obtain ⟨u,w',rfl,⟨t,rfl⟩,⟨t',rfl⟩⟩:=vy r
  refine divmod_int (by omega) ?_ (.inl (PyProof.noPylong_small (by omega)))
  rw [Int.fdiv_eq_ediv_of_nonneg i (by omega),Int.fmod_eq_emod_of_nonneg i (by omega)]
  have hn:H s.heap.objs.size = none:=I.hok.fresh (Nat.le_refl _)
  refine ⟨.ref s.heap.objs.size,_,?_,rfl,q _ hn⟩
  refine I.laid (fun b o e=>Heap.get?_push_of_some _ e) (Nat.le_refl _) ⟨by simp only [List.length_cons,List.length_nil];rw [sizeLine_eq];decide,[.int (i / j) s.toks,.int (i % j) (s.toks + 1)],.cons ⟨_,rfl⟩ (.cons ⟨_,rfl⟩ .nil),?_⟩
  exact ⟨⟨_,Heap.get?_push_size s.heap rfl,rfl,0,rfl⟩,_,Heap.get?_push_size s.heap rfl,rfl⟩
end
structure ObjM (h:Heap) (x dx C:Addr) (mA:Str -> Option Value):Prop where
  obj:h.get? x = some (PySem.W.instObj C dx)
  ns:h.Ns1 dx mA
  ne:dx ≠ x
theorem JS {h:Heap} {dx:Addr} {mA:Str -> Option Value} (n:h.Ns1 dx mA):∃ od,h.get? dx = some od /\ ∀ name,PySem.W.lookIn name od = some (mA name):=by
  obtain ⟨o,es,ep,ho,hd,hk,_,hm⟩:=n
  refine ⟨o,ho,fun name=>?_⟩
  have e:=hm name
  unfold nsFind findBy at e
  rw [<- Array.find?_toList] at e
  unfold PySem.W.lookIn
  rw [hd]
  dsimp only
  split
  · rename_i y q
    rw [q] at e
    exact congrArg some e
  · rename_i q
    rw [q] at e
    have a:es.toList.any (·.refKey) = false:=by
      rw [List.any_eq_false]
      intro y hy
      obtain ⟨z,t,hkey⟩:=hk y (Array.mem_toList_iff.mp hy)
      simp [DictEntry.refKey,hkey]
    have a':¬ es.toList.any (·.refKey) = true:=by rw [a];exact Bool.false_ne_true
    rw [if_neg a']
    exact congrArg some e
theorem ObjM.look {h:Heap} {x dx C:Addr} {mA:Str -> Option Value} (I:ObjM h x dx C mA):∃ od,PySem.W.InstAt h x (PySem.W.instObj C dx) C (some od) /\ ∀ name,PySem.W.lookIn name od = some (mA name):=
  let ⟨od,ho,hl⟩:=JS I.ns
  ⟨od,⟨I.obj,rfl,rfl,ho⟩,hl⟩
section
variable {prog:Program} {w:World} {A:Around} {E:Value -> Shared -> Prop} {s:Shared} {K:PySem.W.Frag} {x dx C f:Addr} {mA:Str -> Option Value} {name:Str} {v:Value}
end
theorem RelO.some_of {v:V} {o:Option Value} (r:RelO (some v) o):∃ u,o = some u /\ RelV v u:=by
  cases o with
  | none=>exact (show False from r).elim
  | some u=>exact ⟨u,rfl,r⟩
theorem RelO.none_of {o:Option Value} (r:RelO none o):o = none:=by
  cases o with
  | none=>rfl
  | some u=>exact (show False from r).elim
section
variable {P:Program} {w:World} {H H':Hp} {h h':Heap} {a C dx:Addr} {fs fs':List (Str × V)}
end
structure Cls (K:PySem.W.Frag) (C:Addr):Prop where
  pg:PySem.W.plainGet K C Str.empty = true
  hd:PySem.W.hasDictIn K C = true
  po:PySem.W.plainOver K C = true
  sa:PySem.W.findIn K (.ref C) "__setattr__" = some (some (.builtin "object.__setattr__"))
theorem Cls.get {K:PySem.W.Frag} {C:Addr} (c:Cls K C) (f:Str):PySem.W.plainGet K C f = true:=c.pg
structure Con (K:PySem.W.Frag) (C:Addr) (f:Str) (v:V) (u:Value):Prop where
  at_:PySem.W.findIn K (.ref C) f = some (some u)
  rel:RelV v u
  get:PySem.W.specialIn K u "__get__" = some none
  cp:PySem.W.copiedNames.contains f = false
structure Meth (K:PySem.W.Frag) (C:Addr) (m:Str) (f:Addr):Prop where
  at_:PySem.W.findIn K (.ref C) m = some (some (.ref f))
  fn:PySem.W.isFn K (.ref f) = true
  kp:PySem.W.keepIn K (.ref f) = true
section
variable {X:Cx} {pins:List (Addr × Obj)} {σ:St} {H:Hp} {s:Shared} {a C dx:Addr} {fs:List (Str × V)} {f:Str} {v:V} {A:Around} {E:Value -> Shared -> Prop}
end
section
variable {X:Cx} {o e value:Expr} {f:Str} {pos pos' tpos:Pos} {ta tv:TE}
end
section
variable {X:Cx} {pins:List (Addr × Obj)} {σ:St} {H:Hp} {s:Shared} {A:Around} {E:Value -> Shared -> Prop} {Q:Value -> Shared -> Prop} {c:Value} {b:Bool}
inductive wo (K:PySem.W.Frag) (H:Hp):V -> Value -> Prop where
  | non:wo K H .non (.type "NoneType")
  | bl (x:Bool):wo K H (.bl x) (.type "bool")
  | int (i:Int):wo K H (.int i) (.type "int")
  | str (x:Str):wo K H (.str x) (.type "str")
  | flt (x:UInt64):wo K H (.flt x) (.type "float")
  | lst {a:Addr} {xs:List V} (e:H a = some (.lst xs)):wo K H (.ref a) (.type "list")
  | frz {a:Addr} {o:Obj} {xs:List V} (e:H a = some (.frz o (.lst xs))):wo K H (.ref a) (.type "list")
  | tup {a:Addr} {xs:List V} (e:H a = some (.tup xs)):wo K H (.ref a) (.type "tuple")
  | dK {a:Addr} {kvs:List (Key × V)} (e:H a = some (.dK kvs)):wo K H (.ref a) (.type "dict")
  | dT {a:Addr} {kvs:List (List Key × V)} (e:H a = some (.dT kvs)):wo K H (.ref a) (.type "dict")
  | ins {a C dx:Addr} {fs:List (Str × V)} (e:H a = some (.ins C dx fs)) (cl:Cls K C) (ha:PySem.W.findIn K (.ref C) "__class__" = some (some (.builtin "object.__class__")))
      (hn:PySem.W.specialIn K (.builtin "object.__class__") "__get__" = some (some (.builtin "getset_descriptor.__get__"))) (htk:PySem.W.takesIn K (.builtin "object.__class__") = some true)
      (hm:PySem.W.mroIn K C (.type "object") = some true):wo K H (.ref a) (.ref C)
end
structure Room (k:Nat) (A:Around):Prop where
  hd:A.handled = none
  dp:A.depth + 3 * k + 5 < recursionLimit
  un:A.units + 16 * k + 200 < cLine
  gd:A.guards = some []
theorem Room.mono {j k:Nat} {A:Around} (r:Room k A) (h:j <= k):Room j A:=⟨r.hd,by have:=r.dp;omega,by have:=r.un;omega,r.gd⟩
theorem Room.deeper {k:Nat} {A:Around} (r:Room (k + 1) A) (env:Env):Room k (A.deeper env):=
  ⟨r.hd,by have:=r.dp;show A.depth + 1 + 3 * k + 5 < _;omega,by have:=r.un;show A.units + 3 + 16 * k + 200 < _;omega,r.gd⟩
theorem Room.in1 {k:Nat} {A:Around} (r:Room (k + 1) A):Room k A.in1:=
  ⟨r.hd,by have:=r.dp;show A.depth + 3 * k + 5 < _;omega,by have:=r.un;show A.units + 1 + 16 * k + 200 < _;omega,r.gd⟩
theorem Room.depth {k:Nat} {A:Around} (r:Room k A):A.depth < recursionLimit:=by have:=r.dp;omega
theorem Room.units {k:Nat} {A:Around} (r:Room k A):A.units + 64 < cLine:=by have:=r.un;omega
def zaz:TA:=fun _ H Q=>Q [] H
def wP (ta:TE) (tr:TA):TA:=fun σ H Q=>ta σ H fun x H1=>tr σ H1 fun xs H2=>Q (x :: xs) H2
section
variable {X:Cx} {e:Expr} {es:List Expr} {te:TE} {t:TA} {pos:Pos}
theorem zd:PA X [] zaz:=fun _ _ _ _ H Q I h=>Calls.spliced_nil ⟨[],H,I,.nil,h⟩
theorem za (ha:PE X e te) (hr:PA X es t) (hs:starEach (e :: es) X.env = (false,eval e X.env) :: starEach es X.env:=by rfl):PA X (e :: es) (wP te t):=by
  intro pos pins s σ H Q I h
  rw [hs]
  show wpAny _ _ (spliced ((false,eval e X.env) :: backTo pos (starEach es X.env))) _ _ s
  refine Calls.spliced_cons (thn (ha pins s σ H _ I h) fun u s1 ⟨x,H1,I1,r1,q1⟩=>?_)
  exact thn (hr pos pins s1 σ H1 _ I1 q1) fun us s2 ⟨xs,H2,I2,r2,q2⟩=>⟨x :: xs,H2,I2,.cons r1 r2,q2⟩
def zbm (t:TA):TE:=fun σ H Q=>t σ H fun xs H1=>xs.length <= sizeLine /\ ∀ p,H1 p = none -> Q (.ref p) (upd H1 p (.tup xs))
def zbq (t:TA):TE:=fun σ H Q=>t σ H fun xs H1=>xs.length <= sizeLine /\ ∀ p,H1 p = none -> Q (.ref p) (upd H1 p (.lst xs))
theorem zG {x1} (h:PA X es t):PE X (.Tuple es x1 pos) (zbm t):=by
  intro pins s σ H Q I hq
  refine wpAny_Tuple_spliced (thn (h pos pins s σ H _ I hq) fun us s1 ⟨xs,H1,I1,r,z,q⟩=>⟨by rw [<- r.length];exact z,?_⟩)
  have hf:H1 s1.heap.objs.size = none:=I1.hok.fresh (Nat.le_refl _)
  refine ⟨.ref s1.heap.objs.size,upd H1 s1.heap.objs.size (.tup xs),I1.laid (t':=s1.toks) (fun b u e=>Heap.get?_push_of_some _ e) (Nat.le_refl _) ?_,rfl,q _ hf⟩
  exact ⟨z,us,r,⟨_,Heap.get?_push_size _ rfl,rfl,_,rfl⟩,_,Heap.get?_push_size _ rfl,rfl⟩
theorem zU (h:PA X es t):PE X (.List es pos) (zbq t):=by
  intro pins s σ H Q I hq
  refine wpAny_List_spliced (thn (h pos pins s σ H _ I hq) fun us s1 ⟨xs,H1,I1,r,z,q⟩=>⟨by rw [<- r.length];exact z,?_⟩)
  have hf:H1 s1.heap.objs.size = none:=I1.hok.fresh (Nat.le_refl _)
  refine ⟨.ref s1.heap.objs.size,upd H1 s1.heap.objs.size (.lst xs),I1.laid (t':=s1.toks) (fun b u e=>Heap.get?_push_of_some _ e) (Nat.le_refl _) ?_,rfl,q _ hf⟩
  exact ⟨z,us,0,r,Heap.get?_push_size _ rfl⟩
end
abbrev Sp:=List V -> Hp -> VK -> XK -> Prop
abbrev CXT:=List Env -> Hp -> Shared -> XK -> Value -> Shared -> Prop
structure Env0 (P:Program) (w:World) (K:PySem.W.Frag) (mg:Str -> Option Value) (base:Heap) (A:Around) (outer:List Env) (s:Shared) (H:Hp):Prop where
  frames:A.frames = some outer
  mod:Mod K mg base
  bs:∀ b o,base.get? b = some o -> s.heap.get? b = some o /\ H b = none
  bsz:base.objs.size <= s.heap.objs.size
  funs:s.heap.FunFrames base outer
  frf:∀ b ∈ frs outer,H b = none
  hok:HOk P w H s.heap
  bare:AllBare s.gens
def CE (outer:List Env) (P:Program) (w:World) (H:Hp) (s:Shared) (Q:VK) (u:Value) (s':Shared):Prop:=
  ∃ v H',s'.os = s.os /\ AllBare s'.gens /\ Un (frs outer) [] H H' s.heap s'.heap /\ HOk P w H' s'.heap /\ RelV v u /\ Q v H'
def CR (CX:CXT) (outer:List Env) (P:Program) (w:World) (H:Hp) (s:Shared) (Q:VK) (E:XK) (r:Result) (s':Shared):Prop:=
  match r with
  | .ok (.ret u)=>CE outer P w H s Q u s'
  | .ok _=>False
  | .error e=>CX outer H s E e s'
structure FnOk (P:Program) (w:World) (K:PySem.W.Frag) (mg:Str -> Option Value) (base:Heap) (CX:CXT) (k:Nat) (f:Addr) (fd:FuncData) (ps:List Str) (sp:Sp):Prop where
  len:∀ vs H Q E,sp vs H Q E -> vs.length = ps.length
  run:∀ (A:Around) (outer:List Env) (s:Shared) (H:Hp) (args:Args) (us:List Value) (vs:List V) (Q:VK) (E:XK),Room k A -> Env0 P w K mg base A outer s H -> BindsTo s fd args (ps.zip us) -> Vals vs us -> sp vs H Q E ->
    codeAny (model P w) A (.call (.ref f) args) (CR CX outer P w H s Q E) s
theorem FnOk.mono {P:Program} {w:World} {K:PySem.W.Frag} {mg:Str -> Option Value} {base:Heap} {CX:CXT} {j k:Nat} {f:Addr} {fd:FuncData} {ps:List Str} {sp:Sp} (F:FnOk P w K mg base CX j f fd ps sp) (h:j <= k) :
    FnOk P w K mg base CX k f fd ps sp:=⟨F.len,fun A outer s H args us vs Q E hr=>F.run A outer s H args us vs Q E (hr.mono h)⟩
theorem FnOk.imp {P:Program} {w:World} {K:PySem.W.Frag} {mg:Str -> Option Value} {base:Heap} {CX:CXT} {k:Nat} {f:Addr} {fd:FuncData} {ps:List Str} {sp sp':Sp} (F:FnOk P w K mg base CX k f fd ps sp)
    (h:∀ vs H Q E,sp' vs H Q E -> sp vs H Q E):FnOk P w K mg base CX k f fd ps sp':=
  ⟨fun vs H Q E q=>F.len vs H Q E (h _ _ _ _ q),fun A outer s H args us vs Q E hr he hb hv hs=>F.run A outer s H args us vs Q E hr he hb hv (h _ _ _ _ hs)⟩
theorem Env0.in1 {P:Program} {w:World} {K:PySem.W.Frag} {mg:Str -> Option Value} {base:Heap} {A:Around} {outer:List Env} {s:Shared} {H:Hp} (e:Env0 P w K mg base A outer s H) :
    Env0 P w K mg base A.in1 outer s H:=⟨e.frames,e.mod,e.bs,e.bsz,e.funs,e.frf,e.hok,e.bare⟩
section
variable {X:Cx} {pins:List (Addr × Obj)} {σ:St} {H:Hp} {s s':Shared}
theorem Inv.env0 (I:Inv X pins σ H s):Env0 X.prog X.w X.K X.mg X.base X.A X.stack s H:=
  ⟨I.ok.frames,I.ok.mod,I.bs,Nat.le_trans I.ok.bsz I.sz,I.stack,I.stkFree,I.hok,I.bare⟩
theorem Inv.after {Q:VK} {u:Value} (I:Inv X pins σ H s) (h:CE X.stack X.prog X.w H s Q u s'):EP X pins σ Q u s':=by
  obtain ⟨v,H',os,bare,un,hok,r,q⟩:=h
  obtain ⟨hh,g,d,t,os'⟩:=s'
  obtain rfl:os' = s.os:=os
  exact ⟨v,H',I.call (h':=hh) (g':=g) (d':=d) (t':=t) (ch:=[]) un hok bare (fun b z=>absurd z (by simp)),r,q⟩
end
def W8 (sp:Sp) (dvs:List V) (E:XK) (t:TA):TE:=fun σ H Q=>t σ H fun vs H1=>sp (vs ++ dvs) H1 Q E
def Binds (K:PySem.W.Frag) (fd:FuncData) (ps:List Str) (ds:List Value):Prop:=
  ∀ (s:Shared) (us:List Value),K.In s.heap -> (us ++ ds).length = ps.length -> BindsTo s fd ⟨us,[]⟩ (ps.zip (us ++ ds))
theorem Binds.all {K:PySem.W.Frag} {fd:FuncData} {ps:List Str} (h:∀ us:List Value,us.length = ps.length -> bindArgs fd ⟨us,[]⟩ = pure (ps.zip us)):Binds K fd ps []:=fun s us _ hl=>by
  rw [List.append_nil] at hl ⊢
  exact .of_eq (h us hl)
def Qu (CX:CXT) (X:Cx) (E:XK):Prop:=∀ (pins:List (Addr × Obj)) (σ:St) (H:Hp) (s:Shared) (e:Value) (s':Shared),Inv X pins σ H s -> CX X.stack H s E e s' -> X.xe e s'
section
variable {X:Cx} {CX:CXT} {k:Nat} {f C:Addr} {fd:FuncData} {ps:List Str} {sp:Sp} {dvs:List V} {ds:List Value} {E:XK} {x m:Str} {p pos apos:Pos} {e o:Expr} {es:List Expr} {ta:TE} {t:TA}
theorem YL {pins:List (Addr × Obj)} {σ:St} {H:Hp} {s:Shared} {Q:VK} {us:List Value} {vs:List V} (F:FnOk X.prog X.w X.K X.mg X.base CX k f fd ps sp) (hr:Room k X.A) (hb:Binds X.K fd ps ds) (hd:Vals dvs ds) (hx:Qu CX X E)
    (I:Inv X pins σ H s) (r:Vals vs us) (h:sp (vs ++ dvs) H Q E):wpAny (model X.prog X.w) X.A (call (.ref f) us) (EP X pins σ Q) X.xe s:=by
  have r2:Vals (vs ++ dvs) (us ++ ds):=r.append hd
  have hl:(us ++ ds).length = ps.length:=by rw [<- r2.length];exact F.len _ _ _ _ h
  refine wpAny_call (codeAny_mono (F.run X.A X.stack s H ⟨us,[]⟩ (us ++ ds) (vs ++ dvs) Q E hr I.env0 (hb s us I.kIn hl) r2 h) fun r s' hq=>?_)
  cases r with
  | error e=>exact hx pins σ H s e s' I hq
  | ok fl=>
    cases fl with
    | ret u=>exact I.after hq
    | next=>exact False.elim hq
    | brk=>exact False.elim hq
    | cont=>exact False.elim hq
theorem Wn (F:FnOk X.prog X.w X.K X.mg X.base CX k f fd ps sp) (hr:Room k X.A) (hg:Gl X x) (hm:X.mg x = some (.ref f)) (hk:PySem.W.keepIn X.K (.ref f) = true) (hb:Binds X.K fd ps ds) (hd:Vals dvs ds) (hx:Qu CX X E)
    (ha:PA X (e :: es) t) (hdb:(x == ("__debug__" : Str)) = false:=by decide) (he:starEach (e :: es) X.env = (false,eval e X.env) :: starEach es X.env:=by rfl) (hpl:(backTo pos (starEach es X.env)).any (·.1) = false:=by rfl) :
    PE X (.Call (.Name x p) (e :: es) [] pos) (W8 sp dvs E t):=by
  intro pins s σ H Q I h
  refine wpAny_Call_Name_kw (WG I hg hm ?_ hdb)
  refine PySem.W.callWith_K (h₀:=X.base) I.ok.mod.kin hk (thn (ha pos pins s σ H _ I h) fun us s1 ⟨vs,H1,I1,r,q⟩=>⟨I1.kIn,?_⟩) he hpl
  exact YL F hr hb hd hx I1 r q
structure Mk (K:PySem.W.Frag) (C f:Addr):Prop where
  makes:PySem.W.makesIn K C = true
  init:PySem.W.findIn K (.ref C) "__init__" = some (some (.ref f))
  fn:PySem.W.isFn K (.ref f) = true
  kp:PySem.W.keepIn K (.ref C) = true
end
section
variable {X:Cx} {CX:CXT} {k:Nat} {f C:Addr} {fd:FuncData} {ps ks:List Str} {sp:Sp} {E:XK} {x m:Str} {p pos apos kpos:Pos} {e o:Expr} {es:List Expr} {kws:List Keyword} {te ta:TE} {t tk:TA} {nm:Option Str}
structure KBinds (K:PySem.W.Frag) (fd:FuncData) (ps ks:List Str) (g:List Value -> List Value -> List Value) (gV:List V -> List V -> List V):Prop where
  to:∀ (s:Shared) (us ws:List Value),K.In s.heap -> (g us ws).length = ps.length -> BindsTo s fd ⟨us,ks.zip ws⟩ (ps.zip (g us ws))
  rel:∀ {vs:List V} {us:List Value} {zs:List V} {ws:List Value},Vals vs us -> Vals zs ws -> Vals (gV vs zs) (g us ws)
variable {g:List Value -> List Value -> List Value} {gV:List V -> List V -> List V}
end
structure zx (N P:List Str) (sc:Scope):Prop where
  kind:sc.kind = .function
  co:sc.isCoroutine = false
  gen:sc.isGenerator = false
  nd:N.Nodup
  pre:N.take P.length = P
  par:∀ x ∈ P,sc.names.lookup x = some .local \/ sc.names.lookup x = some .cell
  nofree:∀ y ∈ sc.names,y.2 ≠ .free
theorem yf {kindOf:Str -> Option NameKind} {x:Str}:∀ {binds:List (Str × Value)} {m:Str -> Option Value},(∀ v,(x,v) ∉ binds) -> bindL kindOf binds m x = m x
  | [],_,_=>rfl
  | (n,v) :: r,m,h=>by
    unfold bindL
    rw [yf fun w hw=>h w (List.mem_cons_of_mem _ hw)]
    split
    · have:x ≠ n:=by rintro rfl;exact h v List.mem_cons_self
      simp [this]
    · rfl
theorem yh {kindOf:Str -> Option NameKind} {x:Str}:∀ {binds:List (Str × Value)} {m:Str -> Option Value},(∀ v,(x,v) ∉ binds) -> bindC kindOf binds m x = m x
  | [],_,_=>rfl
  | (n,v) :: r,m,h=>by
    unfold bindC
    rw [yh fun w hw=>h w (List.mem_cons_of_mem _ hw)]
    split
    · rfl
    · have:x ≠ n:=by rintro rfl;exact h v List.mem_cons_self
      simp [this]
theorem yg {kindOf:Str -> Option NameKind} {x:Str} {v:Value}:∀ {P:List Str} {vs:List Value} {i:Nat} {m:Str -> Option Value},P.Nodup -> P[i]? = some x -> vs[i]? = some v -> kindOf x = some .local ->
    bindL kindOf (P.zip vs) m x = some v
  | [],_,_,_,_,h,_,_=>by simp at h
  | _ :: _,[],_,_,_,_,h,_=>by simp at h
  | p :: P,w :: vs,0,m,nd,h1,h2,hk=>by
    simp at h1 h2;subst h1;subst h2
    show bindL kindOf ((p,w) :: P.zip vs) m p = _
    unfold bindL
    rw [yf fun v hv=>(List.nodup_cons.mp nd).1 (List.of_mem_zip hv).1,if_pos hk]
    simp
  | p :: P,w :: vs,i + 1,m,nd,h1,h2,hk=>by
    show bindL kindOf ((p,w) :: P.zip vs) m x = _
    unfold bindL
    exact yg (i:=i) (List.nodup_cons.mp nd).2 (by simpa using h1) (by simpa using h2) hk
theorem yi {kindOf:Str -> Option NameKind} {x:Str} {v:Value}:∀ {P:List Str} {vs:List Value} {i:Nat} {m:Str -> Option Value},P.Nodup -> P[i]? = some x -> vs[i]? = some v -> kindOf x ≠ some .local ->
    bindC kindOf (P.zip vs) m x = some v
  | [],_,_,_,_,h,_,_=>by simp at h
  | _ :: _,[],_,_,_,_,h,_=>by simp at h
  | p :: P,w :: vs,0,m,nd,h1,h2,hk=>by
    simp at h1 h2;subst h1;subst h2
    show bindC kindOf ((p,w) :: P.zip vs) m p = _
    unfold bindC
    rw [yh fun v hv=>(List.nodup_cons.mp nd).1 (List.of_mem_zip hv).1,if_neg hk]
    simp
  | p :: P,w :: vs,i + 1,m,nd,h1,h2,hk=>by
    show bindC kindOf ((p,w) :: P.zip vs) m x = _
    unfold bindC
    exact yi (i:=i) (List.nodup_cons.mp nd).2 (by simpa using h1) (by simpa using h2) hk
def xV (N:List Str) (vs:List V):St:=vs.map some ++ List.replicate (N.length - vs.length) none
def J4 (CX:CXT) (P:Program) (w:World) (K:PySem.W.Frag) (mg:Str -> Option Value) (base:Heap) (N:List Str) (qual:Str) (scope:Scope) (f:Addr) (cd:Value) (A:Around) (outer:List Env) (s:Shared) (H:Hp) (E:XK):Cx where
  prog:=P
  w:=w
  K:=K
  mg:=mg
  base:=base
  A:=A.deeper (envOfC qual scope s.heap.objs.size f cd)
  N:=N
  s₀:=s
  H₀:=H
  env:=envOfC qual scope s.heap.objs.size f cd
  outer:=outer
  stack:=envOfC qual scope s.heap.objs.size f cd :: outer
  ex:=[]
  calm:=true
  fn:=fun _=>true
  pn:=[]
  xe:=fun e s'=>wpAny (model P w) (A.deeper (envOfC qual scope s.heap.objs.size f cd)) (leaving (envOfC qual scope s.heap.objs.size f cd) e) (fun _ s''=>CX outer H s E e s'') (fun e' s''=>CX outer H s E e' s'') s'
theorem ZI {sc:Scope} {n:Nat} {x:Str} (h:sc.names.lookup x = some .cell):∃ c,(cellsFrom n sc.names []).lookup x = some c:=by
  have q:=PySem.W.cellsFrom_some sc.names n [] (.inl h)
  exact Option.isSome_iff_exists.mp q
theorem JW {CX:CXT} {P:Program} {w:World} {K:PySem.W.Frag} {mg:Str -> Option Value} {base:Heap} {N ps:List Str} {qual:Str} {scope:Scope} {f:Addr} {cd:Value} {A:Around} {outer:List Env} {s s1:Shared} {H:Hp} {E:XK} {us:List Value} {vs:List V}
    (S:zx N ps scope) (hd:A.handled = none) (e0:Env0 P w K mg base A outer s H) (hl:vs.length = ps.length) (r:Vals vs us)
    (x:InCallC s s.heap.objs.size (bindL (envOfC qual scope s.heap.objs.size f cd).kindOf (ps.zip us) fun _=>none) (cellsFrom (s.heap.objs.size + 1) scope.names []) (bindC (envOfC qual scope s.heap.objs.size f cd).kindOf (ps.zip us) fun _=>none) s1) :
    Inv (J4 CX P w K mg base N qual scope f cd A outer s H E) [] (xV N vs) H s1:=by
  have hpl:ps.length <= N.length:=by have:=congrArg List.length S.pre;rw [List.length_take] at this;omega
  obtain ⟨h1,tk,rfl,hk⟩:=x.done
  have noA:∀ b:Addr,b ∉ (J4 CX P w K mg base N qual scope f cd A outer s H E).ex:=fun b z=>absurd (show b ∈ ([]:List Addr) from z) (by simp)
  refine ⟨⟨e0.mod,S.kind,rfl,rfl,Nat.le_refl _,fun y z c h1 h2=>?_,fun y hy=>?_,fun y c _ h=>?_,fun _=>hd,Around.frames_deeper e0.frames,.inr ⟨rfl,rfl⟩,fun b z=>absurd z (noA b),e0.bs,e0.bsz,fun b _ _=>noA b,fun b z=>absurd z (noA b),e0.funs,e0.frf⟩,
    rfl,e0.bare,Un.kept hk,⟨_,x.toInCall.ns,fun i y v h1 h2 h3=>?_⟩,fun y c h=>⟨_,x.cell y c h⟩,e0.hok.fresh (Nat.le_refl _),fun y c h=>?_,fun p hp=>absurd (show p ∈ ([]:List (Addr × Obj)) from hp) (by simp),e0.hok.kept hk,?_⟩
  · exact name_of_addr x.apart (PySem.mem_of_lookup h1) (PySem.mem_of_lookup h2)
  · have hy:scope.names.lookup y = some .cell \/ scope.names.lookup y = some .free:=hy
    rcases hy with hy | hy
    · exact ZI hy
    · exact absurd rfl (S.nofree _ (PySem.mem_of_lookup hy))
  · exact Nat.le_of_lt (x.above y c (PySem.mem_of_lookup h))
  · have hi:i < vs.length:=by
      unfold xV at h2
      by_cases hi:i < vs.length
      · exact hi
      · rw [List.getElem?_append_right (by simpa using hi)] at h2
        rw [List.getElem?_replicate] at h2
        split at h2 <;> cases h2
    have ha:vs[i]? = some v:=by
      unfold xV at h2
      rw [List.getElem?_append_left (by simpa using hi),List.getElem?_map] at h2
      cases e:vs[i]? with
      | none=>rw [e] at h2;cases h2
      | some a=>rw [e] at h2;cases h2;rfl
    obtain ⟨u,hu,rv⟩:=r.get ha
    have hp:ps[i]? = some y:=by
      rw [<- S.pre,List.getElem?_take_of_lt (by omega)];exact h1
    have ndP:ps.Nodup:=by rw [<- S.pre];exact S.nd.sublist (List.take_sublist _ _)
    refine ⟨u,rv,?_⟩
    rcases S.par y (List.mem_of_getElem? hp) with k | k
    · exact .inl ⟨k,yg ndP hp hu k⟩
    · obtain ⟨c,e⟩:=ZI (n:=s.heap.objs.size + 1) k
      refine .inr ⟨.inl k,c,e,?_⟩
      have q:=x.cell y c e
      rw [yi ndP hp hu (by show scope.names.lookup y ≠ _;rw [k];decide)] at q
      exact q
  · exact e0.hok.fresh (Nat.le_of_lt (x.above y c (PySem.mem_of_lookup h)))
  · unfold xV
    show _ = N.length
    rw [List.length_append,List.length_map,List.length_replicate]
    omega
theorem zbc {CX:CXT} {P:Program} {w:World} {K:PySem.W.Frag} {mg:Str -> Option Value} {base:Heap} {k:Nat} {f:Addr} {name qual:Str} {params:Arguments} {body:List Stmt} {scope:Scope} {dV kV doc pm cdv ct oc:Value} {an od:Option Addr}
    {osl:Array (Option Value)} {N ps:List Str} {sp:Sp} (lk:K.lookup f = some ⟨oc,od,.func (PySem.W.fnOf name qual params body scope dV kV doc pm an cdv ct),osl⟩) (hcd:PySem.W.codeIn K cdv qual = true) (S:zx N ps scope)
    (len:∀ vs H Q E,sp vs H Q E -> vs.length = ps.length)
    (hbody:∀ (A:Around) (outer:List Env) (s:Shared) (H:Hp) (vs:List V) (Q:VK) (E:XK),Room k (A.deeper (envOfC qual scope s.heap.objs.size f cdv)) -> sp vs H Q E ->
      ∃ t,PSs (J4 CX P w K mg base N qual scope f cdv A outer s H E) body t /\ t { nx:=fun _ H'=>Q .non H',rt:=Q } (xV N vs) H) :
    FnOk P w K mg base CX (k + 1) f (PySem.W.fnOf name qual params body scope dV kV doc pm an cdv ct) ps sp:=by
  refine ⟨len,fun A outer s H args us vs Q E hr e0 hb r hsp=>?_⟩
  have hl:=len _ _ _ _ hsp
  have KX:K.In s.heap:=e0.mod.kin.keeps fun b o e=>(e0.bs b o e).1
  have lim:s.heap.NoLimit:=e0.mod.nolimit.keeps fun b o e=>(e0.bs b o e).1
  have hkind:∀ y ∈ ps.zip us,scope.names.lookup y.1 = some .local \/ (scope.names.lookup y.1 = some .cell /\ ((cellsFrom (s.heap.objs.size + 1) scope.names []).lookup y.1).isSome = true):=fun ⟨n,v⟩ hy=>by
    rcases S.par n (List.of_mem_zip hy).1 with q | q
    · exact .inl q
    · exact .inr ⟨q,PySem.W.cellsFrom_some _ _ _ (.inl q)⟩
  refine codeAny_call_function hr.depth (KX _ _ lk) rfl S.co S.gen rfl (PySem.W.codeRec_of KX hcd) (hb _ _ _ _ ?_)
  refine wpAny_newFunctionEnv_cells S.kind hkind fun env he s1 x=>?_
  subst he
  refine ⟨lim.keeps x.toInCall.keep,codeAny_func ?_⟩
  obtain ⟨t,ht,hq⟩:=hbody A outer s H vs Q E (hr.deeper _) hsp
  have I:Inv (J4 CX P w K mg base N qual scope f cdv A outer s H E) [] (xV N vs) H s1:=JW S hr.hd e0 hl r x
  refine wpAny_mono (ht [] s1 (xV N vs) H _ I hq) (fun fl s' hs=>?_) fun e s' hs=>hs
  have fin:∀ {σ':St} {H':Hp} {v:V} {u:Value},Inv (J4 CX P w K mg base N qual scope f cdv A outer s H E) [] σ' H' s' -> RelV v u -> Q v H' -> CE outer P w H s Q u s':=
    fun {σ' H' v u} J rv q=>⟨v,H',J.os,J.bare,J.base,J.hok,rv,q⟩
  cases fl with
  | ret u=>
    obtain ⟨v,σ',H',J,rv,q⟩:=hs
    exact fin J rv q
  | next=>
    obtain ⟨σ',H',J,q⟩:=hs
    exact fin (v:=V.non) (u:=Value.none) J rfl q
  | brk=>
    obtain ⟨_,_,_,q⟩:=hs
    exact False.elim q
  | cont=>
    obtain ⟨_,_,_,q⟩:=hs
    exact False.elim q
section
variable {X:Cx} {x:Str} {p pos:Pos} {e:Expr} {es:List Expr} {t:TA} {id T:String} {r:List V -> Hp -> VK -> Prop}
def tCB (r:List V -> Hp -> VK -> Prop) (t:TA):TE:=fun σ H Q=>t σ H fun vs H1=>r vs H1 Q
theorem zn (hc:CallR X (.builtin id) r) (hg:Gl X x) (hm:X.mg x = none) (hv:bootBuiltins x = some (.builtin id)) (ha:PA X (e :: es) t) (hn:x ≠ "__name__" :=by decide) (hdb:(x == ("__debug__" : Str)) = false:=by decide)
    (he:starEach (e :: es) X.env = (false,eval e X.env) :: starEach es X.env:=by rfl) (hpl:(backTo pos (starEach es X.env)).any (·.1) = false:=by rfl):PE X (.Call (.Name x p) (e :: es) [] pos) (tCB r t):=by
  intro pins s σ H Q I h
  refine wpAny_Call_Name_kw (jw I hg hm hv ?_ hn hdb)
  exact PyProof.Rows.callWith_builtin1 (thn (ha pos pins s σ H _ I h) fun us s1 ⟨vs,H1,I1,r1,q1⟩=>hc pins s1 σ H1 vs us Q I1 r1 q1) he hpl
theorem zM (hc:CallR X (.type T) r) (hg:Gl X x) (hm:X.mg x = none) (hv:bootBuiltins x = some (.type T)) (ha:PA X (e :: es) t) (hn:x ≠ "__name__" :=by decide) (hdb:(x == ("__debug__" : Str)) = false:=by decide)
    (he:starEach (e :: es) X.env = (false,eval e X.env) :: starEach es X.env:=by rfl) (hpl:(backTo pos (starEach es X.env)).any (·.1) = false:=by rfl):PE X (.Call (.Name x p) (e :: es) [] pos) (tCB r t):=by
  intro pins s σ H Q I h
  refine wpAny_Call_Name_kw (jw I hg hm hv ?_ hn hdb)
  exact PyProof.Rows.callWith_type1 (thn (ha pos pins s σ H _ I h) fun us s1 ⟨vs,H1,I1,r1,q1⟩=>hc pins s1 σ H1 vs us Q I1 r1 q1) he hpl
end
end L2
namespace HT
open PySem PyProof.Rows
section
open PySem.SeqAt
open PySem.AutoSeq1 (wpAny_loadPart')
open PySem.MeetsSeq PySem.MeetsSeq2 PySem.MeetsSeq3
end
section
variable {prog:Program} {w:World} {A:Around} {E:Value -> Shared -> Prop} {s:Shared}
theorem cat_tup {t b:Addr} {vs ws:List Value} {Q:Value -> Shared -> Prop} (ht:IsTup s.heap t vs.toArray) (hb:IsTup s.heap b ws.toArray) (hv:vs ≠ [])
    (h1:ws = [] -> Q (.ref t) s) (h2:ws ≠ [] -> Q (.ref s.heap.objs.size) { s with heap:=s.heap.push { cls:=.type "tuple",data:=.seq (vs ++ ws).toArray } })
    (hsz:vs.length + ws.length <= sizeLine):wpAny (model prog w) A (binaryOp .Add (.ref t) (.ref b)) Q E s:=by
  obtain ⟨⟨cls,dd,data,sl⟩,ho,hc,n,hd⟩:=id ht
  obtain ⟨⟨cls2,dd2,data2,sl2⟩,ho2,hc2,n2,hd2⟩:=id hb
  simp only at hc hd hc2 hd2
  subst hc hd hc2 hd2
  have e:vs.toArray ++ ws.toArray = (vs ++ ws).toArray:=by simp
  by_cases hw:ws = []
  · exact concat_meets ⟨_,ho,rfl⟩ ⟨_,ho2,rfl⟩ noFill_tuple_add seq_tuple_add PySem.F.slot_tuple_add PySem.F.entry_tuple_add (PySem.F.args_tuple_add_2 _ _)
      (tuple_addW1 t b vs.toArray ws.toArray n n2 dd dd2 sl sl2 (by simpa using hv) (by simp [hw])) ⟨ho,ho2,h1 hw⟩
  · refine concat_meets ⟨_,ho,rfl⟩ ⟨_,ho2,rfl⟩ noFill_tuple_add seq_tuple_add PySem.F.slot_tuple_add PySem.F.entry_tuple_add (PySem.F.args_tuple_add_2 _ _)
      (tuple_addW2 t b vs.toArray ws.toArray n n2 dd dd2 sl sl2 (by simpa using hv) (by simpa using hw) (by rw [List.size_toArray,List.size_toArray];exact hsz)) ⟨ho,ho2,?_⟩
    rw [e]
    exact h2 hw
def sIx (n d:Nat):Option Int -> Nat
  | none=>d
  | some v=>if v < 0 then (v + (n:Int)).toNat else min v.toNat n
theorem sIx_none (n d:Nat):sIx n d none = d:=rfl
theorem sIx_nat (n d k:Nat):sIx n d (some (k:Int)) = min k n:=by
  show (if (k:Int) < 0 then ((k:Int) + (n:Int)).toNat else min (k:Int).toNat n) = min k n
  rw [if_neg (by omega),Int.toNat_natCast]
theorem YK (n d:Nat) (hd:d <= n) (o:Option Int):sIx n d o <= n:=by
  cases o with
  | none=>exact hd
  | some v=>
    show (if v < 0 then (v + (n:Int)).toNat else min v.toNat n) <= n
    by_cases hv:v < 0
    · rw [if_pos hv];omega
    · rw [if_neg hv];exact Nat.min_le_right _ _
theorem Jc (v:Int) (n d:Nat):(if v < 0 then max (v + (n:Int)) 0 else min v (n:Int)) = ((sIx n d (some v):Nat):Int):=by
  show (if v < 0 then max (v + (n:Int)) 0 else min v (n:Int)) = (((if v < 0 then (v + (n:Int)).toNat else min v.toNat n):Nat):Int)
  by_cases hv:v < 0
  · simp only [if_pos hv];omega
  · simp only [if_neg hv];omega
theorem Qs (lo hi:Option Int) (n:Nat):Builtin.Slice.sliceAdjust lo hi 1 (n:Int) = (((sIx n 0 lo:Nat):Int),((sIx n n hi:Nat):Int)):=by
  have h1:¬ ((1:Int) < 0):=by omega
  unfold Builtin.Slice.sliceAdjust
  simp only [h1,if_false]
  refine Prod.ext ?_ ?_
  · cases lo with
    | none=>rfl
    | some v=>exact Jc v n 0
  · cases hi with
    | none=>rfl
    | some v=>exact Jc v n n
theorem Z6 (i j:Nat):Builtin.Slice.slicePlaces (i:Int) (j:Int) 1 = j - i:=by
  unfold Builtin.Slice.slicePlaces
  have h1:(1:Int) > 0:=by omega
  simp only [h1,if_true,Int.ediv_one]
  split <;> omega
theorem vJ {v:Value} {o:Option Int} {Q:Option Int -> Shared -> Prop} (p:IsPart v o) (h:Q o s):wpAny (model prog w) A (Builtin.Slice.slicePartIndex v) Q E s:=by
  cases p with
  | none=>exact slicePart_none h
  | int i t=>exact slicePart_int h
theorem xL {sl:Addr} {vl vu:Value} {lo hi:Option Int} {n:Nat} {Q:Int × Int × Nat -> Shared -> Prop} (hs:s.heap.IsSliceOf sl vl vu .none) (pl:IsPart vl lo) (pu:IsPart vu hi)
    (h:Q (((sIx n 0 lo:Nat):Int),1,sIx n n hi - sIx n 0 lo) s):wpAny (model prog w) A (Builtin.Slice.sliceApplied (.ref sl) (pure (n:Int))) Q E s:=by
  obtain ⟨os,hos,hcs,hds⟩:=id hs
  unfold Builtin.Slice.sliceApplied Builtin.Slice.sliceFields
  refine wpAny_bind (wpAny_bind (wpAny_field hos hds (x:=vl) rfl (wpAny_bind (wpAny_field hos hds (x:=vu) rfl (wpAny_bind (wpAny_field hos hds (x:=.none) rfl (wpAny_pure ?_)))))))
  refine wpAny_bind (slicePart_none ?_)
  show wpAny _ _ (if ((1:Int) == 0) = true then _ else _) _ _ s
  rw [if_neg (by decide)]
  refine wpAny_bind (vJ pl (wpAny_bind (vJ pu (wpAny_bind (wpAny_pure ?_)))))
  show wpAny _ _ (match Builtin.Slice.sliceAdjust lo hi 1 (n:Int) with | (lo,hi)=>pure (lo,(1:Int),Builtin.Slice.slicePlaces lo hi 1)) _ _ s
  rw [Qs lo hi n]
  show wpAny _ _ (pure (((sIx n 0 lo:Nat):Int),(1:Int),Builtin.Slice.slicePlaces ((sIx n 0 lo:Nat):Int) ((sIx n n hi:Nat):Int) 1)) _ _ s
  rw [Z6]
  exact wpAny_pure h
theorem XZ (xs:Array Value) (i k:Nat):((List.range k).filterMap fun (m:Nat)=>xs[((i:Int) + (m:Int) * 1).toNat]?).toArray = ((xs.toList.drop i).take k).toArray:=by
  have e:(fun (m:Nat)=>xs[((i:Int) + (m:Int) * 1).toNat]?) = fun m=>xs[i + m]?:=by
    funext m
    have:((i:Int) + (m:Int) * 1).toNat = i + m:=by omega
    rw [this]
  rw [e]
  have:=pick_run xs i k
  rw [List.filterMap_map] at this
  have e2:((fun x=>xs[x]?) ∘ fun x=>i + x) = fun m=>xs[i + m]?:=rfl
  rw [e2] at this
  rw [this]
theorem getItem_tuple_cut {t sl:Addr} {items:Array Value} {vl vu:Value} {lo hi:Option Int} {Q:Value -> Shared -> Prop} (ht:IsTup s.heap t items) (hs:s.heap.IsSliceOf sl vl vu .none) (pl:IsPart vl lo) (pu:IsPart vu hi)
    (hw:¬ (sIx items.size 0 lo = 0 /\ sIx items.size items.size hi = items.size))
    (h:Q (.ref s.heap.objs.size) { s with heap:=s.heap.push { cls:=.type "tuple",data:=.seq ((items.toList.drop (sIx items.size 0 lo)).take (sIx items.size items.size hi - sIx items.size 0 lo)).toArray } })
    (hsz:items.size <= sizeLine):wpAny (model prog w) A (getItem (.ref t) (.ref sl)) Q E s:=by
  have htake:sizeOk (.seq ((items.toList.drop (sIx items.size 0 lo)).take (sIx items.size items.size hi - sIx items.size 0 lo)).toArray):=by
    show ((items.toList.drop (sIx items.size 0 lo)).take (sIx items.size items.size hi - sIx items.size 0 lo)).toArray.size <= sizeLine
    rw [List.size_toArray,List.length_take,List.length_drop,Array.length_toList]
    omega
  have hj:sIx items.size items.size hi <= items.size:=YK _ _ (Nat.le_refl _) hi
  obtain ⟨os,hos,hcs,hds⟩:=id hs
  have hTs:s.TypeIs (.ref sl) "slice" :=⟨os,hos,hcs⟩
  unfold getItem
  try with_reducible refine wpAny_holding ?_
  first | refine wpAny_bind (wpAny_pure ?_) | skip
  refine wpAny_bind (wpAny_sequenceKey ht.typeIs (by decide) ?_)
  refine wpAny_bind (wpAny_callSpecial?_slot (name:=Str.ofString "__getitem__") ht.typeIs PyProof.Rows.slot_tuple_getitem
    (wpAny_call_entry PyProof.Rows.slot_tuple_getitem ht.typeIs entry_tuple_getitem ?_ (args_tuple_getitem _ _)))
  show wpAny _ _ (Builtin.Tuple.tupleItemsOf (.ref t) >>= _) _ _ s
  refine wpAny_bind (tupleItemsOf_ ht ?_)
  refine wpAny_bind (wpAny_typeOf hTs ?_)
  rw [if_pos (by decide)]
  refine wpAny_bind (xL hs pl pu ?_)
  have hno:¬ ((((sIx items.size 0 lo:Nat):Int) == 0 && (1:Int) == 1 && (sIx items.size items.size hi - sIx items.size 0 lo) == items.size) = true):=by
    intro q
    rw [Bool.and_eq_true,Bool.and_eq_true] at q
    have q1:((sIx items.size 0 lo:Nat):Int) = 0:=eq_of_beq q.1.1
    have q2:sIx items.size items.size hi - sIx items.size 0 lo = items.size:=eq_of_beq q.2
    exact hw ⟨by omega,by omega⟩
  show wpAny _ _ (if (((sIx items.size 0 lo:Nat):Int) == 0 && (1:Int) == 1 && (sIx items.size items.size hi - sIx items.size 0 lo) == items.size) = true then _ else _) _ _ s
  rw [if_neg hno,XZ]
  first
    | exact wpAny_bind (m:=Builtin.Tuple.tupleExact _) (wpAny_newObj_type (wpAny_pure ⟨_,rfl,wpAny_pure h⟩) htake)
    | exact wpAny_bind (m:=Builtin.Tuple.tupleExact _) (wpAny_newObj_type (wpAny_bind (wpAny_pure (wpAny_pure ⟨_,rfl,wpAny_pure h⟩))) htake)
    | exact wpAny_bind (wpAny_bind (m:=Builtin.Tuple.tupleExact _) (wpAny_newObj_type (wpAny_pure (wpAny_pure ⟨_,rfl,wpAny_pure h⟩)) htake))
    | exact wpAny_bind (wpAny_bind (m:=Builtin.Tuple.tupleExact _) (wpAny_newObj_type (wpAny_pure ⟨_,rfl,wpAny_pure h⟩) htake))
end
end HT
namespace L2
open PySem PySem.Spec PyProof.Rows
abbrev TO:=St -> Hp -> (Option Int -> Hp -> Prop) -> Prop
def PO (X:Cx) (e:Option Expr) (t:TO):Prop:=
  ∀ (pins:List (Addr × Obj)) (s:Shared) (σ:St) (H:Hp) (Q:Option Int -> Hp -> Prop),Inv X pins σ H s -> t σ H Q ->
    wpAny (model X.prog X.w) X.A (evalPart e X.env) (fun u s'=>∃ o H',Inv X pins σ H' s' /\ IsPart u o /\ Q o H') X.xe s
def V4:TO:=fun _ H Q=>Q none H
def zay (t:TE):TO:=fun σ H Q=>t σ H fun x H1=>IsI x H1 fun i H1=>Q (some i) H1
theorem Ql {ns:List Int}:∀ {us:List Value},Vals (ns.map V.int) us -> IntsAre us ns:=by
  induction ns with
  | nil=>intro us r;rw [List.map_nil] at r;cases r;exact .nil
  | cons n ns ih=>
    intro us r
    rw [List.map_cons] at r
    cases r with
    | cons r1 r2=>
      obtain ⟨t,e⟩:=r1
      subst e
      exact .cons n t (ih r2)
section
variable {X:Cx} {e:Expr} {te:TE} {lo hi:Option Expr} {tl th:TO} {pos p2:Pos}
theorem vm:PO X none V4:=by
  intro pins s σ H Q I h
  rw [evalPart_none]
  exact wpAny_pure ⟨none,H,I,.none,h⟩
theorem jT (h:PE X e te):PO X (some e) (zay te):=by
  intro pins s σ H Q I hw
  rw [evalPart_some]
  refine thn (h pins s σ H _ I hw) fun u s1 ⟨x,H1,I1,r1,q1⟩=>?_
  obtain ⟨i,rfl,q⟩:=q1
  obtain ⟨t,rfl⟩:=r1
  exact ⟨some i,H1,I1,.int i t,q⟩
def SlR (X:Cx) (r:V -> Option Int -> Option Int -> Hp -> VK -> Prop):Prop:=
  ∀ (pins:List (Addr × Obj)) (s:Shared) (σ:St) (H:Hp) (x:V) (v vl vu:Value) (lo hi:Option Int) (sl:Addr) (Q:VK),Inv X pins σ H s -> RelV x v -> s.heap.IsSliceOf sl vl vu .none -> IsPart vl lo -> IsPart vu hi -> r x lo hi H Q ->
    ∃ T id,typeLookup (.type T) "__getitem__" = pure (some (.builtin id)) /\ s.TypeIs v T /\ wpAny (model X.prog X.w) X.A (getItem v (.ref sl)) (EP X pins σ Q) X.xe s
theorem SlR.or {r r':V -> Option Int -> Option Int -> Hp -> VK -> Prop} (h:SlR X r) (h':SlR X r'):SlR X (fun x lo hi H Q=>r x lo hi H Q \/ r' x lo hi H Q):=by
  intro pins s σ H x v vl vu lo hi sl Q I rx hs pl pu q
  rcases q with q | q
  · exact h pins s σ H x v vl vu lo hi sl Q I rx hs pl pu q
  · exact h' pins s σ H x v vl vu lo hi sl Q I rx hs pl pu q
def tSl (r:V -> Option Int -> Option Int -> Hp -> VK -> Prop) (te:TE) (tl th:TO):TE:=fun σ H Q=>te σ H fun x H1=>tl σ H1 fun l H2=>th σ H2 fun u H3=>r x l u H3 Q
theorem jF {r:V -> Option Int -> Option Int -> Hp -> VK -> Prop} (hr:SlR X r) (he:PE X e te) (hl:PO X lo tl) (hu:PO X hi th):PE X (.Subscript e (.Slice lo hi none p2) pos) (tSl r te tl th):=by
  intro pins s σ H Q I h
  refine Subscript_ (thn (he pins s σ H _ I h) fun v s1 ⟨x,H1,I1,r1,q1⟩=>?_)
  refine wpAny_Slice (thn (hl pins s1 σ H1 _ I1 q1) fun vl s2 ⟨l,H2,I2,pl,q2⟩=>thn (hu pins s2 σ H2 _ I2 q2) fun vu s3 ⟨u,H3,I3,pu,q3⟩=>?_)
  rw [evalPart_none]
  refine wpAny_pure ?_
  have I4:Inv X pins σ H3 { s3 with heap:=s3.heap.push { cls:=.type "slice",data:=.fields #[vl,vu,.none] } }:=I3.kept (t':=s3.toks) fun b ob q=>Heap.get?_push_of_some _ q
  obtain ⟨T,id,hT,ht,hg⟩:=hr pins { s3 with heap:=s3.heap.push { cls:=.type "slice",data:=.fields #[vl,vu,.none] } } σ H3 x v vl vu l u s3.heap.objs.size Q I4 r1 (Heap.IsSliceOf.new ..) pl pu q3
  show wpAny (model X.prog X.w) X.A (subscriptTail e (.Slice lo hi none p2) v (.ref s3.heap.objs.size)) (EP X pins σ Q) X.xe { s3 with heap:=s3.heap.push { cls:=.type "slice",data:=.fields #[vl,vu,.none] } }
  exact tail_any (ops:=[.ref s3.heap.objs.size,v]) ht hT hg (by with_unfolding_all rfl)
def qK (xs:List V) (lo hi:Option Int):List V:=(xs.drop (HT.sIx xs.length 0 lo)).take (HT.sIx xs.length xs.length hi - HT.sIx xs.length 0 lo)
theorem xZ (xs:List V) (lo hi:Option Int):(qK xs lo hi).length <= xs.length:=by
  unfold qK
  rw [List.length_take,List.length_drop]
  omega
inductive zaR (K:PySem.W.Frag) (x:V) (lo:Option Int) (hi:Option Int) (H:Hp) (Q:VK):Prop
  | mk (a xs:_) (_:x = .ref a) (_:SqT K H a xs) (_:¬ (HT.sIx xs.length 0 lo = 0 /\ HT.sIx xs.length xs.length hi = xs.length)) (_:∀ p,H p = none -> Q (.ref p) (upd H p (.tup (qK xs lo hi)))):zaR K x lo hi H Q
theorem Xv:SlR X (zaR X.K):=by
  intro pins s σ H x v vl vu lo hi sl Q I rx hs pl pu h
  obtain ⟨a,xs,rfl,hx,hw,q⟩:=h
  cases rx
  obtain ⟨its,r,ht,hz⟩:=I.tuple hx
  have hlen:its.toArray.size = xs.length:=by rw [List.size_toArray];exact r.length.symm
  refine ⟨"tuple",_,PyProof.Rows.slot_tuple_getitem.lookup,ht.typeIs,?_⟩
  refine HT.getItem_tuple_cut ht hs pl pu (by rw [hlen];exact hw) ?_ (by rw [hlen];exact hz)
  rw [hlen]
  refine ⟨.ref s.heap.objs.size,_,I.laid (t':=s.toks) (o:=.tup (qK xs lo hi)) (fun b ob q=>Heap.get?_push_of_some _ q) (Nat.le_refl _) ?_,rfl,q _ (I.hok.fresh (Nat.le_refl _))⟩
  exact ⟨Nat.le_trans (xZ xs lo hi) hz,_,(r.drop (HT.sIx xs.length 0 lo)).take (HT.sIx xs.length xs.length hi - HT.sIx xs.length 0 lo),⟨IsTup.new _ _,_,Heap.get?_push_size _ rfl,rfl⟩⟩
inductive Ym (K:PySem.W.Frag) (x:V) (y:V) (H:Hp) (Q:VK):Prop
  | mk (a b xs ys:_) (_:x = .ref a) (_:y = .ref b) (_:SqT K H a xs) (_:SqT K H b ys) (_:xs ≠ []) (_:xs.length + ys.length <= sizeLine) (_:(ys = [] -> Q (.ref a) H)) (_:(ys ≠ [] -> ∀ p,H p = none -> Q (.ref p) (upd H p (.tup (xs ++ ys))))):Ym K x y H Q
theorem Vals.nil_iff {xs:List V} {us:List Value} (r:Vals xs us):us = [] ↔ xs = []:=by
  cases r with
  | nil=>simp
  | cons _ _=>simp
theorem Wp:OpR X (binaryOp .Add) (Ym X.K):=by
  intro pins s σ H x y v u Q I rx ry h
  obtain ⟨a,b,xs,ys,rfl,rfl,ha,hb,hx,hz,q1,q2⟩:=h
  cases rx
  cases ry
  obtain ⟨its,r1,p1,_⟩:=I.tuple ha
  obtain ⟨its2,r2,p2,_⟩:=I.tuple hb
  refine HT.cat_tup p1 p2 (fun z=>hx (r1.nil_iff.mp z)) (fun z=>⟨.ref a,H,I,rfl,q1 (r2.nil_iff.mp z)⟩) (fun z=>?_) (by rw [<- r1.length,<- r2.length];exact hz)
  refine ⟨.ref s.heap.objs.size,_,I.laid (t':=s.toks) (o:=.tup (xs ++ ys)) (fun b ob q=>Heap.get?_push_of_some _ q) (Nat.le_refl _) ?_,rfl,q2 (fun w=>z (r2.nil_iff.mpr w)) _ (I.hok.fresh (Nat.le_refl _))⟩
  exact ⟨by rw [List.length_append];exact hz,_,r1.append r2,⟨IsTup.new _ _,_,Heap.get?_push_size _ rfl,rfl⟩⟩
end
def ixN (n:Nat) (i:Int):Option Nat:=if 0 <= i then (if i < n then some i.toNat else none) else if -(n:Int) <= i then some (i + n).toNat else none
def atI {α:Type} (xs:List α) (i:Int):Option α:=(ixN xs.length i).bind fun j=>xs[j]?
theorem Q4 {n:Nat} {i:Int} {j:Nat} (h:ixN n i = some j):seqIndex? i n = some j /\ j < n /\ -(n:Int) <= i /\ i < n:=by
  unfold ixN at h
  by_cases h0:0 <= i
  · rw [if_pos h0] at h
    by_cases h1:i < n
    · rw [if_pos h1] at h
      have e:i.toNat = j:=Option.some.inj h
      exact ⟨by rw [seqIndex_of h0 h1,e],by omega,by omega,h1⟩
    · rw [if_neg h1] at h;cases h
  · rw [if_neg h0] at h
    by_cases h1:-(n:Int) <= i
    · rw [if_pos h1] at h
      have e:(i + n).toNat = j:=Option.some.inj h
      exact ⟨by rw [seqIndex_neg (by omega) h1,e],by omega,h1,by omega⟩
    · rw [if_neg h1] at h;cases h
theorem yS {α:Type} {xs:List α} {i:Int} {v:α} (h:atI xs i = some v):∃ j,seqIndex? i xs.length = some j /\ xs[j]? = some v /\ j < xs.length /\ -(xs.length:Int) <= i /\ i < xs.length:=by
  unfold atI at h
  cases e:ixN xs.length i with
  | none=>rw [e] at h;cases h
  | some j=>
    rw [e] at h
    obtain ⟨h1,h2,h3,h4⟩:=Q4 e
    exact ⟨j,h1,h,h2,h3,h4⟩
theorem qZ {α:Type} {xs:List α} {j:Nat} {v:α} (h:xs[j]? = some v):atI xs (j:Int) = some v:=by
  have hj:j < xs.length:=(List.getElem?_eq_some_iff.mp h).1
  have e:ixN xs.length (j:Int) = some j:=by
    unfold ixN
    rw [if_pos (by omega),if_pos (by omega)];simp
  unfold atI;rw [e];exact h
def W4 (b:Expr):Prop:=∀ o i,subscripted b false o i = operate [o,i] (getItem o i)
def IxR (X:Cx) (r:R2):Prop:=
  ∀ (value slice:Expr) (pins:List (Addr × Obj)) (s:Shared) (σ:St) (H:Hp) (x y:V) (v u:Value) (Q:VK),Inv X pins σ H s -> RelV x v -> RelV y u -> r x y H Q ->
    subscripted slice false v u = operate [v,u] (getItem v u) -> wpAny (model X.prog X.w) X.A (subscriptTail value slice v u) (EP X pins σ Q) X.xe s
def MtR (X:Cx) (id:String) (r:V -> List V -> Hp -> VK -> Prop):Prop:=
  ∀ (pins:List (Addr × Obj)) (s:Shared) (σ:St) (H:Hp) (x:V) (xs:List V) (v:Value) (us:List Value) (Q:VK),Inv X pins σ H s -> RelV x v -> Vals xs us -> r x xs H Q ->
    wpAny (model X.prog X.w) X.A (call (.builtin id) (v :: us)) (EP X pins σ Q) X.xe s
section
variable {X:Cx} {a b:Expr} {ta tb:TE} {pos:Pos}
theorem IxR.or {r r':R2} (h:IxR X r) (h':IxR X r'):IxR X (fun x y H Q=>r x y H Q \/ r' x y H Q):=by
  intro value slice pins s σ H x y v u Q I rx ry q hs
  rcases q with q | q
  · exact h value slice pins s σ H x y v u Q I rx ry q hs
  · exact h' value slice pins s σ H x y v u Q I rx ry q hs
theorem MtR.or {id:String} {r r':V -> List V -> Hp -> VK -> Prop} (h:MtR X id r) (h':MtR X id r'):MtR X id (fun x xs H Q=>r x xs H Q \/ r' x xs H Q):=by
  intro pins s σ H x xs v us Q I rx rs q
  rcases q with q | q
  · exact h pins s σ H x xs v us Q I rx rs q
  · exact h' pins s σ H x xs v us Q I rx rs q
theorem zy {r:R2} (hr:IxR X r) (ha:PE X a ta) (hb:PE X b tb) (hs:W4 b):PE X (.Subscript a b pos) (tOp r ta tb):=by
  intro pins s σ H Q I h
  exact Subscript_ (zaq ha hb I h fun v u s2 x y H2 I2 rx ry q=>hr a b pins s2 σ H2 x y v u Q I2 rx ry q (hs _ _))
inductive YN (K:PySem.W.Frag) (x:V) (y:V) (H:Hp) (Q:VK):Prop
  | mk (p xs i v:_) (_:x = .ref p) (_:y = .int i) (_:SqL K H p xs) (_:atI xs i = some v) (_:Q v H):YN K x y H Q
inductive YM (K:PySem.W.Frag) (x:V) (y:V) (H:Hp) (Q:VK):Prop
  | mk (p xs i v:_) (_:x = .ref p) (_:y = .int i) (_:SqT K H p xs) (_:atI xs i = some v) (_:Q v H):YM K x y H Q
inductive zaT (x:V) (y:V) (H:Hp) (Q:VK):Prop
  | mk (z i c:_) (_:x = .str z) (_:y = .int i) (_:z.length <= sizeLine) (_:atI z.cps.toList i = some c) (_:Q (.str ⟨#[c]⟩) H):zaT  x y H Q
theorem zP:IxR X (YN X.K):=by
  intro value slice pins s σ H x y v u Q I rx ry h hs
  obtain ⟨p,xs,i,z,rfl,rfl,hq,he,q⟩:=h
  cases rx
  obtain ⟨t,rfl⟩:=ry
  obtain ⟨its,r,pl,hz⟩:=I.list hq
  obtain ⟨j,h1,h2,h3,h4,h5⟩:=yS he
  obtain ⟨w,ew,rw'⟩:=r.get h2
  have hl:=r.length
  have hn:=vT
  have fin:EP X pins σ Q w s:=⟨z,H,I,rw',q⟩
  by_cases h0:0 <= i
  · have hj:i.toNat = j:=by
      rw [seqIndex_of h0 h5] at h1
      exact Option.some.inj h1
    exact item_listR pl.isList h0 (by omega) (by rw [hj];simpa using ew) fin hs
  · have hj:(i + (its.toArray.size:Int)).toNat = j:=by
      rw [seqIndex_neg (by omega) h4] at h1
      rw [List.size_toArray,<- hl]
      exact Option.some.inj h1
    exact subscriptTail_builtinR (x:=w) pl.isList.typeIs slot_list_getitem.lookup
      (wpAny_getItem_list_neg (Q:=fun r s'=>r = w /\ EP X pins σ Q r s') pl.isList (by omega) (by rw [List.size_toArray] <;> omega) (by omega) (by rw [hj];simpa using ew) ⟨rfl,fin⟩) hs
theorem zX:IxR X (YM X.K):=by
  intro value slice pins s σ H x y v u Q I rx ry h hs
  obtain ⟨p,xs,i,z,rfl,rfl,hq,he,q⟩:=h
  cases rx
  obtain ⟨t,rfl⟩:=ry
  obtain ⟨its,r,pl,hz⟩:=I.tuple hq
  obtain ⟨j,h1,h2,h3,h4,h5⟩:=yS he
  obtain ⟨w,ew,rw'⟩:=r.get h2
  have hl:=r.length
  have hn:=vT
  have fin:EP X pins σ Q w s:=⟨z,H,I,rw',q⟩
  exact subscriptTail_builtinR (x:=w) pl.typeIs slot_tuple_getitem.lookup
    (getItem_tuple (j:=j) (Q:=fun r s'=>r = w /\ EP X pins σ Q r s') pl (by omega) (by omega) (by rw [List.size_toArray,<- hl];exact h1) (by simpa using ew) ⟨rfl,fin⟩) hs
theorem zaj:IxR X zaT:=by
  intro value slice pins s σ H x y v u Q I rx ry h hs
  obtain ⟨z,i,c,rfl,rfl,hz,he,q⟩:=h
  obtain ⟨t,rfl⟩:=rx
  obtain ⟨t',rfl⟩:=ry
  obtain ⟨j,h1,h2,h3,h4,h5⟩:=yS he
  have hl:z.cps.toList.length = z.length:=by simp [Str.length]
  rw [hl] at h1 h4 h5
  have hn:=vT
  exact tail_any (typeIs_str s z t) slot_str_getitem.lookup (getItem_str (c:=c) (by
    have e1:decide (i < -(2 ^ 63:Int)) = false:=decide_eq_false (by omega)
    have e2:decide (i ≥ 2 ^ 63) = false:=decide_eq_false (by omega)
    rw [e1,e2,Bool.or_false]) (by rw [h1];simpa using h2) ⟨.str ⟨#[c]⟩,H,I.tok _,⟨_,rfl⟩,q⟩) hs
theorem Qj (its:List Value) (n j:Nat) (u:Value):Obj.mapSeq (·.setIfInBounds j u) { cls:=.type "list",data:=.seq its.toArray n } = { cls:=.type "list",data:=.seq (its.set j u).toArray n }:=by
  simp [Obj.mapSeq]
theorem Inv.lst {pins:List (Addr × Obj)} {σ:St} {H:Hp} {s:Shared} {p:Addr} {xs:List V} (I:Inv X pins σ H s) (h:H p = some (.lst xs)) :
    ∃ (its:List Value) (n:Nat),Vals xs its /\ s.heap.get? p = some { cls:=.type "list",data:=.seq its.toArray n } /\ xs.length <= sizeLine:=by
  obtain ⟨z,its,n,r,e⟩:=I.hok p _ h
  exact ⟨its,n,r,e,z⟩
theorem Inv.lstUpd {pins:List (Addr × Obj)} {σ:St} {H:Hp} {s:Shared} {p:Addr} {xs ys:List V} {its its':List Value} {n n':Nat} {f:Obj -> Obj} (I:Inv X pins σ H s) (h:H p = some (.lst xs))
    (ho:s.heap.get? p = some { cls:=.type "list",data:=.seq its.toArray n }) (hf:f { cls:=.type "list",data:=.seq its.toArray n } = { cls:=.type "list",data:=.seq its'.toArray n' }) (r:Vals ys its') (hz:ys.length <= sizeLine) (t:Nat) :
    Inv X pins σ (upd H p (.lst ys)) { s with heap:=s.heap.update p f,toks:=t }:=by
  have e:(s.heap.update p f).get? p = some { cls:=.type "list",data:=.seq its'.toArray n' }:=by
    rw [Heap.get?_update_self f ho (by rw [hf] <;> rfl),hf]
  refine I.write (x:=p) (e:=p) (by rw [h];trivial) (.inl rfl) (fun b u hb q=>(Heap.get?_update_other _ _ (Ne.symm hb)).trans q) ⟨_,e⟩ ?_
  exact ⟨hz,its',n',r,e⟩
inductive Yi (o:V) (i:V) (v:V) (H:Hp) (Q:Hp -> Prop):Prop
  | mk (p xs k j:_) (_:o = .ref p) (_:i = .int k) (_:H p = some (.lst xs)) (_:ixN xs.length k = some j) (_:Q (upd H p (.lst (xs.set j v)))):Yi  o i v H Q
theorem vL:zat X Yi:=by
  intro pins s σ H o i v ov iv u Q I ro ri rv h
  obtain ⟨p,xs,k,j,rfl,rfl,hp,hj,q⟩:=h
  cases ro
  obtain ⟨t,rfl⟩:=ri
  obtain ⟨its,n,r,ho,hz⟩:=I.lst hp
  obtain ⟨h1,h2,h3,h4⟩:=Q4 hj
  have hl:=r.length
  have hn:=vT
  have I':Inv X pins σ (upd H p (.lst (xs.set j v))) { s with heap:=s.heap.update p (Obj.mapSeq (·.setIfInBounds j u)) }:=
    I.lstUpd hp ho (Qj its n j u) (r.set rv j) (by rw [List.length_set];exact hz) s.toks
  by_cases h0:0 <= k
  · have hk:k.toNat = j:=by
      rw [seqIndex_of h0 h4] at h1
      exact Option.some.inj h1
    exact PySem.W.ki_setAt ho h0 (by omega) (by rw [List.size_toArray,<- hl];exact h4) (by rw [hk];exact ⟨_,I',q⟩)
  · have hk:(k + (its.toArray.size:Int)).toNat = j:=by
      rw [seqIndex_neg (by omega) h3] at h1
      rw [List.size_toArray,<- hl]
      exact Option.some.inj h1
    exact PySem.W.ki_setBack ho (by omega) (by rw [List.size_toArray,<- hl];exact h3) (by omega) (by rw [hk];exact ⟨_,I',q⟩)
theorem yt (lo hi:Option Int) (n:Nat):(sliceBounds lo hi none n).1 = ((HT.sIx n 0 lo:Nat):Int) /\ (sliceBounds lo hi none n).2.1 = ((HT.sIx n n hi:Nat):Int) /\ (sliceBounds lo hi none n).2.2 = 1:=by
  refine ⟨?_,?_,rfl⟩
  · cases lo with
    | none=>simp [sliceBounds,HT.sIx]
    | some i=>
      simp only [sliceBounds,HT.sIx,Option.getD_none,show (1:Int) > 0 by decide,if_true]
      by_cases h:i < 0
      · simp only [h,if_true] <;> omega
      · simp only [h,if_false] <;> omega
  · cases hi with
    | none=>simp [sliceBounds,HT.sIx]
    | some i=>
      simp only [sliceBounds,HT.sIx,Option.getD_none,show (1:Int) > 0 by decide,if_true]
      by_cases h:i < 0
      · simp only [h,if_true] <;> omega
      · simp only [h,if_false] <;> omega
theorem wA (its:List Value) (lo hi:Option Int):slicePick its.toArray lo hi none = ((its.drop (HT.sIx its.length 0 lo)).take (HT.sIx its.length its.length hi - HT.sIx its.length 0 lo)).toArray:=by
  obtain ⟨h1,h2,h3⟩:=yt lo hi its.toArray.size
  unfold slicePick
  rw [h1,h2,h3]
  simp only [sliceRange_one,pick_run,List.size_toArray] <;> rfl
inductive zaS (K:PySem.W.Frag) (x:V) (lo:Option Int) (hi:Option Int) (H:Hp) (Q:VK):Prop
  | mk (a xs:_) (_:x = .ref a) (_:SqL K H a xs) (_:∀ p,H p = none -> Q (.ref p) (upd H p (.lst (qK xs lo hi)))):zaS K x lo hi H Q
theorem yu:SlR X (zaS X.K):=by
  intro pins s σ H x v vl vu lo hi sl Q I rx hs pl pu h
  obtain ⟨a,xs,rfl,hx,q⟩:=h
  cases rx
  obtain ⟨its,r,ht,hz⟩:=I.list hx
  have hlen:=r.length
  refine ⟨"list",_,slot_list_getitem.lookup,ht.isList.typeIs,?_⟩
  refine wpAny_getItem_list_slice ht.isList hs pl pu .none (by simp) ?_ (by rw [List.size_toArray] <;> omega)
  rw [wA,<- hlen]
  refine ⟨.ref s.heap.objs.size,_,I.laid (t':=s.toks) (o:=.lst (qK xs lo hi)) (fun b ob q=>Heap.get?_push_of_some _ q) (Nat.le_refl _) ?_,rfl,q _ (I.hok.fresh (Nat.le_refl _))⟩
  exact ⟨Nat.le_trans (xZ xs lo hi) hz,_,0,(r.drop (HT.sIx xs.length 0 lo)).take (HT.sIx xs.length xs.length hi - HT.sIx xs.length 0 lo),Heap.get?_push_size _ rfl⟩
def qH:V -> Bool
  | .non=>true
  | .bl _=>true
  | .int _=>true
  | .str _=>true
  | _=>false
def eqV:V -> V -> Bool
  | .non,.non=>true
  | .bl a,.bl b=>a == b
  | .bl a,.int b=>(if a then 1 else 0) == b
  | .int a,.bl b=>a == (if b then 1 else 0)
  | .int a,.int b=>a == b
  | .str a,.str b=>a == b
  | _,_=>false
theorem VL {A:Around} {s:Shared} {y x:V} {u v:Value} (ry:RelV y u) (rx:RelV x v) (fy:qH y = true) (fx:qH x = true):SeqAt.EqAt A s u v (eqV y x):=by
  cases y with
  | non=>
    cases ry
    cases x with
    | non=>cases rx;exact SeqAt.EqAt.same _
    | bl b=>cases rx;exact SeqAt.EqAt.none_bool b
    | int b=>obtain ⟨t,rfl⟩:=rx;exact SeqAt.EqAt.none_int b t
    | str b=>obtain ⟨t,rfl⟩:=rx;exact SeqAt.EqAt.none_str b t
    | _=>exact absurd (show false = true from fx) Bool.false_ne_true
  | bl a=>
    cases ry
    cases x with
    | non=>cases rx;exact SeqAt.EqAt.bool_none a
    | bl b=>cases rx;exact SeqAt.EqAt.bool_bool a b
    | int b=>obtain ⟨t,rfl⟩:=rx;exact SeqAt.EqAt.bool_int a b t
    | str b=>obtain ⟨t,rfl⟩:=rx;exact SeqAt.EqAt.bool_str a b t
    | _=>exact absurd (show false = true from fx) Bool.false_ne_true
  | int a=>
    obtain ⟨t',rfl⟩:=ry
    cases x with
    | non=>cases rx;exact SeqAt.EqAt.int_none a t'
    | bl b=>cases rx;exact SeqAt.EqAt.int_bool a t' b
    | int b=>obtain ⟨t,rfl⟩:=rx;exact SeqAt.EqAt.int_int a t' b t
    | str b=>obtain ⟨t,rfl⟩:=rx;exact SeqAt.EqAt.int_str a t' b t
    | _=>exact absurd (show false = true from fx) Bool.false_ne_true
  | str a=>
    obtain ⟨t',rfl⟩:=ry
    cases x with
    | non=>cases rx;exact SeqAt.EqAt.str_none a t'
    | bl b=>cases rx;exact SeqAt.EqAt.str_bool a t' b
    | int b=>obtain ⟨t,rfl⟩:=rx;exact SeqAt.EqAt.str_int a t' b t
    | str b=>obtain ⟨t,rfl⟩:=rx;exact SeqAt.EqAt.str_str a t' b t
    | _=>exact absurd (show false = true from fx) Bool.false_ne_true
  | _=>exact absurd (show false = true from fy) Bool.false_ne_true
def eqU (x:V) (u:Value):Bool:=match u with
  | .none=>eqV .non x
  | .bool b=>eqV (.bl b) x
  | .int i _=>eqV (.int i) x
  | .str z _=>eqV (.str z) x
  | _=>false
theorem VJ {x y:V} {u:Value} (r:RelV y u) (f:qH y = true):eqU x u = eqV y x:=by
  cases y with
  | non=>cases r;rfl
  | bl b=>cases r;rfl
  | int i=>obtain ⟨t,rfl⟩:=r;rfl
  | str z=>obtain ⟨t,rfl⟩:=r;rfl
  | _=>exact absurd (show false = true from f) Bool.false_ne_true
theorem yW {x:V}:∀ {xs:List V} {us:List Value},Vals xs us -> xs.all qH = true -> us.any (eqU x) = xs.any fun y=>eqV y x
  | _,_,.nil,_=>rfl
  | y :: xs,u :: us,.cons r t,f=>by
    rw [List.all_cons,Bool.and_eq_true] at f
    rw [List.any_cons,List.any_cons,VJ r f.1,yW t f.2]
theorem vR {A:Around} {s:Shared} {x:V} {v:Value} (rx:RelV x v) (fx:qH x = true):∀ {xs:List V} {us:List Value},Vals xs us -> xs.all qH = true -> ∀ u ∈ us,SeqAt.EqAt A s u v (eqU x u)
  | _,_,.nil,_=>fun u hu=>by cases hu
  | y :: xs,u :: us,.cons r t,f=>fun u' hu=>by
    rw [List.all_cons,Bool.and_eq_true] at f
    rcases List.mem_cons.mp hu with rfl | hu
    · rw [VJ r f.1];exact VL r rx f.1 fx
    · exact vR rx fx t f.2 u' hu
def inV (x:V) (xs:List V):Bool:=xs.any fun y=>eqV y x
inductive rIn (K:PySem.W.Frag) (neg:Bool) (x:V) (y:V) (H:Hp) (Q:VK):Prop
  | mk (p xs:_) (_:y = .ref p) (_:(SqL K H p xs \/ SqT K H p xs)) (_:qH x = true) (_:xs.all qH = true) (_:Q (.bl (if neg then !inV x xs else inV x xs)) H):rIn K neg x y H Q
theorem wZ:OpR X (compareOp .In) (rIn X.K false):=by
  intro pins s σ H x y v u Q I rx ry h
  obtain ⟨p,xs,rfl,hq,fx,fs,q⟩:=h
  cases ry
  rcases hq with hq | hq
  · obtain ⟨its,r,pl,hz⟩:=I.list hq
    refine SeqAt.in_listAt (eqU x) pl.isList (fun w hw=>vR rx fx r fs w (by simpa using hw)) ⟨.bl _,H,I,rfl,?_⟩
    rw [show its.toArray.any (eqU x) = its.any (eqU x) by simp,yW r fs]
    exact q
  · obtain ⟨its,r,pl,hz⟩:=I.tuple hq
    refine SeqAt.in_tupleAt (eqU x) pl (fun w hw=>vR rx fx r fs w (by simpa using hw)) ⟨.bl _,H,I,rfl,?_⟩
    rw [show its.toArray.any (eqU x) = its.any (eqU x) by simp,yW r fs]
    exact q
inductive qR (K:PySem.W.Frag) (xs:List V) (H:Hp) (Q:VK):Prop
  | mk (p ys:_) (_:xs = [.ref p]) (_:(SqL K H p ys \/ SqT K H p ys)) (_:Q (.int ys.length) H):qR K xs H Q
theorem zB:CallR X (.builtin "len") (qR X.K):=by
  intro pins s σ H xs us Q I r h
  obtain ⟨p,ys,rfl,hq,q⟩:=h
  obtain ⟨u,rfl,rx⟩:=jb r
  cases rx
  have hn:=vT
  rcases hq with hq | hq
  · obtain ⟨its,r',pl,hz⟩:=I.list hq
    have hlen:=r'.length
    exact Calls.call_len_list pl.isList (by simp only [List.size_toArray] <;> omega) ⟨.int ys.length,H,I.tok _,⟨s.toks + 1,by rw [List.size_toArray,hlen]⟩,q⟩
  · obtain ⟨its,r',pl,hz⟩:=I.tuple hq
    have hlen:=r'.length
    exact len_tuple pl (by simp only [List.size_toArray] <;> omega) ⟨.int ys.length,H,I.tok _,⟨s.toks + 1,by rw [List.size_toArray,hlen]⟩,q⟩
theorem CallR.or {f:Value} {r r':List V -> Hp -> VK -> Prop} (h:CallR X f r) (h':CallR X f r'):CallR X f (fun xs H Q=>r xs H Q \/ r' xs H Q):=by
  intro pins s σ H xs us Q I rs q
  rcases q with q | q
  · exact h pins s σ H xs us Q I rs q
  · exact h' pins s σ H xs us Q I rs q
inductive jR (K:PySem.W.Frag) (xs:List V) (H:Hp) (Q:VK):Prop
  | mk (p ys:_) (_:xs = [.ref p]) (_:(SqL K H p ys \/ SqT K H p ys)) (_:∀ l,H l = none -> Q (.ref l) (upd H l (.lst ys))):jR K xs H Q
theorem yP:CallR X (.type "list") (jR X.K):=by
  intro pins s σ H xs us Q I r h
  obtain ⟨p,ys,rfl,hq,q⟩:=h
  obtain ⟨u,rfl,rx⟩:=jb r
  cases rx
  have fin:∀ (its:List Value),Vals ys its -> ys.length <= sizeLine -> ∀ (h':Heap) (c':Nat),(∀ b o',s.heap.get? b = some o' -> h'.get? b = some o') ->
      h'.get? s.heap.objs.size = some { cls:=.type "list",dict:=none,data:=.seq its.toArray c',slots:=#[] } -> EP X pins σ Q (.ref s.heap.objs.size) { s with heap:=h' }:=fun its r' hz h' c' kp e=>
    ⟨.ref s.heap.objs.size,_,I.laid (t':=s.toks) kp (Nat.le_refl _) (show ObjOk X.prog X.w _ h' _ (.lst ys) from ⟨hz,its,c',r',e⟩),rfl,q _ (I.hok.fresh (Nat.le_refl _))⟩
  rcases hq with hq | hq
  · obtain ⟨its,r',pl,hz⟩:=I.list hq
    have hlen:=r'.length
    obtain ⟨o,ho,hc,n,hd⟩:=pl.isList
    exact call_list_seq p (.inl rfl) ho hc hd (fun h' c' kp e=>fin its r' hz h' c' kp e) (by simp only [List.size_toArray] <;> omega)
  · obtain ⟨its,r',pl,hz⟩:=I.tuple hq
    have hlen:=r'.length
    obtain ⟨o,ho,hc,n,hd⟩:=pl
    exact call_list_seq p (.inr rfl) ho hc hd (fun h' c' kp e=>fin its r' hz h' c' kp e) (by simp only [List.size_toArray] <;> omega)
inductive qL (K:PySem.W.Frag) (xs:List V) (H:Hp) (Q:VK):Prop
  | mk (p ys:_) (_:xs = [.ref p]) (_:((SqL K H p ys /\ ∀ l,H l = none -> Q (.ref l) (upd H l (.tup ys))) \/ (SqT K H p ys /\ Q (.ref p) H))):qL K xs H Q
theorem zR:CallR X (.type "tuple") (qL X.K):=by
  intro pins s σ H xs us Q I r h
  obtain ⟨p,ys,rfl,h⟩:=h
  obtain ⟨u,rfl,rx⟩:=jb r
  cases rx
  rcases h with ⟨hq,q⟩ | ⟨hq,q⟩
  · obtain ⟨its,r',pl,hz⟩:=I.list hq
    have hlen:=r'.length
    refine call_tuple_list pl.isList (fun h' kp=>?_) (by simp only [List.size_toArray] <;> omega)
    have I1:Inv X pins σ H { s with heap:=h' }:=I.kept (t':=s.toks) kp
    have I2:Inv X pins σ (upd H h'.objs.size (.tup ys)) { s with heap:=h'.push { cls:=.type "tuple",data:=.seq its.toArray } }:=
      I1.laid (t':=s.toks) (fun b o e=>Heap.get?_push_of_some _ e) (Nat.le_refl _) (show ObjOk X.prog X.w _ _ _ (.tup ys) from ⟨hz,its,r',⟨IsTup.new _ _,_,Heap.get?_push_size _ rfl,rfl⟩⟩)
    exact ⟨.ref h'.objs.size,_,I2,rfl,q _ (I1.hok.fresh (Nat.le_refl _))⟩
  · obtain ⟨its,r',pl,hz⟩:=I.tuple hq
    exact call_tuple_same pl ⟨.ref p,H,I,rfl,q⟩
def tyV (K:PySem.W.Frag) (T:String) (x:V) (H:Hp):Prop:=match x with
  | .str _=>T = "str"
  | .int _=>T = "int"
  | .ref p=>(T = "list" /\ ∃ xs,SqL K H p xs) \/ (T = "tuple" /\ ∃ o,K.lookup p = some o /\ o.cls = .type "tuple" /\ o.dict = none) \/
      (T = "dict" /\ ((∃ kvs,H p = some (.dK kvs)) \/ ∃ kvs,H p = some (.dT kvs))) \/ (T = "set" /\ ∃ S n,H p = some (.set S n))
  | _=>False
theorem Xg {pins:List (Addr × Obj)} {σ:St} {H:Hp} {s:Shared} {T:String} {x:V} {v:Value} (I:Inv X pins σ H s) (r:RelV x v) (ty:tyV X.K T x H) :
    s.TypeIs v T /\ ∀ a,v = .ref a -> ∃ ob,s.heap.get? a = some ob /\ ob.dict = none:=by
  cases x with
  | str z=>
    obtain ⟨t,rfl⟩:=r
    cases (show T = "str" from ty)
    exact ⟨typeIs_str s z t,fun _ e=>nomatch e⟩
  | int i=>
    obtain ⟨t,rfl⟩:=r
    cases (show T = "int" from ty)
    exact ⟨typeIs_int s i t,fun _ e=>nomatch e⟩
  | ref p=>
    cases r
    rcases ty with ⟨rfl,xs,hq⟩ | ⟨rfl,o,hk,hc,hd⟩ | ⟨rfl,hk⟩ | ⟨rfl,S,n,hk⟩
    · obtain ⟨its,_,pl,_⟩:=I.list hq
      refine ⟨pl.isList.typeIs,fun a e=>?_⟩
      cases e
      obtain ⟨o,n,e,c,hd,_⟩:=pl
      exact ⟨o,e,hd⟩
    · refine ⟨⟨o,I.kIn p o hk,hc⟩,fun a e=>?_⟩
      cases e
      exact ⟨o,I.kIn _ o hk,hd⟩
    · have z:∃ o,s.heap.get? p = some o /\ o.ExactDict:=by
        rcases hk with ⟨kvs,hk⟩ | ⟨kvs,hk⟩
        · obtain ⟨_,_,_,_,o,_,_,e,ex,_⟩:=I.hok p _ hk
          exact ⟨o,e,ex⟩
        · obtain ⟨_,_,_,_,o,_,_,e,ex,_⟩:=I.hok p _ hk
          exact ⟨o,e,ex⟩
      obtain ⟨o,e,ex⟩:=z
      refine ⟨⟨o,e,ex.1⟩,fun a e2=>?_⟩
      cases e2
      exact ⟨o,e,ex.2.1⟩
    · obtain ⟨o,_,_,_,e,ex,_⟩:=I.hok p _ hk
      refine ⟨⟨o,e,ex.1⟩,fun a e2=>?_⟩
      cases e2
      exact ⟨o,e,ex.2.1⟩
  | _=>exact False.elim ty
def zbu (K:PySem.W.Frag) (T:String) (r:V -> List V -> Hp -> VK -> Prop) (to:TE):TE:=fun σ H Q=>to σ H fun x H1=>tyV K T x H1 /\ r x [] H1 Q
def tBM (K:PySem.W.Frag) (T:String) (r:V -> List V -> Hp -> VK -> Prop) (to:TE) (t:TA):TE:=fun σ H Q=>to σ H fun x H1=>tyV K T x H1 /\ t σ H1 fun xs H2=>r x xs H2 Q
variable {o e:Expr} {es:List Expr} {to:TE} {t:TA} {name:Str} {apos cpos:Pos} {T id:String} {r:V -> List V -> Hp -> VK -> Prop}
theorem Y0 (pa:PlainAttrs T) (slot:Slot T name id) (hty:typeOf (.builtin id) = pure (.type "method_descriptor")) (hm:MtR X id r) (ho:PE X o to)
    (hbase:attributeBase o name X.env (eval o X.env) = eval o X.env:=by rfl) (hline:(apos.endLine == cpos.line) = true:=by rfl):PE X (.Call (.Attribute o name apos) [] [] cpos) (zbu X.K T r to):=by
  intro pins s σ H Q I h
  refine wpAny_Call_method0_late hbase hline (thn (ho pins s σ H _ I h) fun v s1 ⟨x,H1,I1,r1,ty,q1⟩=>?_)
  obtain ⟨h1,h2⟩:=Xg I1 r1 ty
  exact ⟨T,id,pa,slot,hty,h1,h2,Calls.callWith_builtin rfl (PySem.evalArgs_none (hm pins s1 σ H1 x [] v [] Q I1 r1 .nil q1))⟩
theorem xw (pa:PlainAttrs T) (slot:Slot T name id) (hty:typeOf (.builtin id) = pure (.type "method_descriptor")) (hm:MtR X id r) (ho:PE X o to) (ha:PA X (e :: es) t)
    (hbase:attributeBase o name X.env (eval o X.env) = eval o X.env:=by rfl)
    (hfew:((backTo cpos (starEach (e :: es) X.env)).all (fun x=>!x.1) && (backToKw cpos (keywordEach [] X.env)).all (fun x=>x.1.isSome)
      && decide ((e :: es).length + ([]:List Keyword).length + (if ([]:List Keyword).isEmpty then 0 else 1) < 30)) = true:=by rfl)
    (hline:(apos.endLine == cpos.line) = true:=by rfl) (hs:starEach (e :: es) X.env = (false,eval e X.env) :: starEach es X.env:=by rfl) (hplain:(backTo cpos (starEach es X.env)).any (·.1) = false:=by rfl) :
    PE X (.Call (.Attribute o name apos) (e :: es) [] cpos) (tBM X.K T r to t):=by
  intro pins s σ H Q I h
  refine wpAny_Call_method_late hbase hfew hline rfl (thn (ho pins s σ H _ I h) fun v s1 ⟨x,H1,I1,r1,ty,q1⟩=>?_)
  obtain ⟨h1,h2⟩:=Xg I1 r1 ty
  refine ⟨T,id,pa,slot,hty,h1,h2,?_⟩
  have hA:=ha cpos pins s1 σ H1 _ I1 q1
  rw [hs] at hA ⊢
  refine Calls.callWith_builtin (by show (false || (backTo cpos (starEach es X.env)).any (·.1)) = false;rw [hplain] <;> rfl) (Calls.evalArgs_plain ?_)
  exact thn hA fun us s2 ⟨vs,H2,I2,r2,q2⟩=>hm pins s2 σ H2 x vs v us Q I2 r1 r2 q2
end
def MtM (X:Cx) (id:String) (r:V -> List V -> Hp -> VK -> Prop):Prop:=
  ∀ (pins:List (Addr × Obj)) (s:Shared) (σ:St) (H:Hp) (x:V) (xs:List V) (v:Value) (us:List Value) (Q:VK),Inv X pins σ H s -> RelV x v -> Vals xs us -> r x xs H Q ->
    wpAny (model X.prog X.w) X.A (call (.builtin id) (v :: us)) (EP X pins σ Q) X.xe s
theorem Vals.one:∀ {x:V} {us:List Value},Vals [x] us -> ∃ u,us = [u] /\ RelV x u
  | _,_,.cons r .nil=>⟨_,rfl,r⟩
theorem Vals.two:∀ {x y:V} {us:List Value},Vals [x,y] us -> ∃ u v,us = [u,v] /\ RelV x u /\ RelV y v
  | _,_,_,.cons r (.cons q .nil)=>⟨_,_,rfl,r,q⟩
theorem Vals.zero:∀ {us:List Value},Vals [] us -> us = []
  | _,.nil=>rfl
theorem Vals.eraseIdx:∀ {xs:List V} {us:List Value} (i:Nat),Vals xs us -> Vals (xs.eraseIdx i) (us.eraseIdx i)
  | _,_,_,.nil=>.nil
  | _,_,0,.cons _ t=>t
  | _,_,i + 1,.cons r t=>.cons r (Vals.eraseIdx i t)
theorem Vals.reverse {xs:List V} {us:List Value} (h:Vals xs us):Vals xs.reverse us.reverse:=by
  induction h with
  | nil=>exact .nil
  | cons r t ih=>rw [List.reverse_cons,List.reverse_cons];exact Vals.append ih (.cons r .nil)
section
variable {X:Cx} {pins:List (Addr × Obj)} {σ:St} {H:Hp} {s:Shared} {l b:Addr} {xs ys zs:List V}
theorem Inv.lset {its its':List Value} {n:Nat} {f:Array Value -> Array Value} {t':Nat} (I:Inv X pins σ H s) (hH:H l = some (.lst xs))
    (e:s.heap.get? l = some { cls:=.type "list",data:=.seq its.toArray n }) (hf:f its.toArray = its'.toArray) (hv:Vals ys its') (hz:ys.length <= sizeLine) :
    Inv X pins σ (upd H l (.lst ys)) { s with heap:=s.heap.update l (Obj.mapSeq f),toks:=t' }:=by
  have q:=PySem.IsL.update e f
  rw [hf] at q
  refine I.write (x:=l) (e:=l) (by rw [hH];exact trivial) (.inl rfl) (fun b' u hb hu=>(Heap.get?_update_other s.heap (Obj.mapSeq f) (Ne.symm hb)).trans hu) ⟨_,q⟩ ?_
  exact ⟨hz,its',_,hv,q⟩
theorem Inv.lnew {its:List Value} {t':Nat} (I:Inv X pins σ H s) (hv:Vals ys its) (hz:ys.length <= sizeLine) :
    Inv X pins σ (upd H s.heap.objs.size (.lst ys)) { s with heap:=s.heap.push { cls:=.type "list",data:=.seq its.toArray },toks:=t' }:=
  I.laid (fun _ _ q=>Heap.get?_push_of_some _ q) (Nat.le_refl _) ⟨hz,its,0,hv,Heap.get?_push_size _ rfl⟩
theorem Inv.fresh (I:Inv X pins σ H s):H s.heap.objs.size = none:=I.hok.fresh (Nat.le_refl _)
theorem Inv.lstM (I:Inv X pins σ H s) (hH:H l = some (.lst xs)):xs.length <= sizeLine /\ ∃ (its:List Value) (n:Nat),Vals xs its /\ xs.length = its.length /\ s.heap.get? l = some { cls:=.type "list",data:=.seq its.toArray n }:=by
  obtain ⟨z,its,n,r,e⟩:=I.hok l _ hH
  exact ⟨z,its,n,r,r.length,e⟩
end
section
variable {X:Cx}
inductive QQ (x:V) (vs:List V) (H:Hp) (Q:VK):Prop
  | mk (l xs y:_) (_:x = .ref l) (_:vs = [y]) (_:H l = some (.lst xs)) (_:xs.length < sizeLine) (_:Q .non (upd H l (.lst (xs ++ [y])))):QQ  x vs H Q
theorem qe:MtM X "list.append" QQ:=by
  intro pins s σ H x vs v us Q I rx rv h
  obtain ⟨l,xs,y,rfl,rfl,hH,hz,q⟩:=h
  cases rx
  obtain ⟨u,rfl,ru⟩:=rv.one
  obtain ⟨z,its,n,r,hl,e⟩:=I.lstM hH
  refine call_meets F.slot_list_append ⟨_,e,rfl⟩ F.entry_list_append (F.args_list_append_2 _ _) (PySem.list_append l its.toArray n u (by rw [List.size_toArray];omega)) ⟨e,?_⟩
  refine ⟨.non,_,I.lset (its':=its ++ [u]) hH e (by simp) (r.append (.cons ru .nil)) ?_,rfl,q⟩
  rw [List.length_append,List.length_singleton]
  omega
inductive Zl (x:V) (vs:List V) (H:Hp) (Q:VK):Prop
  | mk (l xs:_) (_:x = .ref l) (_:vs = []) (_:H l = some (.lst xs)) (_:Q .non (upd H l (.lst xs.reverse))):Zl  x vs H Q
theorem Qh:MtM X "list.reverse" Zl:=by
  intro pins s σ H x vs v us Q I rx rv h
  obtain ⟨l,xs,rfl,rfl,hH,q⟩:=h
  cases rx
  have hus:=rv.zero
  subst hus
  obtain ⟨z,its,n,r,hl,e⟩:=I.lstM hH
  refine call_meets F.slot_list_reverse ⟨_,e,rfl⟩ F.entry_list_reverse (F.args_list_reverse_1 _) (AutoSeq1.list_reverse_list_0 l its.toArray n (by rw [List.size_toArray];omega)) ⟨e,?_⟩
  refine ⟨.non,_,I.lset (its':=its.reverse) hH e (by simp) r.reverse ?_,rfl,q⟩
  rw [List.length_reverse]
  omega
inductive zaV (x:V) (y:V) (H:Hp) (Q:VK):Prop
  | mk (l b xs zs:_) (_:x = .ref l) (_:y = .ref b) (_:H l = some (.lst xs)) (_:H b = some (.lst zs)) (_:xs.length + zs.length <= sizeLine) (_:∀ p,H p = none -> Q (.ref p) (upd H p (.lst (xs ++ zs)))):zaV  x y H Q
theorem Vd:OpR X (binaryOp .Add) zaV:=by
  intro pins s σ H x y v u Q I rx ry h
  obtain ⟨l,b,xs,zs,rfl,rfl,hH,hB,hz,q⟩:=h
  cases rx
  cases ry
  obtain ⟨z,its,n,r,hl,e⟩:=I.lstM hH
  obtain ⟨z2,its2,n2,r2,hl2,e2⟩:=I.lstM hB
  refine PySem.P.add_list e e2 ?_ (by rw [List.size_toArray,List.size_toArray];omega)
  have ea:its.toArray ++ its2.toArray = (its ++ its2).toArray:=by simp
  rw [ea]
  exact ⟨.ref _,_,I.lnew (t':=s.toks) (r.append r2) (by rw [List.length_append];omega),rfl,q _ I.fresh⟩
end
section
variable {prog:Program} {w:World} {A:Around} {E:Value -> Shared -> Prop} {s:Shared}
end
section
variable {X:Cx}
end
end L2
namespace Att
open PySem PySem.W PySem.Calls PyProof.Rows
theorem vh {P:Params} {h:Heap}:∀ (ns:List Int) (vs:List Value),WellAll P h vs (ns.map WData.int) -> IntsAre vs ns:=by
  intro ns
  induction ns with
  | nil=>
    intro vs w
    rw [List.map_nil] at w
    cases w
    exact .nil
  | cons n ns ih=>
    intro vs w
    rw [List.map_cons] at w
    cases w with
    | cons a b=>
      cases a
      exact .cons _ _ (ih _ b)
theorem JI {l:OpenLaw} {n:Nat} (hn:l.most = some n) {P:Params} {h:Heap} {args:List WData} {vals:List Value}
    (hpre:l.row.toRowW.claim.pre args = true) (hwl:WellAll P h vals args) :
    ∃ a vs ns,vals = [Value.ref a] /\ args = [WData.list (ns.map WData.int)] /\ h.get? a = some { cls:=.type "list",data:=.seq vs.toArray } /\ IntsAre vs ns /\ ns.length <= n:=by
  have hsh:WShape.hasAll [] args [.list .int] = true:=(pre_splitW hpre).1
  have hc:l.pre.holds [] { args:=args } = true:=(pre_splitW hpre).2
  obtain ⟨d,r,rfl,h1,h2⟩:=hasAllW_cons hsh
  obtain rfl:=hasAllW_nil h2
  obtain ⟨xs,rfl,h3⟩:=hasW_list h1
  obtain ⟨ns,rfl⟩:=items_int h3
  have hlen:ns.length <= n:=by
    unfold OpenLaw.pre at hc
    have h4:(WTm.not (.lt (.lit (.int (n:Int))) (.len (.arg 0)))).holds [] { args:=[.list (ns.map .int)] } = true:=by
      have h4:=(holds_andW hc).1
      rw [hn] at h4
      exact h4
    have h5:=condW_of h4 (w_not (w_lt w_lit (w_len_list (w_arg rfl))))
    rw [List.length_map] at h5
    refine Nat.le_of_not_lt fun q=>?_
    have q':(n:Int) < ((ns.length:Nat):Int):=by omega
    first
      | (rw [decide_eq_true q'] at h5;exact absurd h5 (by decide))
      | (simp at h5;omega)
  cases hwl with
  | cons w1 w2=>
    cases w2
    cases w1 with
    | list ho hall=>exact ⟨_,_,ns,rfl,rfl,ho,vh ns _ hall,hlen⟩
theorem JL (l:OpenLaw) (args:List WData):l.row.toRowW.claim.post args (.bool true) args = true:=
  postW_of (r:=l.row.toRowW) (X:=(true == true))
    (show WShape.has [] (.bool true) .bool = true by first | rfl | decide | simp [WShape.has,WShape.arms,WShape.armsAll])
    (show (WTm.eq .res (.lit (.bool true))).value [] { args:=args,res:=some (.bool true),after:=args } = some (.bool (true == true)) from w_eq_bool (w_res rfl) w_lit) rfl
theorem attach_call {l:OpenLaw} {n:Nat} {q:Program} {loose:List Str} {XP:(Str -> Option Value) -> Heap -> Prop} {YP:World -> Heap -> Prop} {d:DefRec}
    (hn:l.most = some n) (hdf:d.params.defaults = [])
    (call:∀ (w:World) (s₀ s₁:Shared) (mg mb:Str -> Option Value) (fa:Addr) (o:Obj) (pm cd doc:Value) (a:Addr) (vs:List Value) (ns:List Int),
      Ground q loose [] XP w s₀ mg mb s₁.heap -> YP w s₁.heap ->
      s₁.heap.get? fa = some o -> o.data = .func (docDef d.name d.params d.body d.scope pm cd doc) -> s₁.heap.CodeRec cd d.name -> mg d.name = some (.ref fa) ->
      s₁.heap.get? a = some { cls:=.type "list",data:=.seq vs.toArray } -> IntsAre vs ns -> ns.length <= n -> s₁.gens = #[] ->
      codeAny (model l.prog w) callerA (.call (.ref fa) ⟨[.ref a],[]⟩) (fun r s'=>r = .ok (.ret (.bool true)) /\ OldK s₁.heap s'.heap /\ s'.os = s₁.os /\ AllBare s'.gens) s₁) :
    WalkO q loose XP YP l.row.toRowW d [] (fun f vs=>PySem.call f vs):=by
  intro w s₀ s₁ mg mb G Y fa o pm cd doc dV kV ho hd hcd hD hmg hg args vals as hpre hlay hrd hwl hlo
  obtain rfl:dV = .none:=Dflts.none hD hdf
  obtain rfl:kV = .none:=Dflts.noKw hD
  obtain ⟨a,vs,ns,rfl,rfl,hobj,hints,hlen⟩:=JI hn hpre hwl
  refine enter_call (codeAny_mono (call w s₀ s₁ mg mb fa o pm cd doc a vs ns G Y ho (fd_plain hd) hcd hmg hobj hints hlen hg) fun r s' hq=>?_)
  obtain ⟨rfl,h2,h3,h4⟩:=hq
  exact ⟨.inl ⟨.bool true,.bool true,[],rfl,fun _=>rfl,.bool true,JL l _,fun _=>⟨List.Pairwise.nil,fun _ hm=>(nomatch hm)⟩⟩,h2,h3,h4⟩
section
variable {prog:Program} {w:World} {A:Around} {E:Value -> Shared -> Prop} {s:Shared} {K:Frag}
def ledger (h:Heap) (L d:Addr):List (Addr × Obj):=(List.range h.objs.size).filterMap fun a=>if a = L \/ a = d then none else (h.get? a).map fun o=>(a,o)
end
end Att
namespace L2
open PySem PySem.Spec PyProof.Rows
theorem wM:∀ {vs:List Value} {ns:List Int},IntsAre vs ns -> Vals (ns.map V.int) vs
  | _,_,.nil=>.nil
  | _,_,.cons n t h=>.cons ⟨t,rfl⟩ (wM h)
def zau (H:Hp):Prop:=∀ b,H b = none \/ ∃ o xs,H b = some (.frz o (.lst xs))
theorem Vy {P:Program} {w:World} {K:PySem.W.Frag} {mg mb:Str -> Option Value} {CX:CXT} {k:Nat} {fa a:Addr} {fd:FuncData} {x:Str} {sp:Sp} {s₁:Shared} {vs:List Value} {ns:List Int}
    (KX:K.In s₁.heap) (hns:s₁.heap.Ns mainGlobals mg) (hb:s₁.heap.Ns builtinsNs mb) (hbb:∀ x:Str,x ≠ "__name__" -> mb x = bootBuiltins x) (hlim:s₁.heap.NoLimit) (hg:s₁.gens = #[])
    (ha:s₁.heap.get? a = some { cls:=.type "list",data:=.seq vs.toArray }) (hi:IntsAre vs ns) (hl:ns.length <= sizeLine) (hr:Room k callerA)
    (F:∀ base:Heap,K.In base -> base.Ns mainGlobals mg -> FnOk P w K mg base CX k fa fd [x] sp) (hbind:∀ (s:Shared) (u:Value),BindsTo s fd ⟨[u],[]⟩ [(x,u)])
    (hsp:∀ H:Hp,zau H -> SqL K H a (ns.map V.int) -> sp [.ref a] H (fun v _=>v = .bl true) fun _ _ _=>False)
    (hCX:∀ H e s',CX [] H s₁ (fun _ _ _=>False) e s' -> False) :
    codeAny (model P w) callerA (.call (.ref fa) ⟨[.ref a],[]⟩) (fun r s'=>r = .ok (.ret (.bool true)) /\ OldK s₁.heap s'.heap /\ s'.os = s₁.os /\ AllBare s'.gens) s₁:=by
  have rv:=wM hi
  have lenV:=hi.length
  have core:∀ H:Hp,zau H -> SqL K H a (ns.map V.int) -> HOk P w H s₁.heap -> (∀ b,H b ≠ none -> b = a) -> (H a ≠ none -> K.lookup a = none) ->
      codeAny (model P w) callerA (.call (.ref fa) ⟨[.ref a],[]⟩) (fun r s'=>r = .ok (.ret (.bool true)) /\ OldK s₁.heap s'.heap /\ s'.os = s₁.os /\ AllBare s'.gens) s₁:=by
    intro H hO hS hok hA hK
    have base_of:∀ {b:Addr} {o:Obj},s₁.heap.get? b = some o -> H b = none -> (yI s₁.heap H).get? b = some o:=fun e n=>VD e n
    have noA:∀ {b:Addr} {o:Obj} {es:Array DictEntry} {ep:Nat},s₁.heap.get? b = some o -> o.data = .dict es ep -> H b = none:=fun {b o es ep} e d=>by
      cases q:H b with
      | none=>rfl
      | some u=>
        have e':b = a:=hA b (by rw [q];simp)
        subst e'
        rw [ha] at e;cases e
        have d':Data.seq vs.toArray _ = Data.dict es ep:=d
        cases d'
    have nsK:∀ {b:Addr} {m:Str -> Option Value},s₁.heap.Ns b m -> (yI s₁.heap H).Ns b m:=fun {b m} ⟨o,es,ep,e,d,r⟩=>⟨o,es,ep,base_of e (noA e d),d,r⟩
    have hKb:K.In (yI s₁.heap H):=fun b o e=>base_of (KX b o e) (by
      cases q:H b with
      | none=>rfl
      | some u=>
        have e':b = a:=hA b (by rw [q];simp)
        subst e'
        rw [hK (by rw [q];simp)] at e;cases e)
    have hM:Mod K mg (yI s₁.heap H):=⟨hKb,nsK hns,⟨mb,nsK hb,hbb⟩,let ⟨mc,h1,h2⟩:=hlim;⟨mc,nsK h1,h2⟩⟩
    have e0:Env0 P w K mg (yI s₁.heap H) callerA [] s₁ H:=⟨rfl,hM,fun b o e=>WB e,Nat.le_of_eq (JX _ _),trivial,fun b hb=>absurd (show b ∈ ([]:List Addr) from hb) (by simp),hok,.of_eq hg⟩
    refine codeAny_mono ((F _ hKb (nsK hns)).run callerA [] s₁ H ⟨[.ref a],[]⟩ [.ref a] [.ref a] _ _ hr e0 (hbind s₁ (.ref a)) (.cons rfl .nil) (hsp H hO hS)) fun r s' h=>?_
    cases r with
    | error e=>exact (hCX H e s' h).elim
    | ok fl=>
      cases fl with
      | next=>exact False.elim h
      | brk=>exact False.elim h
      | cont=>exact False.elim h
      | ret u=>
        obtain ⟨v,H',os,bare,un,hok',r',q⟩:=h
        have q':v = .bl true:=q
        subst q'
        obtain rfl:u = Value.bool true:=r'
        refine ⟨rfl,OldK.of_keep fun b o e=>?_,os,bare⟩
        cases q:H b with
        | none=>exact un.keep b o e q (by intro z;exact absurd (show b ∈ ([]:List Addr) from z) (by simp)) (by simp)
        | some u=>
          rcases hO b with z | ⟨ob,xs,z⟩
          · rw [q] at z;cases z
          · have z2:=un.frzs b ob _ z
            obtain ⟨e1,_⟩:=hok b _ z
            obtain ⟨e2,_⟩:=hok' b _ z2
            rw [e] at e1;cases e1
            exact e2
  cases hk:K.lookup a with
  | some o=>
    have e:=KX a o hk
    rw [ha] at e
    cases e
    refine core (fun _=>none) (fun _=>.inl rfl) (.inr ⟨_,vs.toArray,_,hk,rfl,rfl,rfl,by rw [List.size_toArray,lenV];exact hl,by simpa using rv⟩) (fun b u z=>by have z':(none:Option HO) = some u:=z;cases z') (fun b z=>absurd rfl z) fun z=>absurd rfl z
  | none=>
    refine core (fun b=>if b = a then some (.frz { cls:=.type "list",data:=.seq vs.toArray } (.lst (ns.map V.int))) else none) (fun b=>?_) (.inl (.inr ⟨{ cls:=.type "list",data:=.seq vs.toArray },if_pos rfl⟩)) (fun b u z=>?_) (fun b z=>?_) fun _=>hk
    · by_cases hb:b = a
      · exact .inr ⟨_,_,if_pos hb⟩
      · exact .inl (if_neg hb)
    · by_cases hb:b = a
      · have z':=(if_pos hb).symm.trans z
        cases z'
        subst hb
        exact ⟨ha,by rw [List.length_map];exact hl,vs,_,rv,ha⟩
      · have z':=(if_neg hb).symm.trans z
        cases z'
    · by_cases hb:b = a
      · exact hb
      · exact absurd (if_neg hb) z
abbrev KOf {K:PySem.W.Frag} {h:Heap} (_:K.In h):PySem.W.Frag:=K
theorem walk_of {l:PySem.W.OpenLaw} {n k:Nat} {q:Program} {loose:List Str} {XP:(Str -> Option Value) -> Heap -> Prop} {YP:World -> Heap -> Prop} {d:DefRec} {K:Params -> PySem.W.Frag} {CX:World -> CXT} {sp:World -> Sp} {x:Str}
    (hn:l.most = some n) (hn2:n <= sizeLine) (hdf:d.params.defaults = []) (hr:Room k callerA)
    (hY:∀ (w:World) (h:Heap),YP w h -> (K w.params).In h)
    (F:∀ (w:World) (mg:Str -> Option Value) (fa:Addr) (h:Heap),(K w.params).In h -> h.Ns mainGlobals mg -> mg d.name = some (.ref fa) ->
      ∃ fd:FuncData,(∀ (s:Shared) (u:Value),BindsTo s fd ⟨[u],[]⟩ [(x,u)]) /\
        ∀ base:Heap,(K w.params).In base -> base.Ns mainGlobals mg -> FnOk l.prog w (K w.params) mg base (CX w) k fa fd [x] (sp w))
    (hsp:∀ (w:World) (H:Hp) (a:Addr) (ns:List Int),ns.length <= n -> zau H -> SqL (K w.params) H a (ns.map V.int) -> sp w [.ref a] H (fun v _=>v = .bl true) fun _ _ _=>False)
    (hCX:∀ (w:World) (H:Hp) (s:Shared) (e:Value) (s':Shared),CX w [] H s (fun _ _ _=>False) e s' -> False) :
    PySem.W.WalkO q loose XP YP l.row.toRowW d [] (fun f vs=>PySem.call f vs):=by
  refine Att.attach_call hn hdf fun w s₀ s₁ mg mb fa o pm cd doc a vs ns G Y ho hd hcd hmg hobj hints hlen hg=>?_
  have KX:=hY w _ Y
  obtain ⟨fd,hb,hF⟩:=F w mg fa _ KX G.T.g hmg
  exact Vy KX G.T.g G.T.b G.T.builtins G.T.nolimit hg hobj hints (Nat.le_trans hlen hn2) hr hF hb (fun H hO hS=>hsp w H a ns hlen hO hS) fun H e s'=>hCX w H s₁ e s'
def jy (s:Stmt):Arguments:=match s with
  | .FunctionDef _ a _ _ _ _ _ _ _ _=>a
  | _=>{ posonlyargs:=[],args:=[],vararg:=none,kwonlyargs:=[],kw_defaults:=[],kwarg:=none,defaults:=[] }
def qY (s:Stmt):List Stmt:=match s with
  | .FunctionDef _ _ b _ _ _ _ _ _ _=>b
  | _=>[]
def zo (s:Stmt):Scope:=match s with
  | .FunctionDef _ _ _ _ _ _ sc _ _ _=>sc
  | _=>{ kind:=.function,names:=[],isGenerator:=false,isCoroutine:=false }
abbrev CX0:CXT:=fun _ _ _ _ _ _=>False
abbrev E0:XK:=fun _ _ _=>False
theorem za2 {X:Cx}:Qu CX0 X E0:=fun _ _ _ _ _ _ _ h=>h.elim
structure Fun (K:PySem.W.Frag) (x qual:Str) (st:Stmt) (f:Addr) (fd:FuncData):Prop where
  ex:∃ (oc:Value) (od:Option Addr) (kV doc pm:Value) (an:Option Addr) (cdv ct:Value) (osl:Array (Option Value)),
    fd = PySem.W.fnOf x qual (jy st) (qY st) (zo st) .none kV doc pm an cdv ct /\ K.lookup f = some ⟨oc,od,.func fd,osl⟩ /\ PySem.W.codeIn K cdv qual = true
  kp:PySem.W.keepIn K (.ref f) = true
section
variable {P:Program} {w:World} {K:PySem.W.Frag} {mg:Str -> Option Value} {base:Heap}
theorem Fun.ok {x qual:Str} {st:Stmt} {f:Addr} {fd:FuncData} {N ps:List Str} {k:Nat} {sp:Sp} (F:Fun K x qual st f fd) (S:zx N ps (zo st)) (len:∀ vs H Q E,sp vs H Q E -> vs.length = ps.length)
    (hbody:∀ (cdv:Value) (A:Around) (outer:List Env) (s:Shared) (H:Hp) (vs:List V) (Q:VK) (E:XK),Room k (A.deeper (envOfC qual (zo st) s.heap.objs.size f cdv)) -> sp vs H Q E ->
      ∃ t,PSs (J4 CX0 P w K mg base N qual (zo st) f cdv A outer s H E).nox (qY st) t /\ t { nx:=fun _ H'=>Q .non H',rt:=Q } (xV N vs) H):FnOk P w K mg base CX0 (k + 1) f fd ps sp:=by
  obtain ⟨oc,od,kV,doc,pm,an,cdv,ct,osl,rfl,lk,hcd⟩:=F.ex
  refine zbc lk hcd S len fun A outer s H vs Q E hr hsp=>?_
  obtain ⟨t,h,q⟩:=hbody cdv A outer s H vs Q E hr hsp
  exact ⟨t,h.nox,q⟩
theorem Fun.binds {x qual:Str} {st:Stmt} {f:Addr} {fd:FuncData} {ps:List Str} (F:Fun K x qual st f fd)
    (h:∀ (kV doc pm:Value) (an:Option Addr) (cdv ct:Value) (us:List Value),us.length = ps.length -> bindArgs (PySem.W.fnOf x qual (jy st) (qY st) (zo st) .none kV doc pm an cdv ct) ⟨us,[]⟩ = pure (ps.zip us)):Binds K fd ps []:=by
  obtain ⟨oc,od,kV,doc,pm,an,cdv,ct,osl,rfl,lk,hcd⟩:=F.ex
  exact .all (h kV doc pm an cdv ct)
theorem VG {x qual:Str} {st:Stmt} {f:Addr} {oc:Value} {od an:Option Addr} {osl:Array (Option Value)} {kV doc pm cdv ct:Value} (l:K.lookup f = some ⟨oc,od,.func (PySem.W.fnOf x qual (jy st) (qY st) (zo st) .none kV doc pm an cdv ct),osl⟩)
    (c:PySem.W.codeIn K cdv qual = true) (k:PySem.W.keepIn K (.ref f) = true):Fun K x qual st f (PySem.W.fnOf x qual (jy st) (qY st) (zo st) .none kV doc pm an cdv ct):=⟨⟨oc,od,kV,doc,pm,an,cdv,ct,osl,rfl,l,c⟩,k⟩
end
theorem ZC {A:Around} {k:Nat} (hr:Room k A):A.units + 1 < cLine:=Nat.lt_of_le_of_lt (Nat.add_le_add_left (by decide:1 <= 64) _) hr.units
section
variable {X:Cx}
theorem pv (i:Nat) {x:Str} {pos:Pos} (hN:X.N[i]? = some x:=by rfl) (hv:Vis X.env.scope x:=by first | exact Or.inl rfl | exact Or.inr (Or.inl rfl) | exact Or.inr (Or.inr rfl)) (hd:(x == ("__debug__" : Str)) = false:=by decide)
    (hcd:(x == ("__classdict__" : Str)) = false:=by decide):PE X (.Name x pos) (YB i):=YV hN hv hd hcd
end
theorem xP {c A B:Prop} [Decidable c] (h1:c -> A) (h2:¬ c -> B):if c then A else B:=by
  by_cases h:c
  · rw [if_pos h]
    exact h1 h
  · rw [if_neg h]
    exact h2 h
def Same (H H':Hp):Prop:=∀ b o,H b = some o -> H' b = some o
theorem Same.refl (H:Hp):Same H H:=fun _ _ h=>h
theorem Same.trans {H H1 H2:Hp} (a:Same H H1) (b:Same H1 H2):Same H H2:=fun c o h=>b c o (a c o h)
theorem Same.free {H H':Hp} (e:Same H H') {l:Addr} (h:H' l = Option.none):H l = Option.none:=by
  cases q:H l with
  | none=>rfl
  | some o=>
    rw [e l o q] at h
    cases h
theorem Same.seq {K:PySem.W.Frag} {H H':Hp} {a:Addr} {xs:List V} (e:Same H H') (h:SqL K H a xs):SqL K H' a xs:=by
  rcases h with (h | ⟨o,h⟩) | h
  · exact .inl (.inl (e _ _ h))
  · exact .inl (.inr ⟨o,e _ _ h⟩)
  · exact .inr h
end L2
namespace L2
inductive Ex1 {α1:Sort _} (P:α1 -> Prop):Prop
  | mk (a1:α1) (h:P a1):Ex1 P
inductive Ex2 {α1:Sort _} {α2:Sort _} (P:α1 -> α2 -> Prop):Prop
  | mk (a1:α1) (a2:α2) (h:P a1 a2):Ex2 P
inductive Ex3 {α1:Sort _} {α2:Sort _} {α3:Sort _} (P:α1 -> α2 -> α3 -> Prop):Prop
  | mk (a1:α1) (a2:α2) (a3:α3) (h:P a1 a2 a3):Ex3 P
inductive Ex4 {α1:Sort _} {α2:Sort _} {α3:Sort _} {α4:Sort _} (P:α1 -> α2 -> α3 -> α4 -> Prop):Prop
  | mk (a1:α1) (a2:α2) (a3:α3) (a4:α4) (h:P a1 a2 a3 a4):Ex4 P
inductive Ex6 {α1:Sort _} {α2:Sort _} {α3:Sort _} {α4:Sort _} {α5:Sort _} {α6:Sort _} (P:α1 -> α2 -> α3 -> α4 -> α5 -> α6 -> Prop):Prop
  | mk (a1:α1) (a2:α2) (a3:α3) (a4:α4) (a5:α5) (a6:α6) (h:P a1 a2 a3 a4 a5 a6):Ex6 P
inductive Ex7 {α1:Sort _} {α2:Sort _} {α3:Sort _} {α4:Sort _} {α5:Sort _} {α6:Sort _} {α7:Sort _} (P:α1 -> α2 -> α3 -> α4 -> α5 -> α6 -> α7 -> Prop):Prop
  | mk (a1:α1) (a2:α2) (a3:α3) (a4:α4) (a5:α5) (a6:α6) (a7:α7) (h:P a1 a2 a3 a4 a5 a6 a7):Ex7 P
inductive Ex8 {α1:Sort _} {α2:Sort _} {α3:Sort _} {α4:Sort _} {α5:Sort _} {α6:Sort _} {α7:Sort _} {α8:Sort _} (P:α1 -> α2 -> α3 -> α4 -> α5 -> α6 -> α7 -> α8 -> Prop):Prop
  | mk (a1:α1) (a2:α2) (a3:α3) (a4:α4) (a5:α5) (a6:α6) (a7:α7) (a8:α8) (h:P a1 a2 a3 a4 a5 a6 a7 a8):Ex8 P
inductive An2 (A1 A2:Prop):Prop
  | mk (h1:A1) (h2:A2):An2 A1 A2
inductive An4 (A1 A2 A3 A4:Prop):Prop
  | mk (h1:A1) (h2:A2) (h3:A3) (h4:A4):An4 A1 A2 A3 A4
inductive An5 (A1 A2 A3 A4 A5:Prop):Prop
  | mk (h1:A1) (h2:A2) (h3:A3) (h4:A4) (h5:A5):An5 A1 A2 A3 A4 A5
inductive An6 (A1 A2 A3 A4 A5 A6:Prop):Prop
  | mk (h1:A1) (h2:A2) (h3:A3) (h4:A4) (h5:A5) (h6:A6):An6 A1 A2 A3 A4 A5 A6
inductive An8 (A1 A2 A3 A4 A5 A6 A7 A8:Prop):Prop
  | mk (h1:A1) (h2:A2) (h3:A3) (h4:A4) (h5:A5) (h6:A6) (h7:A7) (h8:A8):An8 A1 A2 A3 A4 A5 A6 A7 A8
theorem Q0 {α:Type _} {us:List α} (h:us.length = 1):∃ a0,us = [a0]:=
  match us,h with
  | [a0],_=>⟨a0,rfl⟩
theorem qk {α:Type _} {us:List α} (h:us.length = 2):∃ a0 a1,us = [a0,a1]:=
  match us,h with
  | [a0,a1],_=>⟨a0,a1,rfl⟩
theorem Vt {α:Type _} {us:List α} (h:us.length = 3):∃ a0 a1 a2,us = [a0,a1,a2]:=
  match us,h with
  | [a0,a1,a2],_=>⟨a0,a1,a2,rfl⟩
theorem Yt {α:Type _} {us:List α} (h:us.length = 4):∃ a0 a1 a2 a3,us = [a0,a1,a2,a3]:=
  match us,h with
  | [a0,a1,a2,a3],_=>⟨a0,a1,a2,a3,rfl⟩
end L2
set_option maxHeartbeats 4000000
namespace L2
open PySem PySem.Spec PyProof.Rows
def zL (cs:List (Str × Addr)):List (Str × NameKind) -> List (Str × Addr) -> List (Str × Addr)
  | [],acc=>acc
  | (n,k) :: r,acc=>zL cs r (if (k == NameKind.free) = true then (n,(cs.lookup n).getD 0) :: acc else acc)
theorem VR {env:Env} (names:List (Str × NameKind)):∀ (acc:List (Str × Addr)),(∀ y ∈ names,y.2 = NameKind.free -> ∃ c,env.cells.lookup y.1 = some c) ->
    (forIn names acc fun (x:Str × NameKind) (cs:List (Str × Addr))=>
      (if (x.2 == NameKind.free) = true then (cellOf env x.1 >>= fun a=>(pure (ForInStep.yield ((x.1,a) :: cs)):Sem (ForInStep (List (Str × Addr))))) else pure (ForInStep.yield cs))) = (pure (zL env.cells names acc):Sem (List (Str × Addr))):=by
  induction names with
  | nil=>intro acc _;rfl
  | cons y r ih=>
    intro acc h
    obtain ⟨n,k⟩:=y
    rw [List.forIn_cons]
    by_cases hk:(k == NameKind.free) = true
    · obtain ⟨c,hc⟩:=h (n,k) List.mem_cons_self (by simpa using hk)
      have e1:cellOf env n = pure c:=by
        unfold cellOf
        rw [show env.cells.lookup n = some c from hc]
      simp only [hk,if_true,e1,pure_bind]
      rw [ih _ fun z hz=>h z (List.mem_cons_of_mem _ hz)]
      show _ = pure (zL env.cells r (if (k == NameKind.free) = true then (n,(env.cells.lookup n).getD 0) :: acc else acc))
      rw [if_pos hk,show env.cells.lookup n = some c from hc]
      all_goals rfl
    · simp only [hk,pure_bind]
      simp only [Bool.false_eq_true,if_false,pure_bind]
      rw [ih _ fun z hz=>h z (List.mem_cons_of_mem _ hz)]
      show _ = pure (zL env.cells r (if (k == NameKind.free) = true then (n,(env.cells.lookup n).getD 0) :: acc else acc))
      rw [if_neg hk]
theorem xC {env:Env} {scope:Scope} (h:∀ y ∈ scope.names,y.2 = NameKind.free -> ∃ c,env.cells.lookup y.1 = some c):closureFor scope env = pure (zL env.cells scope.names []):=by
  have e:=VR (env:=env) scope.names [] h
  unfold closureFor
  refine Eq.trans ?_ (Eq.trans (congrArg (fun m=>m >>= fun cs=>(pure cs:Sem (List (Str × Addr)))) e) ?_)
  · rfl
  · simp
theorem jz {cs:List (Str × Addr)} {x:Str}:∀ (names:List (Str × NameKind)) (acc:List (Str × Addr)),(zL cs names acc).lookup x = (if (names.any fun y=>y.2 == NameKind.free && x == y.1) = true then some ((cs.lookup x).getD 0) else acc.lookup x)
  | [],acc=>by simp [zL]
  | (n,k) :: r,acc=>by
    unfold zL
    rw [jz r]
    by_cases hr:(r.any fun y=>y.2 == NameKind.free && x == y.1) = true
    · rw [if_pos hr,if_pos (by rw [List.any_cons,hr,Bool.or_true])]
    · rw [if_neg hr]
      by_cases hk:(k == NameKind.free) = true
      · rw [if_pos hk]
        by_cases hx:(x == n) = true
        · rw [if_pos (by rw [List.any_cons];simp only [hk,hx,Bool.and_self,Bool.true_or])]
          have e:x = n:=by simpa using hx
          subst e
          simp [List.lookup_cons]
        · rw [if_neg (by rw [List.any_cons];simp only [hk,hx,Bool.and_false,Bool.false_or];exact hr)]
          have hx':(x == n) = false:=by simpa using hx
          simp [List.lookup_cons,hx']
      · rw [if_neg hk,if_neg (by rw [List.any_cons];simp only [hk,Bool.false_and,Bool.false_or];exact hr)]
abbrev zk (X:Cx) (N':List Str) (scope:Scope) (C:Addr) (s:Shared) (H:Hp) (ex:List Addr):Cx where
  prog:=X.prog
  w:=X.w
  K:=X.K
  mg:=X.mg
  base:=X.base
  A:=X.A
  N:=N'
  s₀:=s
  H₀:=H
  env:=compEnvC scope (zL X.env.cells scope.names []) C X.env
  outer:=X.stack
  stack:=X.stack
  ex:=ex
  fn:=fun _=>false
  calm:=X.calm
  pn:=[]
  xe:=fun _ _=>False
abbrev qS (ifs:List Expr) (env:Env):Sem Bool:=
  forIn ifs true fun (c:Expr) (r:Bool)=>if r = true then (isTrue c env (eval c env) >>= fun ok=>(pure (ForInStep.yield ok):Sem (ForInStep Bool))) else pure (ForInStep.yield r)
theorem ZL {prog:Program} {w:World} {A:Around} {R:Result -> Shared -> Prop} {s:Shared} {elt tg iter:Expr} {ifs:List Expr} {scope:Scope} {pos:Pos} {it acc:Value} {env:Env} (J:Nat -> Shared -> Prop)
    (turn:∀ n s,J n s -> wpAny (model prog w) A (pyNext it) (fun r s1=>match r with
      | none=>R (.ok .next) s1
      | some v=>wpAny (model prog w) A (letOwnedTupleGo tg it v) (fun _ s2=>wpAny (model prog w) A (assign tg env v) (fun _ s3=>
          wpAny (model prog w) A (qS ifs env) (fun ok s4=>
            if ok = true then wpAny (model prog w) A (eval elt env) (fun x s5=>
              wpAny (model prog w) A (call (.builtin "list.append") [acc,x]) (fun _ s6=>∃ m,m < n /\ J m s6) (fun _ _=>False) s5) (fun _ _=>False) s4
            else ∃ m,m < n /\ J m s4) (fun _ _=>False) s3) (fun _ _=>False) s2) (fun _ _=>False) s1) (fun _ _=>False) s)
    (n:Nat) (h:J n s):codeAny (model prog w) A (.compLoop (.ListComp elt [⟨tg,iter,ifs,0⟩] scope pos) 0 it acc env) R s:=by
  have no:∀ {α:Type} {t:Sem α} {Q:α -> Shared -> Prop} {E:Value -> Shared -> Prop} {s:Shared},wpAny (model prog w) A t Q (fun _ _=>False) s -> wpAny (model prog w) A t Q E s:=fun x=>wpAny_mono x (fun _ _ q=>q) fun _ _ q=>q.elim
  refine codeAny_loop rfl J (fun k u hJ=>?_) n h
  show wpAny _ A ((compTurn (.ListComp elt [⟨tg,iter,ifs,0⟩] scope pos) 0 it acc env).onRaise (fun x=>do noteFrame x env;theTreesLotGoes x)) _ _ u
  refine wpAny_noted ?_
  rw [compTurn_list]
  refine wpAny_bind (wpAny_standAt (wpAny_bind (no (wpAny_mono (turn k u hJ) (fun r s1 h1=>?_) fun _ _ q=>q))))
  cases r with
  | none=>exact wpAny_pure h1
  | some v=>
    refine wpAny_bind (no (wpAny_mono h1 (fun _ s2 h2=>wpAny_bind (no (wpAny_mono h2 (fun _ s3 h3=>wpAny_bind (no (wpAny_mono h3 (fun ok s4 h4=>?_) fun _ _ q=>q))) fun _ _ q=>q))) fun _ _ q=>q))
    cases ok with
    | false=>exact wpAny_pure ⟨rfl,h4⟩
    | true=>
      have h4':wpAny (model prog w) A (eval elt env) (fun x s5=>wpAny (model prog w) A (call (.builtin "list.append") [acc,x]) (fun _ s6=>∃ m,m < k /\ J m s6) (fun _ _=>False) s5) (fun _ _=>False) s4:=h4
      refine wpAny_bind (wpAny_bind (no (wpAny_mono h4' (fun x s5 h5=>wpAny_bind (no (wpAny_mono h5 (fun _ s6 h6=>wpAny_pure (wpAny_pure ⟨rfl,h6⟩)) fun _ _ q=>q))) fun _ _ q=>q)))
def PF (X:Cx) (ifs:List Expr) (t:TT):Prop:=
  ∀ (pins:List (Addr × Obj)) (s:Shared) (σ:St) (H:Hp) (Q:Bool -> Hp -> Prop),Inv X pins σ H s -> t σ H Q -> wpAny (model X.prog X.w) X.A (qS ifs X.env) (TP X pins σ Q) X.xe s
def zbd:TT:=fun _ H Q=>Q true H
theorem qc {X:Cx}:PF X [] zbd:=fun pins s σ H Q I h=>wpAny_pure ⟨H,I,h⟩
theorem xM {X:Cx} {c:Expr} {t:TT} (hc:PT X c t):PF X [c] t:=by
  intro pins s σ H Q I h
  unfold qS
  simp only [List.forIn_cons,List.forIn_nil,if_true]
  refine wpAny_bind (wpAny_bind (thn (hc pins s σ H Q I h) fun ok s1 q=>wpAny_pure (wpAny_pure q)))
theorem xA {P:Program} {w:World} {H:Hp} {h h':Heap} {C:Addr} (x:HOk P w H h) (hn:H C = none) (k:∀ b o,b ≠ C -> h.get? b = some o -> h'.get? b = some o):HOk P w H h':=fun b u e=>by
  refine (x b u e).stay (fun c v hc q=>k c v ?_ q) (fun _ q=>q) fun _ _ q=>q
  rcases hc with z | z
  · rw [z];exact zg e hn
  · exact zg z hn
theorem jW {P:Program} {w:World} {H:Hp} {h:Heap} {a:Addr} {o:HO} (x:HOk P w H h) (hn:H a = none) (new:ObjOk P w (upd H a o) h a o):HOk P w (upd H a o) h:=fun b u e=>by
  by_cases hb:b = a
  · subst hb;rw [zc] at e;cases e;exact new
  · rw [zi hb] at e
    exact (x b u e).stay (fun c v _ q=>q) (fun c q=>by rw [zi (zg q hn)];exact q) fun c xs q=>by rw [zi (zg q hn)];exact q
theorem xm {fs ex:List Addr} {H H':Hp} {h h':Heap} {a:Addr} {o:HO} (u:Un fs ex H H' h h') (ha:a ∈ ex) (hn:H a = none):Un fs ex H (upd H' a o) h h' where
  keep:=u.keep
  slot:=u.slot
  free:=fun b ob q n hx=>by
    have hb:b ≠ a:=fun z=>hx (by rw [z];exact ha)
    rw [zi hb];exact u.free b ob q n hx
  there:=u.there
  tups:=fun b xs q=>by rw [zi (zg q hn)];exact u.tups b xs q
  frzs:=fun b ob v q=>by rw [zi (zg q hn)];exact u.frzs b ob v q
  tbls:=fun b ps q=>by rw [zi (zg q hn)];exact u.tbls b ps q
theorem vB {fs ex:List Addr} {H H':Hp} {h h1 h2:Heap} {C:Addr} (u:Un fs ex H H' h h1) (hC:h.objs.size <= C) (k:∀ b o,b ≠ C -> h1.get? b = some o -> h2.get? b = some o):Un fs ex H H' h h2 where
  keep:=fun b o q n hb hx=>k b o (Nat.ne_of_lt (Nat.lt_of_lt_of_le (Heap.lt_size q) hC)) (u.keep b o q n hb hx)
  slot:=fun b o q n hb hx=>let ⟨sl,e⟩:=u.slot b o q n hb hx;⟨sl,k b _ (Nat.ne_of_lt (Nat.lt_of_lt_of_le (Heap.lt_size q) hC)) e⟩
  free:=u.free
  there:=fun b o q hx=>let ⟨o',e⟩:=u.there b o q hx;⟨o',k b _ (Nat.ne_of_lt (Nat.lt_of_lt_of_le (Heap.lt_size q) hC)) e⟩
  tups:=u.tups
  frzs:=u.frzs
  tbls:=u.tbls
def xF (sn on:List (Str × NameKind)) (N fr:List Str) (js:List Nat):Bool:=
  sn.all (fun y=>y.2 != .cell && (y.2 != .local || sn.lookup y.1 == some .local) && (y.2 != .free || (on.lookup y.1 == some .cell || on.lookup y.1 == some .free))) && fr.length == js.length
    && (fr.zip js).all fun p=>sn.lookup p.1 == some .free && N[p.2]? == some p.1
structure V1 (sn on:List (Str × NameKind)) (N fr:List Str) (js:List Nat):Prop where
  cell:∀ y ∈ sn,y.2 ≠ NameKind.cell
  loc:∀ y ∈ sn,y.2 = NameKind.local -> sn.lookup y.1 = some .local
  free:∀ y ∈ sn,y.2 = NameKind.free -> on.lookup y.1 = some .cell \/ on.lookup y.1 = some .free
  len:fr.length = js.length
  fr:∀ (k:Nat) (x:Str),fr[k]? = some x -> sn.lookup x = some .free /\ ∃ j:Nat,js[k]? = some j /\ N[j]? = some x
theorem jP {sn on:List (Str × NameKind)} {N fr:List Str} {js:List Nat} (h:xF sn on N fr js = true):V1 sn on N fr js:=by
  unfold xF at h
  rw [Bool.and_eq_true,Bool.and_eq_true,List.all_eq_true,List.all_eq_true] at h
  obtain ⟨⟨h1,h2⟩,h3⟩:=h
  have h2':fr.length = js.length:=by simpa using h2
  refine ⟨fun y hy=>?_,fun y hy e=>?_,fun y hy e=>?_,h2',fun k x e=>?_⟩
  · have:=h1 y hy
    simp only [Bool.and_eq_true,bne_iff_ne] at this
    exact this.1.1
  · have:=h1 y hy
    simp only [Bool.and_eq_true,Bool.or_eq_true,bne_iff_ne,beq_iff_eq] at this
    exact this.1.2.resolve_left fun z=>z e
  · have:=h1 y hy
    simp only [Bool.and_eq_true,Bool.or_eq_true,bne_iff_ne,beq_iff_eq] at this
    exact this.2.resolve_left fun z=>z e
  · have hk:k < fr.length:=(List.getElem?_eq_some_iff.mp e).1
    have hj:k < js.length:=by omega
    have hm:(x,js[k]) ∈ fr.zip js:=by
      refine List.mem_of_getElem? (i:=k) ?_
      rw [List.getElem?_zip_eq_some]
      exact ⟨e,by simp [hj]⟩
    have:=h3 _ hm
    simp only [Bool.and_eq_true,beq_iff_eq] at this
    exact ⟨this.1,js[k],by simp [hj],this.2⟩
def upS (n:Nat) (js:List Nat) (σ:St):St:=List.replicate n none ++ js.map fun j=>(σ[j]?).join
def tLC (wi:TI) (n:Nat) (js:List Nat) (g:TG) (tf:TT) (te:TE):TE:=fun σ H Q=>wi σ H fun J H1=>
  ∃ W:Nat -> Nat -> List V -> Hp -> Prop,(∃ m,W 0 m [] H1) /\ ∀ i m ys H2,W i m ys H2 ->
    (J.stop i H2 /\ ys.length <= sizeLine /\ ∀ D,H2 D = none -> Q (.ref D) (upd H2 D (.lst ys))) \/
    (J.go i H2 /\ ∃ N:List V -> Hp -> Prop,(∀ zs H',N zs H' -> ∃ m',m' < m /\ W (i + 1) m' zs H') /\ ∀ x H3,J.yld i H2 x H3 -> g x (upS n js σ) H3 fun σ4 H4=>σ4.drop n = (upS n js σ).drop n /\ tf σ4 H4 fun b H5=>
      if b = true then te σ4 H5 fun y H6=>ys.length < sizeLine /\ N (ys ++ [y]) H6 else N ys H5)
theorem jE {env:Env} {x:Str} {k':NameKind}:∀ {names:List (Str × NameKind)},(names.map fun (n,k)=>if (k == NameKind.free && env.scope.kind == .function && env.kindOf n == some .cell) then (n,NameKind.cell) else (n,k)).lookup x = some k' ->
    ∃ k,names.lookup x = some k /\ (k' = k \/ (k = .free /\ k' = .cell))
  | [],h=>by simp at h
  | (n,k) :: r,h=>by
    by_cases hx:(x == n) = true
    · refine ⟨k,by simp [List.lookup_cons,hx],?_⟩
      have h:List.lookup x ((if (k == NameKind.free && env.scope.kind == .function && env.kindOf n == some .cell) = true then (n,NameKind.cell) else (n,k)) :: _) = some k':=h
      by_cases hc:(k == NameKind.free && env.scope.kind == .function && env.kindOf n == some .cell) = true
      · rw [if_pos hc,List.lookup_cons,hx] at h
        simp only [Bool.and_eq_true,beq_iff_eq] at hc
        exact .inr ⟨hc.1.1,(Option.some.inj h).symm⟩
      · rw [if_neg hc,List.lookup_cons,hx] at h
        exact .inl (Option.some.inj h).symm
    · have hx':(x == n) = false:=by simpa using hx
      have h:List.lookup x ((if (k == NameKind.free && env.scope.kind == .function && env.kindOf n == some .cell) = true then (n,NameKind.cell) else (n,k)) :: _) = some k':=h
      have h2:(r.map fun (n,k)=>if (k == NameKind.free && env.scope.kind == .function && env.kindOf n == some .cell) then (n,NameKind.cell) else (n,k)).lookup x = some k':=by
        by_cases hc:(k == NameKind.free && env.scope.kind == .function && env.kindOf n == some .cell) = true
        · rw [if_pos hc,List.lookup_cons,hx'] at h;exact h
        · rw [if_neg hc,List.lookup_cons,hx'] at h;exact h
      obtain ⟨k0,e,z⟩:=jE h2
      exact ⟨k0,by rw [List.lookup_cons,hx'];exact e,z⟩
theorem xc {env:Env} {x:Str}:∀ {names:List (Str × NameKind)},names.lookup x = some .free -> ∃ k',(names.map fun (n,k)=>if (k == NameKind.free && env.scope.kind == .function && env.kindOf n == some .cell) then (n,NameKind.cell) else (n,k)).lookup x = some k' /\ (k' = .cell \/ k' = .free)
  | [],h=>by simp at h
  | (n,k) :: r,h=>by
    by_cases hx:(x == n) = true
    · rw [List.lookup_cons,hx] at h
      cases (Option.some.inj h)
      show ∃ k',List.lookup x ((if (NameKind.free == NameKind.free && env.scope.kind == .function && env.kindOf n == some .cell) = true then (n,NameKind.cell) else (n,NameKind.free)) :: _) = some k' /\ _
      by_cases hc:(NameKind.free == NameKind.free && env.scope.kind == .function && env.kindOf n == some .cell) = true
      · rw [if_pos hc];exact ⟨.cell,by simp [List.lookup_cons,hx],.inl rfl⟩
      · rw [if_neg hc];exact ⟨.free,by simp [List.lookup_cons,hx],.inr rfl⟩
    · have hx':(x == n) = false:=by simpa using hx
      rw [List.lookup_cons,hx'] at h
      obtain ⟨k',e,z⟩:=xc (env:=env) (names:=r) h
      refine ⟨k',?_,z⟩
      show List.lookup x ((if (k == NameKind.free && env.scope.kind == .function && env.kindOf n == some .cell) = true then (n,NameKind.cell) else (n,k)) :: _) = some k'
      by_cases hc:(k == NameKind.free && env.scope.kind == .function && env.kindOf n == some .cell) = true
      · rw [if_pos hc,List.lookup_cons,hx'];exact e
      · rw [if_neg hc,List.lookup_cons,hx'];exact e
theorem zA {cs:List (Str × Addr)} {names:List (Str × NameKind)} {x:Str} {c:Addr} (h:(zL cs names []).lookup x = some c) (hf:∀ y ∈ names,y.2 = NameKind.free -> ∃ c,cs.lookup y.1 = some c):cs.lookup x = some c:=by
  rw [jz] at h
  by_cases hr:(names.any fun y=>y.2 == NameKind.free && x == y.1) = true
  · rw [if_pos hr] at h
    obtain ⟨y,hy,e⟩:=List.any_eq_true.mp hr
    simp only [Bool.and_eq_true,beq_iff_eq] at e
    obtain ⟨c',e'⟩:=hf y hy e.1
    rw [<- e.2] at e'
    rw [e'] at h ⊢
    exact h
  · rw [if_neg hr] at h
    cases h
theorem j4 {cs:List (Str × Addr)} {names:List (Str × NameKind)} {x:Str} (h:names.lookup x = some .free):(zL cs names []).lookup x = some ((cs.lookup x).getD 0):=by
  rw [jz,if_pos]
  exact List.any_eq_true.mpr ⟨(x,.free),PySem.mem_of_lookup h,by simp⟩
theorem qG {n:Nat} {js:List Nat} {σ:St} {i:Nat} {v:V} (h:(upS n js σ)[i]? = some (some v)):n <= i /\ ((upS n js σ).drop n)[i - n]? = some (some v) /\ ∃ j:Nat,js[i - n]? = some j /\ σ[j]? = some (some v):=by
  unfold upS at h ⊢
  by_cases hi:i < n
  · rw [List.getElem?_append_left (by simpa using hi),List.getElem?_replicate] at h
    split at h <;> cases h
  · have e:(List.replicate n (none:Option V) ++ js.map fun j=>(σ[j]?).join).drop n = js.map fun j=>(σ[j]?).join:=by
      rw [List.drop_append_of_le_length (by simp)];simp
    rw [List.getElem?_append_right (by simpa using hi),List.length_replicate] at h
    refine ⟨by omega,by rw [e];exact h,?_⟩
    rw [List.getElem?_map] at h
    cases ej:js[i - n]? with
    | none=>rw [ej] at h;cases h
    | some j=>
      rw [ej] at h
      have h:(σ[j]?).join = some v:=Option.some.inj h
      refine ⟨j,rfl,?_⟩
      cases eo:σ[j]? with
      | none=>rw [eo] at h;cases h
      | some o=>rw [eo] at h;exact congrArg some h
theorem Qw {n:Nat} {js:List Nat} {σ:St}:(upS n js σ).length = n + js.length:=by unfold upS;simp
section
variable {X:Cx} {elt tg iter:Expr} {ifs:List Expr} {scope:Scope} {pos:Pos} {wi:TI} {g:TG} {tf:TT} {te:TE}
theorem xS {pins:List (Addr × Obj)} {σ:St} {H:Hp} {s:Shared} {fp:List Addr} (own fr:List Str) (js:List Nat) (I:Inv X pins σ H s) (B:V1 scope.names X.env.scope.names X.N fr js) (hk:scope.kind = .function)
    (f2:∀ b ∈ fp,qu X pins H b) (fl:∀ b ∈ fp,b < s.heap.objs.size) {D C:Addr} (hD:D = s.heap.objs.size) {h3 h1:Heap} (e3:h3 = s.heap.push { cls:=.type "list",dict:=none,data:=.seq ([]:List Value).toArray }) (hC:C = h3.objs.size)
    {m:Str -> Option Value} (hns:h1.Ns C m) (k4:∀ b o,h3.get? b = some o -> h1.get? b = some o) {t4:Nat} :
    Inv (zk X (own ++ fr) scope C { s with heap:=h3 } H (D :: fp)) [] (upS own.length js σ) H { s with heap:=h1,toks:=t4 }:=by
  have k3:∀ b o,s.heap.get? b = some o -> h3.get? b = some o:=fun b o e=>by rw [e3];exact Heap.get?_push_of_some _ e
  have I3:Inv X pins σ H { s with heap:=h3 }:=I.kept (t':=s.toks) k3
  have hz:h3.objs.size = s.heap.objs.size + 1:=by rw [e3,Heap.size_push]
  have hasF:∀ y ∈ scope.names,y.2 = NameKind.free -> ∃ c,X.env.cells.lookup y.1 = some c:=fun y hy e=>I.ok.has y.1 (B.free y hy e)
  have cellLt:∀ x c,X.env.cells.lookup x = some c -> c < s.heap.objs.size:=fun x c e=>by
    obtain ⟨v,q⟩:=I.cell x c e
    exact q.lt
  refine ⟨⟨I.ok.mod,hk,I.ok.glob,I.ok.blt,Nat.le_of_eq hC.symm,fun x y c e1 e2=>?_,fun x hx=>?_,fun x c hf=>(nomatch hf),fun hc=>I.ok.hd hc,I.ok.frames,.inl rfl,fun b hb=>?_,I3.bs,Nat.le_trans I.ok.bsz I3.sz,fun b o e hb=>?_,fun b hb hf=>?_,I3.stack,I3.stkFree⟩,
    rfl,I.bare,Un.kept k4,⟨m,hns,fun i x v e1 e2 e3'=>?_⟩,fun x c e=>?_,?_,fun x c e=>?_,fun p hp=>absurd (show p ∈ ([]:List (Addr × Obj)) from hp) (by simp),I3.hok.kept k4,?_⟩
  · exact I.ok.inj x y c (zA e1 hasF) (zA e2 hasF)
  · obtain ⟨k,e,z⟩:∃ k,scope.names.lookup x = some k /\ (k = .free):=by
      rcases hx with hx | hx
      · obtain ⟨k,e,z⟩:=jE hx
        rcases z with z | z
        · subst z;exact absurd rfl (B.cell _ (PySem.mem_of_lookup e))
        · exact ⟨k,e,z.1⟩
      · obtain ⟨k,e,z⟩:=jE hx
        rcases z with z | z
        · subst z;exact ⟨_,e,rfl⟩
        · exact ⟨k,e,z.1⟩
    subst z
    exact ⟨_,j4 e⟩
  · rcases List.mem_cons.mp hb with z | hb
    · subst z
      refine ⟨by rw [hD,hC,hz];exact Nat.ne_of_lt (Nat.lt_succ_self _),fun x c e=>?_⟩
      have:=cellLt x c (zA e hasF)
      rw [hD];exact Nat.ne_of_lt this
    · refine ⟨by rw [hC,hz];exact Nat.ne_of_lt (Nat.lt_succ_of_lt (fl b hb)),fun x c e=>?_⟩
      exact (f2 b hb).2.2.2.2.1 x c (zA e hasF)
  · rcases List.mem_cons.mp hb with z | hb
    · have:=Heap.lt_size (I.bk b o e)
      rw [z,hD] at this
      exact Nat.lt_irrefl _ this
    · rcases (f2 b hb).2.2.2.1 with z | z
      · exact I.ok.noex b o e z
      · exact absurd (Nat.lt_of_lt_of_le (Heap.lt_size (I.ok.bs b o e).1) z) (Nat.lt_irrefl _)
  · have hf':=List.mem_cons.mp (I.stkSub b hf)
    rcases List.mem_cons.mp hb with z | hb
    · rcases hf' with y | y
      · have:=I.lt
        rw [<- y,z,hD] at this
        exact Nat.lt_irrefl _ this
      · exact I.nofs (a:=b) (by rw [z,hD];exact Nat.le_refl _) y
    · rcases hf' with y | y
      · exact (f2 b hb).2.1 y
      · exact (f2 b hb).2.2.1 y
  · obtain ⟨hn,_,j,ej,es⟩:=qG e2
    have ex:fr[i - own.length]? = some x:=by rw [List.getElem?_append_right hn] at e1;exact e1
    obtain ⟨hfx,j',ej',eN⟩:=B.fr _ x ex
    have:j' = j:=by rw [ej] at ej';exact (Option.some.inj ej').symm
    subst this
    have hkx:=B.free _ (PySem.mem_of_lookup hfx) rfl
    obtain ⟨m0,_,hl⟩:=I.loc
    obtain ⟨u,r,l⟩:=hl j' x v eN es (by rcases hkx with z | z;exact .inr (.inl z);exact .inr (.inr z))
    refine ⟨u,r,.inr ?_⟩
    rcases l with ⟨kl,_⟩ | ⟨_,c,ec,o,eo,ed⟩
    · have kl':X.env.scope.names.lookup x = some .local:=kl
      rcases hkx with z | z
      · exact absurd (z.symm.trans kl') (by decide)
      · exact absurd (z.symm.trans kl') (by decide)
    · obtain ⟨k',e',z⟩:=xc (env:=X.env) hfx
      have eq:(zL X.env.cells scope.names []).lookup x = some c:=by rw [j4 hfx,ec];rfl
      refine ⟨?_,c,eq,o,k4 c o (k3 c o eo),ed⟩
      rcases z with z | z
      · subst z;exact .inl e'
      · subst z;exact .inr e'
  · obtain ⟨v,o,eo,ed⟩:=I.cell x c (zA e hasF)
    exact ⟨v,o,k4 c o (k3 c o eo),ed⟩
  · exact I3.hok.fresh (Nat.le_of_eq hC.symm)
  · exact I.freeC x c (zA e hasF)
  · rw [Qw,<- B.len]
    show _ = (own ++ fr).length
    rw [List.length_append]
theorem X4 (own fr:List Str) (js:List Nat) (hc:X.calm = true) (hk:scope.kind = .function) (hb:xF scope.names X.env.scope.names X.N fr js = true) (hi:PI X tg iter wi)
    (hg:∀ C s H ex,PG (zk X (own ++ fr) scope C s H ex) tg g) (hf:∀ C s H ex,PF (zk X (own ++ fr) scope C s H ex) ifs tf) (he:∀ C s H ex,PE (zk X (own ++ fr) scope C s H ex) elt te)
    (hs:∀ x,foldedSetIterable iter X.env x = pure x:=by intro _;rfl):PE X (.ListComp elt [⟨tg,iter,ifs,0⟩] scope pos) (tLC wi own.length js g tf te):=by
  intro pins s σ H Q I h
  have B:=jP hb
  have hasF:∀ y ∈ scope.names,y.2 = NameKind.free -> ∃ c,X.env.cells.lookup y.1 = some c:=fun y hy e=>I.ok.has y.1 (B.free y hy e)
  rw [eval_ListComp]
  refine wpAny_comprehension_free (use:=none) rfl hs (xC hasF) hk (fun y hy e=>B.loc y hy e) (thn (hi pins s σ H _ I h) fun v s1 h1=>thn h1 fun itv s2 h2=>?_)
  obtain ⟨it,fp,tn,J,H2,e,I2,T,st2,f2,W,⟨m0,w0⟩,turn⟩:=h2
  subst e
  have fl:∀ b ∈ fp,b < s2.heap.objs.size:=fun b hb=>let ⟨o,e,_⟩:=T.obj _ _ st2 b hb;Heap.lt_size e
  refine wpAny_newObj_type (wpAny_newFunctionEnv B.cell (by intro y hy;simp at hy) (fun h1 hns hsb=>?_) hk)
  dsimp only at hns hsb ⊢
  generalize e3:s2.heap.push { cls:=.type "list",dict:=none,data:=.seq ([]:List Value).toArray } = h3 at hns hsb ⊢
  have k3:∀ b o,s2.heap.get? b = some o -> h3.get? b = some o:=fun b o e=>by rw [<- e3];exact Heap.get?_push_of_some _ e
  have k4:∀ b o,h3.get? b = some o -> h1.get? b = some o:=fun b o e=>hsb.extBut b o (Nat.ne_of_lt (Heap.lt_size e)) (Heap.get?_push_of_some _ e)
  have I4:Inv (zk X (own ++ fr) scope h3.objs.size { s2 with heap:=h3 } H2 (s2.heap.objs.size :: fp)) [] (upS own.length js σ) H2 { s2 with heap:=h1,toks:=s2.toks + ([]:List (Str × Value)).length }:=
    xS own fr js I2 B hk f2 fl rfl e3.symm rfl hns k4
  have I3:Inv X pins σ H2 { s2 with heap:=h3 }:=I2.kept (t':=s2.toks) k3
  have hz:h3.objs.size = s2.heap.objs.size + 1:=by rw [<- e3,Heap.size_push]
  have hDl:s2.heap.objs.size ≠ h3.objs.size:=by rw [hz];exact Nat.ne_of_lt (Nat.lt_succ_self _)
  have hacc:h1.get? s2.heap.objs.size = some { cls:=.type "list",data:=.seq ([]:List Value).toArray }:=k4 _ _ (by rw [<- e3];exact Heap.get?_push_size _ rfl)
  generalize eD:s2.heap.objs.size = D at *
  generalize eC:h3.objs.size = C at *
  have fD:∀ b ∈ fp,D ≠ b:=fun b hb=>Nat.ne_of_gt (fl b hb)
  have hx:∀ x c,(zL X.env.cells scope.names []).lookup x = some c -> c ≠ D:=fun x c e=>by
    obtain ⟨v,q⟩:=I2.cell x c (zA e hasF)
    rw [<- eD];exact Nat.ne_of_lt q.lt
  have hx2:∀ b ∈ fp,∀ x c,(zL X.env.cells scope.names []).lookup x = some c -> c ≠ b:=fun b hb x c e=>(f2 b hb).2.2.2.2.1 x c (zA e hasF)
  have nfs:∀ b ∈ D :: fp,b ∉ frs X.stack:=I4.ok.exfs
  have fpB:∀ {pins':List (Addr × Obj)} {H':Hp} {b:Addr},b ∈ fp -> H' b = none -> (∀ p ∈ pins',p.1 ≠ b) -> qu (zk X (own ++ fr) scope C { s2 with heap:=h3 } H2 (D :: fp)) pins' H' b:=fun {pins' H' b} hb hn hp=>
    ⟨hn,(I4.ok.exf b (List.mem_cons_of_mem _ hb)).1,nfs b (List.mem_cons_of_mem _ hb),.inl (List.mem_cons_of_mem _ hb),fun x c e=>hx2 b hb x c e,fun p h=>hp p (by simpa using h)⟩
  have fpD:∀ {pins':List (Addr × Obj)} {H':Hp},H' D = none -> (∀ p ∈ pins',p.1 ≠ D) -> qu (zk X (own ++ fr) scope C { s2 with heap:=h3 } H2 (D :: fp)) pins' H' D:=fun {pins' H'} hn hp=>
    ⟨hn,hDl,nfs D List.mem_cons_self,.inl List.mem_cons_self,fun x c e=>hx x c e,fun p h=>hp p (by simpa using h)⟩
  have loop:∀ s4:Shared,s4 = { s2 with heap:=h1,toks:=s2.toks + ([]:List (Str × Value)).length } ->
      codeAny (model X.prog X.w) X.A (.compLoop (.ListComp elt [⟨tg,iter,ifs,0⟩] scope pos) 0 (.ref it) (.ref D) (compEnvC scope (zL X.env.cells scope.names []) C X.env))
        (compPost (model X.prog X.w) X.A X.xe none (EP X pins σ Q) (.ref D) C) s4:=by
    intro s4 e4
    refine ZL (fun n s'=>∃ i ys its H',∃ z:Nat,Inv (zk X (own ++ fr) scope C { s2 with heap:=h3 } H2 (D :: fp)) [] (upS own.length js σ) H' s' /\ tn i s'.heap /\ (∀ b ∈ fp,H' b = none) /\ H' D = none /\
      s'.heap.get? D = some { cls:=.type "list",data:=.seq (its:List Value).toArray z } /\ Vals ys its /\ W i n ys H') ?_ m0 ?_
    · rintro n s5 ⟨i,ys,its,H5,z5,I5,st5,fr5,hD5,ho5,rv5,w5⟩
      have I5':=I5.pinned (fp:=[D]) (fun b hb=>by rw [List.mem_singleton.mp hb];exact fpD hD5 (fun p hp=>absurd hp (by simp))) (fun b hb=>by
        rw [List.mem_singleton.mp hb];exact ⟨_,ho5,fun v q=>nomatch q⟩)
      have pD:∀ p ∈ [] ++ zp [D] s5.heap,p.1 = D:=fun p hp=>by
        rw [List.nil_append] at hp
        exact List.mem_singleton.mp (qz hp).1
      have mD:(D,({ cls:=.type "list",data:=.seq its.toArray z5 }:Obj)) ∈ [] ++ zp [D] s5.heap:=by
        rw [List.nil_append];exact zD (List.mem_singleton.mpr rfl) ho5
      have fp5:∀ {H':Hp},(∀ b ∈ fp,H' b = none) -> ∀ b ∈ fp,qu (zk X (own ++ fr) scope C { s2 with heap:=h3 } H2 (D :: fp)) ([] ++ zp [D] s5.heap) H' b:=fun hn b hb=>fpB hb (hn b hb) fun p hp=>by
        rw [pD p hp];exact fD b hb
      rcases turn i n ys H5 w5 with ⟨stop,hlen,q⟩ | ⟨go,N,hN,step⟩
      · refine thn (T.done (zk X (own ++ fr) scope C { s2 with heap:=h3 } H2 (D :: fp)) rfl rfl rfl hc i _ s5 _ H5 _ I5' (fp5 fr5) st5 stop) fun r s6 ⟨hr,I6⟩=>?_
        subst hr
        obtain ⟨m6,hn6,_⟩:=I6.loc
        refine ⟨m6,hn6,fun h7 hs7=>?_⟩
        obtain ⟨o6,nD6,_⟩:=I6.pin (D,_) (List.mem_append_right _ mD)
        have k7:∀ b o,b ≠ C -> s6.heap.get? b = some o -> h7.get? b = some o:=fun b o hb e=>hs7.extBut b o hb e
        refine ⟨.ref D,upd H5 D (.lst ys),?_,rfl,q D nD6⟩
        refine I3.call' (s':={ s6 with heap:=h7 }) (ch:=D :: fp) I6.os (xm (vB I6.base (Nat.le_of_eq eC) k7) List.mem_cons_self (I2.hok.fresh ?_)) (jW (xA I6.hok I6.free k7) nD6 ⟨hlen,its,z5,rv5,k7 D _ hDl o6⟩) I6.bare fun b hb=>?_
        · rw [<- eD];exact Nat.le_refl _
        · rcases List.mem_cons.mp hb with y | hb
          · subst y
            refine ⟨.inr (by rw [<- eD];exact I2.sz),by rw [<- eD];exact Nat.ne_of_gt I2.lt,fun x c e=>?_,fun p hp=>?_⟩
            · obtain ⟨v,q⟩:=I2.cell x c e
              rw [<- eD];exact Nat.ne_of_lt q.lt
            · rw [<- eD];exact Nat.ne_of_lt (Heap.lt_size (I2.pin p hp).1)
          · obtain ⟨_,g1,_,g3,g4,g5⟩:=f2 b hb
            exact ⟨g3,g1,g4,g5⟩
      · refine thn (T.item (zk X (own ++ fr) scope C { s2 with heap:=h3 } H2 (D :: fp)) rfl rfl rfl hc i _ s5 _ H5 _ I5' (fp5 fr5) st5 go) fun r s6 ⟨u,hr,h6⟩=>?_
        subst hr
        refine thn h6 fun _ s7 ⟨x,H7,I7,r7,y7,st7,fr7⟩=>?_
        have I7':=I7.pinned (fp5 fr7) (T.obj _ _ st7)
        refine thn (hg _ _ _ _ _ s7 _ H7 x u _ I7' r7 (step x H7 y7)) fun _ s8 ⟨σ8,H8,I8,hd8,q8⟩=>?_
        refine thn (hf _ _ _ _ _ s8 σ8 H8 _ I8 q8) fun ok s9 ⟨H9,I9,q9⟩=>?_
        have weak:∀ {H':Hp} {s':Shared},Inv (zk X (own ++ fr) scope C { s2 with heap:=h3 } H2 (D :: fp)) (([] ++ zp [D] s5.heap) ++ zp fp s7.heap) σ8 H' s' ->
            Inv (zk X (own ++ fr) scope C { s2 with heap:=h3 } H2 (D :: fp)) [] (upS own.length js σ) H' s':=fun {H' s'} J=>by
          refine (J.unpinned).unpinned.weak (I5.len.trans J.len.symm) fun k v e=>?_
          obtain ⟨hn,e1,_⟩:=qG e
          rw [<- hd8,List.getElem?_drop] at e1
          rw [<- e1]
          congr 1
          omega
        have mF:∀ b ∈ fp,∀ o,s7.heap.get? b = some o -> (b,o) ∈ ([] ++ zp [D] s5.heap) ++ zp fp s7.heap:=fun b hb o e=>List.mem_append_right _ (zD hb e)
        have mD':=List.mem_append_left (zp fp s7.heap) mD
        have frB:∀ {H':Hp} {s':Shared},Inv (zk X (own ++ fr) scope C { s2 with heap:=h3 } H2 (D :: fp)) (([] ++ zp [D] s5.heap) ++ zp fp s7.heap) σ8 H' s' -> ∀ b ∈ fp,H' b = none:=fun {H' s'} J b hb=>by
          obtain ⟨o,e,_⟩:=T.obj _ _ st7 b hb
          exact (J.pin (b,o) (List.mem_append_right _ (mF b hb o e))).2.1
        cases ok with
        | false=>
          have q9':N ys H9:=by simpa using q9
          obtain ⟨m',hm,w'⟩:=hN _ _ q9'
          obtain ⟨o9,nD9,_⟩:=I9.pin (D,_) (List.mem_append_right _ mD')
          exact ⟨m',hm,i + 1,ys,its,H9,z5,weak I9,T.keep _ _ _ st7 fun b hb o e=>(I9.pin (b,o) (List.mem_append_right _ (mF b hb o e))).1,frB I9,nD9,o9,rv5,w'⟩
        | true=>
          have q9':te σ8 H9 fun y H6=>ys.length < sizeLine /\ N (ys ++ [y]) H6:=by simpa using q9
          refine thn (he _ _ _ _ _ s9 σ8 H9 _ I9 q9') fun yv s10 ⟨y,H10,I10,r10,hlt,w10⟩=>?_
          obtain ⟨m',hm,w'⟩:=hN _ _ w10
          obtain ⟨o10,nD10,_⟩:=I10.pin (D,_) (List.mem_append_right _ mD')
          refine wpAny_list_append_plain (l:=D) (items:=its.toArray) (hsz:=by rw [List.size_toArray,<- rv5.length];exact Nat.le_of_lt hlt) ⟨_,o10⟩ fun h11 hl11 hs11=>?_
          obtain ⟨z11,e11⟩:=hl11
          refine ⟨m',hm,i + 1,ys ++ [y],its ++ [yv],H10,z11,?_,T.keep _ _ _ st7 fun b hb o e=>hs11.extBut b o (Ne.symm (fD b hb)) (I10.pin (b,o) (List.mem_append_right _ (mF b hb o e))).1,frB I10,nD10,?_,rv5.append (.cons r10 .nil),w'⟩
          · exact (weak I10).turned (t':=s10.toks) (it:=D) (fun b o hb e=>hs11.extBut b o hb e) nD10 hDl (.inl List.mem_cons_self) (fun x c e=>hx x c e) fun p hp=>absurd (show p ∈ ([]:List (Addr × Obj)) from hp) (by simp)
          · rw [e11];simp
    · subst e4
      exact ⟨0,[],[],H2,0,I4,T.keep _ _ _ st2 fun b hb o e=>k4 b o (k3 b o e),fun b hb=>(f2 b hb).1,I2.hok.fresh (by rw [<- eD];exact Nat.le_refl _),hacc,.nil,w0⟩
  exact codeAny_compStart_list (loop _ rfl) (T.self X.A 0 _ _ _ (T.keep _ _ _ st2 fun b hb o e=>k4 b o (k3 b o e)) (loop _ rfl))
end
section
variable {X:Cx} {pins:List (Addr × Obj)} {σ:St} {H:Hp} {s:Shared}
theorem vo {ch:List Addr} {h':Heap} {t':Nat} {T:Addr} {ys:List V} {its:List Value} (I:Inv X pins σ H s) (hf:∀ b ∈ ch,qu X pins H b) (hT:s.heap.objs.size <= T)
    (k:∀ b o,b ∉ ch -> s.heap.get? b = some o -> h'.get? b = some o) (hl:ys.length <= sizeLine) (rv:Vals ys its) (ht:TupX h' T its.toArray) :
    Inv X pins σ (upd H T (.tup ys)) { s with heap:=h',toks:=t' }:=by
  have hn:H T = none:=I.hok.fresh hT
  have ne:∀ b o,s.heap.get? b = some o -> b ≠ T:=fun b o e=>Nat.ne_of_lt (Nat.lt_of_lt_of_le (Heap.lt_size e) hT)
  have tr:∀ b u,H b = some u -> b ∉ ch:=fun b u e hb=>by rw [(hf b hb).1] at e;cases e
  refine I.step (g':=s.gens) (d':=s.drawn) (ch:=ch) (fun b hb=>?_) (fun b o _ _ hc e _=>k b o hc e) (fun b o _ _ hc e _=>⟨o.slots,k b o hc e⟩) (fun b o _ e n=>by rw [zi (ne b o e)];exact n) (fun b o hc e=>⟨o,k b o hc e⟩)
    (fun b xs e=>by rw [zi (zg e hn)];exact e) (fun b o u e=>by rw [zi (zg e hn)];exact e) (fun b ps e=>⟨#[],by rw [zi (zg e hn),e];simp⟩) (fun m hm=>?_) (fun b u e=>?_) I.bare
  · obtain ⟨_,g1,_,g3,g4,g5⟩:=hf b hb
    exact ⟨g3,g1,g4,g5⟩
  · obtain ⟨o,es,ep,ho,r⟩:=hm
    exact ⟨o,es,ep,k _ o (fun z=>(hf _ z).2.1 rfl) ho,r⟩
  · by_cases hb:b = T
    · subst hb
      rw [zc] at e
      cases e
      exact ⟨hl,its,rv,ht⟩
    · rw [zi hb] at e
      refine (I.hok b u e).stay (fun c v hc q=>k c v ?_ q) (fun c q=>by rw [zi (zg q hn)];exact q) fun c xs q=>by rw [zi (zg q hn)];exact q
      rcases hc with z | z
      · rw [z];exact tr b u e
      · exact tr c _ z
end
def Ite (K:PySem.W.Frag) (a:Addr):It:=
  ⟨fun i H=>∃ xs x,SqL K H a xs /\ xs[i]? = some x,fun i H x H'=>∃ T y,x = .ref T /\ H T = none /\ H' = upd H T (.tup [.int i,y]) /\ ∀ xs,SqL K H a xs -> xs[i]? = some y,fun i H=>∃ xs,SqL K H a xs /\ xs.length <= i⟩
theorem JB {P:Program} {w:World} {K:PySem.W.Frag} {elts:List Expr} {kk:Nat} {pos:Pos} (a e it:Addr) (hne:e ≠ it) :
    wJ P w K (.Tuple elts kk pos) (Ite K a) [e,it] e (fun i h=>(∃ old,IsEnum h e it i old) /\ h.IsListIter it a i) where
  mem:=by simp
  obj:=fun i h st b hb=>by
    obtain ⟨⟨old,he⟩,⟨o,ho,c,d⟩⟩:=st
    rcases List.mem_cons.mp hb with z | z
    · subst z;exact ⟨_,he,fun v q=>nomatch q⟩
    · rw [List.mem_singleton.mp z];exact ⟨o,ho,fun v q=>by rw [d] at q;cases q⟩
  keep:=fun i h h' st k=>by
    obtain ⟨⟨old,he⟩,hi⟩:=st
    exact ⟨⟨old,k e (by simp) _ he⟩,hi.at fun o q=>k it (by simp) o q⟩
  item:=by
    intro X hP hw hK hc i pins s σ H E I hf st hg
    subst hP hw hK
    obtain ⟨⟨old,he⟩,hit⟩:=st
    obtain ⟨xs,x,hq,hx⟩:=hg
    obtain ⟨its,rv,p,hz⟩:=I.list hq
    obtain ⟨u,hu,ru⟩:=rv.get hx
    have hl:=p.isList
    have hai:a ≠ it:=fun z=>by
      obtain ⟨o,e1,c1,_⟩:=hl
      obtain ⟨o',e2,c2,_⟩:=hit
      rw [z,e2] at e1;cases e1;rw [c2] at c1;exact absurd (Value.type.inj c1) (by decide)
    have hae:e ≠ a:=fun z=>by
      obtain ⟨o,e1,c1,_⟩:=hl
      rw [<- z,he] at e1;cases e1;exact absurd (Value.type.inj c1) (by decide)
    have D:=Draws.list (prog:=X.prog) (w:=X.w) (A:=X.A.in1) (I.ok.hd hc) it a hai its.toArray
    have hi:i < its.toArray.size:=by
      have h1:=(List.getElem?_eq_some_iff.mp hu).1
      simpa using h1
    refine wpAny_pyNext_enum_itemD D he ⟨hit,hl⟩ hi hne (by simp [hne,hae]) fun x' h' tk hP' hout hst' hT hsz hk=>?_
    have ex:x' = u:=by
      have h2:its[i]? = some x':=by simpa using hP'
      rw [hu] at h2;exact (Option.some.inj h2).symm
    subst ex
    refine ⟨_,rfl,wpAny_letOwnedTupleGo_enum hout fun h2 he2 hs2=>?_⟩
    have eT:s.heap.objs.size ≠ e:=Nat.ne_of_gt (Heap.lt_size he)
    have k2:∀ b o,b ∉ [e,it] -> s.heap.get? b = some o -> h2.get? b = some o:=fun b o hb q=>by
      have n1:b ≠ e:=fun z=>hb (by simp [z])
      have n2:b ≠ it:=fun z=>hb (by simp [z])
      exact (hs2.2 b n1).trans (hk b o n1 n2 q)
    have it2:h2.IsListIter it a (i + 1):=hst'.1.extBut hs2.extBut (Ne.symm hne)
    refine ⟨.ref s.heap.objs.size,upd H s.heap.objs.size (.tup [.int i,x]),?_,rfl,⟨_,x,rfl,I.hok.fresh (Nat.le_refl _),rfl,fun ys hy=>by rw [I.list_inj hy hq];exact hx⟩,⟨⟨_,by simpa using he2⟩,it2⟩,fun b hb=>?_⟩
    · refine vo (s:=s) (h':=h2) (t':=tk + 1) (its:=[.int i tk,x']) I hf (Nat.le_refl _) k2 (by rw [sizeLine_eq];exact (by decide:2 <= 16777216)) (.cons ⟨tk,rfl⟩ (.cons ru .nil)) (TupX.by ((hs2.2 _ eT).trans hT))
    · have hb':b < s.heap.objs.size:=by
        rcases List.mem_cons.mp hb with z | z
        · rw [z];exact Heap.lt_size he
        · rw [List.mem_singleton.mp z]
          obtain ⟨o',e',_⟩:=hit
          exact Heap.lt_size e'
      rw [zi (Nat.ne_of_lt hb')]
      exact (hf b hb).1
  done:=by
    intro X hP hw hK hc i pins s σ H E I hf st hg
    subst hP hw hK
    obtain ⟨⟨old,he⟩,hit⟩:=st
    obtain ⟨xs,hq,hx⟩:=hg
    obtain ⟨its,rv,p,hz⟩:=I.list hq
    have hl:=p.isList
    have hai:a ≠ it:=fun z=>by
      obtain ⟨o,e1,c1,_⟩:=hl
      obtain ⟨o',e2,c2,_⟩:=hit
      rw [z,e2] at e1;cases e1;rw [c2] at c1;exact absurd (Value.type.inj c1) (by decide)
    obtain ⟨f0,f1,f2,f3,f4,f5⟩:=hf it (by simp)
    have hle:its.toArray.size <= i:=by
      have:=rv.length
      simp only [List.size_toArray];omega
    have hT:s.TypeIs (.ref e) "enumerate" :=⟨_,he,rfl⟩
    unfold pyNext
    refine wpAny_bind (wpAny_attempt (wpAny_callSpecial?_slot (name:=Str.ofString "__next__") hT F.slot_enumerate_next (wpAny_call_entry F.slot_enumerate_next hT F.entry_enumerate_next ?_ (F.args_enumerate_next_1 _))))
    show wpAny _ _ (field (.ref e) 2 >>= _) _ _ _
    refine wpAny_bind (wpAny_field he rfl (x:=.ref it) rfl (wpAny_bind (wpAny_nextOf_list_end (I.ok.hd hc) hit hl (by simpa using hle) fun h' x he' hx'=>?_)))
    obtain ⟨o,ho,hc'⟩:=hx'
    refine wpAny_bind (wpAny_isInstance (T:= "StopIteration") (b:=true) ⟨o,ho,hc'⟩ isSubtype_stop ?_)
    exact wpAny_pure ⟨rfl,I.turned (t':=s.toks) (fun b o hb q=>he' b o hb q) f0 f1 f3 f4 f5⟩
  self:=fun _ _ _ _ _ st h=>let ⟨⟨_,he⟩,_⟩:=st;wpAny_pyIter_enum he h
section
variable {X:Cx}
def zbb (K:PySem.W.Frag) (ta:TA):TI:=fun σ H R=>ta σ H fun vs H1=>∃ a,vs = [.ref a] /\ (∃ xs,SqL K H1 a xs) /\ R (Ite K a) H1
theorem Wj {l:Expr} {ta:TA} {p pos tp:Pos} {elts:List Expr} {kk:Nat} (hg:Gl X "enumerate") (hm:X.mg "enumerate" = none) (ha:PA X [l] ta) (hs:starEach [l] X.env = [(false,eval l X.env)]:=by rfl) :
    PI X (.Tuple elts kk tp) (.Call (.Name "enumerate" p) [l] [] pos) (zbb X.K ta):=by
  intro pins s σ H R I h
  refine Call_ (jw I hg hm boot_enumerate (PyProof.Rows.callWith_type1 (thn (ha pos pins s σ H _ I h) fun us s1 ⟨vs,H1,I1,r1,q1⟩=>?_) hs rfl))
  obtain ⟨a,e,⟨xs,hq⟩,q⟩:=q1
  subst e
  obtain ⟨u,rfl,ru⟩:=jb r1
  cases ru
  obtain ⟨its,rv,pl,hz⟩:=I1.list hq
  refine call_enumerate_list pl.isList fun h' he hi hsz hk=>wpAny_pyIter_enum he ?_
  have I2:Inv X pins σ H1 { s1 with heap:=h' }:=I1.kept (t':=s1.toks) hk
  refine ⟨s1.heap.objs.size + 1,[s1.heap.objs.size + 1,s1.heap.objs.size],_,_,H1,rfl,I2,JB a _ _ (Nat.succ_ne_self _),⟨⟨_,he⟩,hi⟩,fun b hb=>?_,q⟩
  have hb':s1.heap.objs.size <= b:=by
    rcases List.mem_cons.mp hb with z | z
    · rw [z];exact Nat.le_succ _
    · rw [List.mem_singleton.mp z];exact Nat.le_refl _
  exact I1.fpOk hb' (I1.hok.fresh hb')
theorem VH {K:PySem.W.Frag} {a:Addr} {xs:List V} {g:TG} {tb:TS} {D:wK} {σ:St} {H:Hp} (Pv:Nat -> St -> Hp -> Prop) (h0:Pv 0 σ H) (hl:∀ i σ H,i <= xs.length -> Pv i σ H -> SqL K H a xs)
    (hs:∀ i x σ H T,xs[i]? = some x -> Pv i σ H -> H T = none -> g (.ref T) σ (upd H T (.tup [.int i,x])) fun σ2 H2=>tb { D with nx:=Pv (i + 1),ct:=Pv (i + 1),bk:=D.nx } σ2 H2) (hd:∀ σ H,Pv xs.length σ H -> D.nx σ H) :
    ∃ W:Nat -> Nat -> St -> Hp -> Prop,(∃ m,W 0 m σ H) /\ ∀ i m σ H,W i m σ H ->
      ((Ite K a).stop i H /\ D.nx σ H) \/ ((Ite K a).go i H /\ ∃ N:St -> Hp -> Prop,(∀ σ' H',N σ' H' -> ∃ m',m' < m /\ W (i + 1) m' σ' H') /\ ∀ x H',(Ite K a).yld i H x H' -> g x σ H' fun σ2 H2=>tb { D with nx:=N,ct:=N,bk:=D.nx } σ2 H2):=by
  refine ⟨fun i m σ H=>m = xs.length - i /\ i <= xs.length /\ Pv i σ H,⟨xs.length,by simp,Nat.zero_le _,h0⟩,?_⟩
  rintro i m σ H ⟨rfl,hi,p⟩
  have q:=hl i σ H hi p
  by_cases hlt:i < xs.length
  · refine .inr ⟨⟨xs,xs[i],q,by simp [hlt]⟩,Pv (i + 1),fun σ' H' p'=>⟨xs.length - (i + 1),by omega,rfl,hlt,p'⟩,fun x H' y=>?_⟩
    obtain ⟨T,z,e1,hT,e2,y⟩:=y
    subst e1 e2
    exact hs i z σ H T (y xs q) p hT
  · have e:i = xs.length:=by omega
    subst e
    exact .inl ⟨⟨xs,q,Nat.le_refl _⟩,hd σ H p⟩
end
section
variable {X:Cx}
inductive vf (K:PySem.W.Frag) (xs:List V) (H:Hp) (Q:VK):Prop
  | mk (p:Addr) (bs:List Bool) (_:xs = [.ref p]) (_:SqL K H p (bs.map V.bl)) (_:Q (.bl (bs.all id)) H):vf K xs H Q
theorem J9 (hc:X.calm = true):CallR X (.builtin "all") (vf X.K):=by
  intro pins s σ H xs us Q I r h
  obtain ⟨p,bs,rfl,hq,q⟩:=h
  obtain ⟨u,rfl,ru⟩:=jb r
  cases ru
  obtain ⟨its,rv,pl,hz⟩:=I.list hq
  have hl:=pl.isList
  have hpl:p ≠ s.heap.objs.size:=by
    obtain ⟨o,e,_⟩:=hl
    exact Nat.ne_of_lt (Heap.lt_size e)
  refine call_all_walk (wpAny_pyIter_list hl ?_)
  refine ⟨s.heap.objs.size,_,_,_,_,_,fun i=>bs.getD i true,rfl,Walks.list (prog:=X.prog) (w:=X.w) (A:=X.A.in1) (I.ok.hd hc) _ p hpl its.toArray,⟨⟨_,Heap.get?_push_size _ rfl,rfl,rfl⟩,hl.push _⟩,?_,fun h' tk hk=>?_⟩
  · intro i v s' Q' E' hP hQ
    have hP:its.toArray[i]? = some v:=hP
    have e1:its[i]? = some v:=by simpa using hP
    have hi:i < bs.length:=by
      have h1:=(List.getElem?_eq_some_iff.mp e1).1
      have h2:=rv.length
      rw [List.length_map] at h2
      omega
    have e2:(bs.map V.bl)[i]? = some (.bl bs[i]):=by simp [hi]
    obtain ⟨u',eu,ru⟩:=rv.get e2
    rw [e1] at eu
    cases eu
    cases ru
    have e3:bs.getD i true = bs[i]:=by simp [hi]
    have hQ2:Q' (bs.getD i true) s':=hQ
    rw [e3] at hQ2
    exact wpAny_truthy_bool hQ2
  · have k:∀ b o,s.heap.get? b = some o -> h'.get? b = some o:=fun b o e=>hk b o (by simp;exact Nat.ne_of_lt (Heap.lt_size e)) (Heap.get?_push_of_some _ e)
    have ea:(List.range its.toArray.size).all (fun i=>bs.getD i true) = bs.all id:=by
      have hlen:its.toArray.size = bs.length:=by
        have:=rv.length
        rw [List.length_map] at this
        simp only [List.size_toArray];omega
      rw [hlen,Bool.eq_iff_iff,List.all_eq_true,List.all_eq_true]
      constructor
      · intro h b hb
        obtain ⟨i,hi,rfl⟩:=List.mem_iff_getElem.mp hb
        have:=h i (List.mem_range.mpr hi)
        simpa [hi] using this
      · intro h i hi
        have hi:=List.mem_range.mp hi
        have:=h bs[i] (List.getElem_mem hi)
        simpa [hi] using this
    exact ⟨.bl (bs.all id),H,I.kept k,by rw [ea];rfl,q⟩
end
def SqK (K:PySem.W.Frag) (kd:Bool) (H:Hp) (a:Addr) (xs:List V):Prop:=match kd with
  | true=>SqL K H a xs
  | false=>SqT K H a xs
def SeqK (kd:Bool) (h:Heap) (a:Addr) (its:Array Value):Prop:=match kd with
  | true=>h.IsList a its
  | false=>h.IsTuple a its
def ItrK (kd:Bool) (h:Heap) (it a:Addr) (i:Nat):Prop:=match kd with
  | true=>h.IsListIter it a i
  | false=>h.IsTupleIter it a i
theorem SeqK.at {kd:Bool} {h h':Heap} {a:Addr} {its:Array Value} (x:SeqK kd h a its) (k:∀ o,h.get? a = some o -> h'.get? a = some o):SeqK kd h' a its:=by
  cases kd with
  | true=>exact Heap.IsList.at x k
  | false=>obtain ⟨o,e,r⟩:=(show h.IsTuple a its from x);exact ⟨o,k o e,r⟩
theorem ItrK.at {kd:Bool} {h h':Heap} {it a:Addr} {i:Nat} (x:ItrK kd h it a i) (k:∀ o,h.get? it = some o -> h'.get? it = some o):ItrK kd h' it a i:=by
  cases kd with
  | true=>exact Heap.IsListIter.at x k
  | false=>obtain ⟨o,e,r⟩:=(show h.IsTupleIter it a i from x);exact ⟨o,k o e,r⟩
theorem ItrK.obj {kd:Bool} {h:Heap} {it a:Addr} {i:Nat} (x:ItrK kd h it a i):∃ o,h.get? it = some o /\ (o.cls = .type "list_iterator" \/ o.cls = .type "tuple_iterator") /\ ∀ v,o.data ≠ .cell v:=by
  cases kd with
  | true=>obtain ⟨o,e,c,d⟩:=(show h.IsListIter it a i from x);exact ⟨o,e,.inl c,fun v q=>by rw [d] at q;cases q⟩
  | false=>obtain ⟨o,e,c,d⟩:=(show h.IsTupleIter it a i from x);exact ⟨o,e,.inr c,fun v q=>by rw [d] at q;cases q⟩
theorem SeqK.cls {kd:Bool} {h:Heap} {a:Addr} {its:Array Value} (x:SeqK kd h a its):∃ o,h.get? a = some o /\ (o.cls = .type "list" \/ o.cls = .type "tuple") /\ ∃ n,o.data = .seq its n:=by
  cases kd with
  | true=>obtain ⟨o,e,c,n,d⟩:=(show h.IsList a its from x);exact ⟨o,e,.inl c,n,d⟩
  | false=>obtain ⟨o,e,c,n,d⟩:=(show h.IsTuple a its from x);exact ⟨o,e,.inr c,n,d⟩
section
variable {prog:Program} {w:World} {A:Around} {E:Value -> Shared -> Prop} {s:Shared}
theorem jt {kd:Bool} {it a:Addr} {i:Nat} {its:Array Value} {x:Value} {Q:Value -> Shared -> Prop} (hi:ItrK kd s.heap it a i) (hl:SeqK kd s.heap a its) (hx:its[i]? = some x)
    (hQ:∀ h',ItrK kd h' it a (i + 1) -> Heap.SameBut it s.heap h' -> Q x { s with heap:=h' }):wpAny (model prog w) A (Builtin.SmallTypes.nextOf (.ref it)) Q E s:=by
  cases kd with
  | true=>exact wpAny_nextOf_list_item hi hl hx hQ
  | false=>
    have hi':s.heap.IsTupleIter it a i:=hi
    obtain ⟨o,ho,hc,hd⟩:=id hi'
    obtain ⟨ol,hol,_,nl,hdl⟩:=(show s.heap.IsTuple a its from hl)
    unfold Builtin.SmallTypes.nextOf;refine wpAny_bind (wpAny_callSpecial?_slot (name:=Str.ofString "__next__") hi'.typeIs F.slot_tuple_iterator_next (wpAny_call_entry F.slot_tuple_iterator_next hi'.typeIs F.entry_tuple_iterator_next ?_ (F.args_tuple_iterator_next_1 _)))
    show wpAny _ _ (field (.ref it) 0 >>= _) _ _ _;refine wpAny_bind (wpAny_field ho hd (x:=.ref a) rfl ?_)
    show wpAny _ _ (if (Value.ref a == Value.none) = true then _ else _) _ _ _;rw [if_neg (show ¬ ((Value.ref a == Value.none) = true) from Bool.false_ne_true)]
    show wpAny _ _ (field (.ref it) 1 >>= _) _ _ _;refine wpAny_bind (wpAny_field ho hd (x:=.int i 0) rfl ?_)
    show wpAny _ _ (seqItems? (.ref a) >>= _) _ _ _;refine wpAny_bind (wpAny_seqItems hol hdl ?_);simp only [Int.toNat_natCast,hx]
    refine wpAny_bind (wpAny_setField ho hd (by simp) (wpAny_pure ⟨x,rfl,wpAny_pure (hQ _ (show Heap.IsTupleIter _ _ _ _ from ?_) (Heap.SameBut.update ..))⟩))
    refine ⟨_,Heap.get?_update_self _ ho (Obj.isFreed_of_fields (Obj.data_mapFields hd _)),(Obj.cls_mapFields ..).trans hc,?_⟩;rw [Obj.data_mapFields hd];simp [rawInt]
theorem jU {kd:Bool} {it a:Addr} {i:Nat} {its:Array Value} {Q:Value -> Shared -> Prop} (hh:A.handled = none) (hi:ItrK kd s.heap it a i) (hl:SeqK kd s.heap a its) (hx:its[i]? = none)
    (hE:∀ h' e,Heap.ExtBut it s.heap h' -> (∃ o,h'.get? e = some o /\ o.cls = .type "StopIteration") -> E (.ref e) { s with heap:=h' }):wpAny (model prog w) A (Builtin.SmallTypes.nextOf (.ref it)) Q E s:=by
  cases kd with
  | true=>exact wpAny_nextOf_list_end hh hi hl hx hE
  | false=>
    have hi':s.heap.IsTupleIter it a i:=hi
    obtain ⟨o,ho,hc,hd⟩:=id hi'
    obtain ⟨ol,hol,_,nl,hdl⟩:=(show s.heap.IsTuple a its from hl)
    unfold Builtin.SmallTypes.nextOf;refine wpAny_bind (wpAny_callSpecial?_slot (name:=Str.ofString "__next__") hi'.typeIs F.slot_tuple_iterator_next (wpAny_call_entry F.slot_tuple_iterator_next hi'.typeIs F.entry_tuple_iterator_next ?_ (F.args_tuple_iterator_next_1 _)))
    show wpAny _ _ (field (.ref it) 0 >>= _) _ _ _;refine wpAny_bind (wpAny_field ho hd (x:=.ref a) rfl ?_)
    show wpAny _ _ (if (Value.ref a == Value.none) = true then _ else _) _ _ _;rw [if_neg (show ¬ ((Value.ref a == Value.none) = true) from Bool.false_ne_true)]
    show wpAny _ _ (field (.ref it) 1 >>= _) _ _ _;refine wpAny_bind (wpAny_field ho hd (x:=.int i 0) rfl ?_)
    show wpAny _ _ (seqItems? (.ref a) >>= _) _ _ _;refine wpAny_bind (wpAny_seqItems hol hdl ?_);simp only [Int.toNat_natCast,hx]
    refine wpAny_bind (wpAny_rule (wpAny_bind (wpAny_setField ho hd (by simp) ?_)));show wpAny _ _ (newExc (.type "StopIteration") [] >>= _) _ _ _
    refine wpAny_bind ?_;simp only [newExc,newTuple];refine wpAny_bind (wpAny_newObj_type ?_ (by size_fits))
    refine wpAny_bind (m:=firstArgMember _ _) (wpAny_of_eq (a:=Value.none) (by first | rfl | (simp only [firstArgMember];rfl)) (wpAny_newObj_type ?_ (by size_fits)))
    simp only [raiseNew];refine wpAny_bind (wpAny_handled ?_);first | rw [show A.in1.handled = none from hh] | rw [hh]
    exact wpAny_bind (wpAny_pure (wpAny_throw (hE _ _ (((Heap.SameBut.update ..).extBut.push _).push _) ⟨_,Heap.get?_push_size _ rfl,rfl⟩)))
structure yj (k1 k2:Bool) (h:Heap) (z TI TO i1 i2 a1 a2:Addr) (i:Nat):Prop where
  zz:IsZip h z TI TO .none
  ti:IsPair h TI (.ref i1) (.ref i2)
  to:∃ a b,IsPair h TO a b
  r1:ItrK k1 h i1 a1 i
  r2:ItrK k2 h i2 a2 i
structure Jf (z TI TO i1 i2:Addr):Prop where
  a:TI ≠ z
  b:TO ≠ z
  c:i1 ≠ z
  d:i2 ≠ z
  e:TI ≠ TO
  f:TI ≠ i1
  g:TI ≠ i2
  h:TO ≠ i1
  i:TO ≠ i2
  j:i1 ≠ i2
end
section
variable {prog:Program} {w:World} {A:Around} {E:Value -> Shared -> Prop} {s:Shared}
theorem Jh {k1 k2:Bool} {z TI TO i1 i2 a1 a2:Addr} {i:Nat} {xs ys:Array Value} {x y:Value} {Q:Option Value -> Shared -> Prop} (N:Jf z TI TO i1 i2) (Z:yj k1 k2 s.heap z TI TO i1 i2 a1 a2 i)
    (l1:SeqK k1 s.heap a1 xs) (l2:SeqK k2 s.heap a2 ys) (m1:∀ b ∈ [z,TO,i1,i2],a1 ≠ b) (m2:∀ b ∈ [z,TO,i1,i2],a2 ≠ b) (hx:xs[i]? = some x) (hy:ys[i]? = some y)
    (hQ:∀ h',IsZip h' z TI TO (rawInt s.heap.objs.size) -> IsPair h' TI (.ref i1) (.ref i2) -> (∃ a b,IsPair h' TO a b) -> ItrK k1 h' i1 a1 (i + 1) -> ItrK k2 h' i2 a2 (i + 1) -> IsPair h' s.heap.objs.size x y -> h'.objs.size = s.heap.objs.size + 1 ->
      (∀ c o,c ∉ [z,TO,i1,i2] -> s.heap.get? c = some o -> h'.get? c = some o) -> Q (some (.ref s.heap.objs.size)) { s with heap:=h' }):wpAny (model prog w) A (pyNext (.ref z)) Q E s:=by
  obtain ⟨hz,hTI,⟨a,b,hTO⟩,h1,h2⟩:=Z
  have hT:s.TypeIs (.ref z) "zip" :=⟨_,hz,rfl⟩
  unfold pyNext;refine wpAny_bind (wpAny_attempt (wpAny_callSpecial?_slot (name:=Str.ofString "__next__") hT F.slot_zip_next (wpAny_call_entry F.slot_zip_next hT F.entry_zip_next ?_ (F.args_zip_next_1 _))))
  show wpAny _ _ (field (.ref z) 2 >>= _) _ _ _;refine wpAny_bind (wpAny_field hz rfl (x:=.bool false) rfl ?_)
  show wpAny _ _ (field (.ref z) 3 >>= _) _ _ _;refine wpAny_bind (wpAny_field hz rfl (x:=.ref TI) rfl (wpAny_bind (wpAny_seqItems hTI rfl ?_)))
  show wpAny _ _ (Builtin.SmallTypes.ownedTupleIsFree (.ref z) >>= _) _ _ _;refine wpAny_bind ?_
  unfold Builtin.SmallTypes.ownedTupleIsFree;refine wpAny_bind (wpAny_field hz rfl (x:=.none) rfl (wpAny_pure ?_));simp only [if_true]
  refine wpAny_bind (wpAny_rule (wpAny_bind (wpAny_field hz rfl (x:=.ref TO) rfl (wpAny_bind (wpAny_setField_rec hz (by simp) fun g1 hz1 hs1=>?_)))))
  replace hz1:IsZip g1 z TI TO .ellipsis:=hz1
  refine wpAny_bind ?_;simp only [List.zipIdx_cons,List.zipIdx_nil,List.forIn_cons,List.forIn_nil]
  refine wpAny_bind (wpAny_bind (wpAny_onRaise ?_));show wpAny _ _ (Builtin.SmallTypes.nextOf (.ref i1) >>= _) _ _ _
  refine wpAny_bind (jt (h1.at fun o e=>hs1.extBut _ o N.c e) (l1.at fun o e=>hs1.extBut _ o (m1 z (by simp)) e) hx fun g2 h12 hs2=>wpAny_pure ?_)
  have hTO2:IsPair g2 TO a b:=hs2.extBut _ _ N.h (hs1.extBut _ _ N.b hTO)
  refine wpAny_bind (wpAny_seqItems hTO2 rfl (wpAny_bind (wpAny_updateSeq_pair hTO2 fun g3 hTO3 hs3=>?_)))
  replace hTO3:IsPair g3 TO x b:=hTO3
  refine wpAny_bind (wpAny_letGo (wpAny_pure ?_));refine wpAny_bind (wpAny_bind (wpAny_onRaise ?_));show wpAny _ _ (Builtin.SmallTypes.nextOf (.ref i2) >>= _) _ _ _
  have c23:∀ c o,c ∉ [z,TO,i1] -> s.heap.get? c = some o -> g3.get? c = some o:=fun c o hc e=>hs3.extBut _ o (fun q=>hc (by simp [q])) (hs2.extBut _ o (fun q=>hc (by simp [q])) (hs1.extBut _ o (fun q=>hc (by simp [q])) e))
  refine wpAny_bind (jt (h2.at fun o e=>c23 _ o (by simp [N.d,Ne.symm N.i,Ne.symm N.j]) e) (l2.at fun o e=>c23 _ o (by simp [m2 z (by simp),m2 TO (by simp),m2 i1 (by simp)]) e) hy fun g4 h24 hs4=>wpAny_pure ?_)
  have hTO4:IsPair g4 TO x b:=hs4.extBut _ _ N.i hTO3
  refine wpAny_bind (wpAny_seqItems hTO4 rfl (wpAny_bind (wpAny_updateSeq_pair hTO4 fun g5 hTO5 hs5=>?_)))
  replace hTO5:IsPair g5 TO x y:=hTO5
  refine wpAny_bind (wpAny_letGo (wpAny_pure (wpAny_pure (wpAny_bind (wpAny_seqItems hTO5 rfl (wpAny_bind (wpAny_newTuple ?_)))))))
  have zs:g5.objs.size = s.heap.objs.size:=by rw [hs5.1,hs4.1,hs3.1,hs2.1,hs1.1]
  have hz5:IsZip g5 z TI TO .ellipsis:=hs5.extBut _ _ (Ne.symm N.b) (hs4.extBut _ _ (Ne.symm N.d) (hs3.extBut _ _ (Ne.symm N.b) (hs2.extBut _ _ (Ne.symm N.c) hz1)))
  have k5:∀ c o,c ∉ [z,TO,i1,i2] -> s.heap.get? c = some o -> g5.get? c = some o:=fun c o hc e=>hs5.extBut _ o (fun q=>hc (by simp [q])) (hs4.extBut _ o (fun q=>hc (by simp [q])) (c23 c o (fun q=>hc (by simp at q ⊢;rcases q with q | q | q <;> simp [q])) e))
  have r1:ItrK k1 g5 i1 a1 (i + 1):=h12.at fun o e=>hs5.extBut _ o (Ne.symm N.h) (hs4.extBut _ o N.j (hs3.extBut _ o (Ne.symm N.h) e))
  have r2:ItrK k2 g5 i2 a2 (i + 1):=h24.at fun o e=>hs5.extBut _ o (Ne.symm N.i) e
  have zl:z < g5.objs.size:=Heap.lt_size hz5
  show wpAny _ _ (Builtin.SmallTypes.ownedTupleHandOut (.ref z) (.ref g5.objs.size) >>= _) _ _ _;refine wpAny_bind ?_;unfold Builtin.SmallTypes.ownedTupleHandOut
  have hz6:IsZip (g5.push { cls:=.type "tuple",data:=.seq #[x,y] }) z TI TO .ellipsis:=Heap.get?_push_of_some _ hz5
  refine wpAny_bind (wpAny_setField_rec hz6 (by simp) fun g7 hz7 hs7=>?_)
  replace hz7:IsZip g7 z TI TO (rawInt g5.objs.size):=hz7
  refine wpAny_setField_rec hz7 (by simp) fun g8 hz8 hs8=>?_
  replace hz8:IsZip g8 z TI TO (rawInt g5.objs.size):=hz8
  have up:∀ c o,c ≠ z -> g5.get? c = some o -> g8.get? c = some o:=fun c o c1 e=>hs8.extBut _ o c1 (hs7.extBut _ o c1 (Heap.get?_push_of_some _ e))
  have hT8:IsPair g8 g5.objs.size x y:=hs8.extBut _ _ (Nat.ne_of_gt zl) (hs7.extBut _ _ (Nat.ne_of_gt zl) (Heap.get?_push_size _ rfl))
  have z8:g8.objs.size = g5.objs.size + 1:=by rw [hs8.1,hs7.1,Heap.size_push]
  rw [zs] at hz8 hT8 z8
  refine wpAny_pure ⟨_,rfl,wpAny_pure ?_⟩;show Q (some (.ref g5.objs.size)) _;rw [zs]
  exact hQ g8 hz8 (up _ _ N.a (k5 _ _ (by simp [N.a,N.e,N.f,N.g]) hTI)) ⟨_,_,up _ _ N.b hTO5⟩ (r1.at fun o e=>up _ o N.c e) (r2.at fun o e=>up _ o N.d e) hT8 z8 fun c o hc e=>up c o (fun q=>hc (by simp [q])) (k5 c o hc e)
theorem Xd {k1 k2:Bool} {z TI TO i1 i2 a1 a2:Addr} {i:Nat} {xs ys:Array Value} {Q:Option Value -> Shared -> Prop} (hh:A.handled = none) (N:Jf z TI TO i1 i2) (Z:yj k1 k2 s.heap z TI TO i1 i2 a1 a2 i)
    (l1:SeqK k1 s.heap a1 xs) (l2:SeqK k2 s.heap a2 ys) (m1:∀ b ∈ [z,TO,i1,i2],a1 ≠ b) (m2:∀ b ∈ [z,TO,i1,i2],a2 ≠ b) (hend:xs[i]? = none \/ ys[i]? = none)
    (hQ:∀ h',(∀ c o,c ∉ [z,TO,i1,i2] -> s.heap.get? c = some o -> h'.get? c = some o) -> Q none { s with heap:=h' }):wpAny (model prog w) A (pyNext (.ref z)) Q E s:=by
  obtain ⟨hz,hTI,⟨a,b,hTO⟩,h1,h2⟩:=Z
  have hT:s.TypeIs (.ref z) "zip" :=⟨_,hz,rfl⟩
  unfold pyNext;refine wpAny_bind (wpAny_attempt (wpAny_callSpecial?_slot (name:=Str.ofString "__next__") hT F.slot_zip_next (wpAny_call_entry F.slot_zip_next hT F.entry_zip_next ?_ (F.args_zip_next_1 _))))
  show wpAny _ _ (field (.ref z) 2 >>= _) _ _ _;refine wpAny_bind (wpAny_field hz rfl (x:=.bool false) rfl ?_)
  show wpAny _ _ (field (.ref z) 3 >>= _) _ _ _;refine wpAny_bind (wpAny_field hz rfl (x:=.ref TI) rfl (wpAny_bind (wpAny_seqItems hTI rfl ?_)))
  show wpAny _ _ (Builtin.SmallTypes.ownedTupleIsFree (.ref z) >>= _) _ _ _;refine wpAny_bind ?_
  unfold Builtin.SmallTypes.ownedTupleIsFree;refine wpAny_bind (wpAny_field hz rfl (x:=.none) rfl (wpAny_pure ?_));simp only [if_true]
  refine wpAny_bind (wpAny_rule (wpAny_bind (wpAny_field hz rfl (x:=.ref TO) rfl (wpAny_bind (wpAny_setField_rec hz (by simp) fun g1 hz1 hs1=>?_)))))
  replace hz1:IsZip g1 z TI TO .ellipsis:=hz1
  refine wpAny_bind ?_;simp only [List.zipIdx_cons,List.zipIdx_nil,List.forIn_cons,List.forIn_nil]
  refine wpAny_bind (wpAny_bind (wpAny_onRaise ?_));show wpAny _ _ (Builtin.SmallTypes.nextOf (.ref i1) >>= _) _ _ _
  cases hx:xs[i]? with
  | none=>
    refine wpAny_bind (jU hh (h1.at fun o e=>hs1.extBut _ o N.c e) (l1.at fun o e=>hs1.extBut _ o (m1 z (by simp)) e) hx fun g2 e hs2 he=>?_)
    obtain ⟨oe,hoe,hce⟩:=he
    have hz2:IsZip g2 z TI TO .ellipsis:=hs2 _ _ (Ne.symm N.c) hz1
    have hez:e ≠ z:=fun q=>by subst q;rw [hz2] at hoe;cases hoe;exact absurd (Value.type.inj hce) (by decide)
    refine wpAny_setField_rec hz2 (by simp) fun g3 hz3 hs3=>?_
    refine wpAny_bind (wpAny_isInstance (T:= "StopIteration") (b:=true) ⟨oe,hs3.extBut _ _ hez hoe,hce⟩ isSubtype_stop (wpAny_pure (hQ _ fun c o hc q=>?_)))
    exact hs3.extBut _ o (fun q=>hc (by simp [q])) (hs2 _ o (fun q=>hc (by simp [q])) (hs1.extBut _ o (fun q=>hc (by simp [q])) q))
  | some x=>
    have hy:ys[i]? = none:=by rcases hend with q | q;rw [hx] at q;cases q;exact q
    refine wpAny_bind (jt (h1.at fun o e=>hs1.extBut _ o N.c e) (l1.at fun o e=>hs1.extBut _ o (m1 z (by simp)) e) hx fun g2 h12 hs2=>wpAny_pure ?_)
    have hTO2:IsPair g2 TO a b:=hs2.extBut _ _ N.h (hs1.extBut _ _ N.b hTO)
    refine wpAny_bind (wpAny_seqItems hTO2 rfl (wpAny_bind (wpAny_updateSeq_pair hTO2 fun g3 hTO3 hs3=>?_)))
    have c23:∀ c o,c ∉ [z,TO,i1] -> s.heap.get? c = some o -> g3.get? c = some o:=fun c o hc e=>hs3.extBut _ o (fun q=>hc (by simp [q])) (hs2.extBut _ o (fun q=>hc (by simp [q])) (hs1.extBut _ o (fun q=>hc (by simp [q])) e))
    refine wpAny_bind (wpAny_letGo (wpAny_pure ?_));refine wpAny_bind (wpAny_bind (wpAny_onRaise ?_));show wpAny _ _ (Builtin.SmallTypes.nextOf (.ref i2) >>= _) _ _ _
    refine wpAny_bind (jU hh (h2.at fun o e=>c23 _ o (by simp [N.d,Ne.symm N.i,Ne.symm N.j]) e) (l2.at fun o e=>c23 _ o (by simp [m2 z (by simp),m2 TO (by simp),m2 i1 (by simp)]) e) hy fun g4 e hs4 he=>?_)
    obtain ⟨oe,hoe,hce⟩:=he
    have hz4:IsZip g4 z TI TO .ellipsis:=hs4 _ _ (Ne.symm N.d) (hs3.extBut _ _ (Ne.symm N.b) (hs2.extBut _ _ (Ne.symm N.c) hz1))
    have hez:e ≠ z:=fun q=>by subst q;rw [hz4] at hoe;cases hoe;exact absurd (Value.type.inj hce) (by decide)
    refine wpAny_setField_rec hz4 (by simp) fun g5 hz5 hs5=>?_
    refine wpAny_bind (wpAny_isInstance (T:= "StopIteration") (b:=true) ⟨oe,hs5.extBut _ _ hez hoe,hce⟩ isSubtype_stop (wpAny_pure (hQ _ fun c o hc q=>?_)))
    exact hs5.extBut _ o (fun q=>hc (by simp [q])) (hs4 _ o (fun q=>hc (by simp [q])) (c23 c o (fun q=>hc (by simp at q ⊢;rcases q with q | q | q <;> simp [q])) q))
abbrev zh (h:Heap) (o1 o2:Obj):Heap:=((((h.push o1).push o2).push { cls:=.type "tuple",data:=.seq #[.ref h.objs.size,.ref (h.push o1).objs.size] }).push { cls:=.type "tuple",data:=.seq #[.none,.none] }).push
  { cls:=.type "zip",data:=.fields #[.none,.bool false,.bool false,.ref ((h.push o1).push o2).objs.size,.ref (((h.push o1).push o2).push { cls:=.type "tuple",data:=.seq #[.ref h.objs.size,.ref (h.push o1).objs.size] }).objs.size] }
theorem zav {k1 k2:Bool} {a1 a2:Addr} {h:Heap} {o1 o2:Obj} (p1:∀ g:Heap,g.get? h.objs.size = some o1 -> ItrK k1 g h.objs.size a1 0) (p2:∀ (g:Heap) (n:Addr),g.get? n = some o2 -> ItrK k2 g n a2 0) (f1:o1.isFreed = false) (f2:o2.isFreed = false) :
    yj k1 k2 (zh h o1 o2) (h.objs.size + 4) (h.objs.size + 2) (h.objs.size + 3) h.objs.size (h.objs.size + 1) a1 a2 0 /\ (∀ c o,h.get? c = some o -> (zh h o1 o2).get? c = some o) /\ (zh h o1 o2).objs.size = h.objs.size + 5:=by
  have z1:(h.push o1).objs.size = h.objs.size + 1:=Heap.size_push ..
  have z2:((h.push o1).push o2).objs.size = h.objs.size + 2:=by rw [Heap.size_push,z1]
  have z3:(((h.push o1).push o2).push { cls:=.type "tuple",data:=.seq #[.ref h.objs.size,.ref (h.push o1).objs.size] }).objs.size = h.objs.size + 3:=by rw [Heap.size_push,z2]
  have z4:((((h.push o1).push o2).push { cls:=.type "tuple",data:=.seq #[.ref h.objs.size,.ref (h.push o1).objs.size] }).push { cls:=.type "tuple",data:=.seq #[.none,.none] }).objs.size = h.objs.size + 4:=by rw [Heap.size_push,z3]
  have q5:(zh h o1 o2).get? (h.objs.size + 4) = some _:=z4 ▸ Heap.get?_push_size _ rfl
  have q4:(zh h o1 o2).get? (h.objs.size + 3) = some _:=z3 ▸ Heap.get?_push_of_some _ (Heap.get?_push_size _ rfl)
  have q3:(zh h o1 o2).get? (h.objs.size + 2) = some _:=z2 ▸ Heap.get?_push_of_some _ (Heap.get?_push_of_some _ (Heap.get?_push_size _ rfl))
  have q2:(zh h o1 o2).get? (h.objs.size + 1) = some o2:=z1 ▸ Heap.get?_push_of_some _ (Heap.get?_push_of_some _ (Heap.get?_push_of_some _ (Heap.get?_push_size _ f2)))
  have q1:(zh h o1 o2).get? h.objs.size = some o1:=Heap.get?_push_of_some _ (Heap.get?_push_of_some _ (Heap.get?_push_of_some _ (Heap.get?_push_of_some _ (Heap.get?_push_size _ f1))))
  rw [z2,z3] at q5
  rw [z1] at q3
  exact ⟨⟨q5,q3,⟨_,_,q4⟩,p1 _ q1,p2 _ _ q2⟩,fun c o e=>Heap.get?_push_of_some _ (Heap.get?_push_of_some _ (Heap.get?_push_of_some _ (Heap.get?_push_of_some _ (Heap.get?_push_of_some _ e)))),by rw [Heap.size_push,z4]⟩
theorem Xb {k1 k2:Bool} {a1 a2:Addr} {xs ys:Array Value} :
    PySem.Meets (Builtin.«zip.__new__» ⟨[.type "zip",.ref a1,.ref a2],[]⟩) (fun _ R s=>SeqK k1 s.heap a1 xs /\ SeqK k2 s.heap a2 ys /\
      ∀ h',yj k1 k2 h' (s.heap.objs.size + 4) (s.heap.objs.size + 2) (s.heap.objs.size + 3) s.heap.objs.size (s.heap.objs.size + 1) a1 a2 0 -> (∀ c o,s.heap.get? c = some o -> h'.get? c = some o) -> h'.objs.size = s.heap.objs.size + 5 -> R (.ok (.ret (.ref (s.heap.objs.size + 4)))) { s with heap:=h' }):=
  .of_wp fun prog w A R s hq=>by
    obtain ⟨hp,g,d,tk,os⟩:=s
    obtain ⟨hl1,hl2,hr⟩:=hq
    have hsub:=sub_zip
    have fin:∀ {o1 o2:Obj},(∀ g:Heap,g.get? hp.objs.size = some o1 -> ItrK k1 g hp.objs.size a1 0) -> (∀ (g:Heap) (n:Addr),g.get? n = some o2 -> ItrK k2 g n a2 0) -> o1.isFreed = false -> o2.isFreed = false ->
        R (.ok (.ret (.ref ((((hp.push o1).push o2).push { cls:=.type "tuple",data:=.seq #[.ref hp.objs.size,.ref (hp.push o1).objs.size] }).push { cls:=.type "tuple",data:=.seq #[.none,.none] }).objs.size))) ⟨zh hp o1 o2,g,d,tk,os⟩:=fun {o1 o2} p1 p2 f1 f2=>by
      obtain ⟨A,B,C⟩:=zav p1 p2 f1 f2
      have e:((((hp.push o1).push o2).push { cls:=.type "tuple",data:=.seq #[.ref hp.objs.size,.ref (hp.push o1).objs.size] }).push { cls:=.type "tuple",data:=.seq #[.none,.none] }).objs.size = hp.objs.size + 4:=by
        rw [Heap.size_push,Heap.size_push,Heap.size_push,Heap.size_push]
      rw [e]
      exact hr _ A B C
    cases k1 with
    | true=>
      have L1:Heap.IsList (Shared.heap ⟨hp,g,d,tk,os⟩) a1 xs:=hl1
      cases k2 with
      | true=>
        have L2:Heap.IsList (Shared.heap ⟨hp.push { cls:=.type "list_iterator",data:=.fields #[.ref a1,.int 0 0] },g,d,tk,os⟩) a2 ys:=Heap.IsList.push hl2 _
        wp_walk using wpAny_pyIter_list L1,wpAny_pyIter_list L2
        exact ⟨_,rfl,fin (fun g e=>⟨_,e,rfl,rfl⟩) (fun g n e=>⟨_,e,rfl,rfl⟩) rfl rfl⟩
      | false=>
        have L2:Heap.IsTuple (Shared.heap ⟨hp.push { cls:=.type "list_iterator",data:=.fields #[.ref a1,.int 0 0] },g,d,tk,os⟩) a2 ys:=Heap.IsTuple.push hl2 _
        wp_walk using wpAny_pyIter_list L1,wpAny_pyIter_tuple L2
        exact ⟨_,rfl,fin (fun g e=>⟨_,e,rfl,rfl⟩) (fun g n e=>⟨_,e,rfl,rfl⟩) rfl rfl⟩
    | false=>
      have L1:Heap.IsTuple (Shared.heap ⟨hp,g,d,tk,os⟩) a1 xs:=hl1
      cases k2 with
      | true=>
        have L2:Heap.IsList (Shared.heap ⟨hp.push { cls:=.type "tuple_iterator",data:=.fields #[.ref a1,.int 0 0] },g,d,tk,os⟩) a2 ys:=Heap.IsList.push hl2 _
        wp_walk using wpAny_pyIter_tuple L1,wpAny_pyIter_list L2
        exact ⟨_,rfl,fin (fun g e=>⟨_,e,rfl,rfl⟩) (fun g n e=>⟨_,e,rfl,rfl⟩) rfl rfl⟩
      | false=>
        have L2:Heap.IsTuple (Shared.heap ⟨hp.push { cls:=.type "tuple_iterator",data:=.fields #[.ref a1,.int 0 0] },g,d,tk,os⟩) a2 ys:=Heap.IsTuple.push hl2 _
        wp_walk using wpAny_pyIter_tuple L1,wpAny_pyIter_tuple L2
        exact ⟨_,rfl,fin (fun g e=>⟨_,e,rfl,rfl⟩) (fun g n e=>⟨_,e,rfl,rfl⟩) rfl rfl⟩
theorem J6 {k1 k2:Bool} {a1 a2:Addr} {xs ys:Array Value} {Q:Value -> Shared -> Prop} (h1:SeqK k1 s.heap a1 xs) (h2:SeqK k2 s.heap a2 ys)
    (h:∀ h',yj k1 k2 h' (s.heap.objs.size + 4) (s.heap.objs.size + 2) (s.heap.objs.size + 3) s.heap.objs.size (s.heap.objs.size + 1) a1 a2 0 -> (∀ c o,s.heap.get? c = some o -> h'.get? c = some o) -> h'.objs.size = s.heap.objs.size + 5 ->
      Q (.ref (s.heap.objs.size + 4)) { s with heap:=h' }):wpAny (model prog w) A (call (.type "zip") [.ref a1,.ref a2]) Q E s:=by
  refine callType_new F.called_zip (by decide) (F.typeCall_zip_2 _ _) (F.newCall_zip_2 _ _) (fun obj=>F.args_object_init_3 obj _ _) F.entry_zip_new (Xb (k1:=k1) (k2:=k2) (xs:=xs) (ys:=ys)) ⟨h1,h2,fun h' Z k z=>?_⟩
  exact ⟨⟨_,Z.zz,rfl⟩,h h' Z k z⟩
end
theorem Inv.seqK {X:Cx} {pins:List (Addr × Obj)} {σ:St} {H:Hp} {s:Shared} {kd:Bool} {a:Addr} {xs:List V} (I:Inv X pins σ H s) (h:SqK X.K kd H a xs):∃ its:List Value,Vals xs its /\ SeqK kd s.heap a its.toArray /\ xs.length <= sizeLine:=by
  cases kd with
  | true=>obtain ⟨its,r,p,z⟩:=I.list h;exact ⟨its,r,p.isList,z⟩
  | false=>obtain ⟨its,r,p,z⟩:=I.tuple h;exact ⟨its,r,p,z⟩
theorem Inv.seqK_inj {X:Cx} {pins:List (Addr × Obj)} {σ:St} {H:Hp} {s:Shared} {kd:Bool} {a:Addr} {xs ys:List V} (I:Inv X pins σ H s) (h:SqK X.K kd H a xs) (h':SqK X.K kd H a ys):xs = ys:=by
  cases kd with
  | true=>exact I.list_inj h h'
  | false=>exact I.tuple_inj h h'
theorem SqK.ne_fp {X:Cx} {pins:List (Addr × Obj)} {σ:St} {H:Hp} {s:Shared} {kd:Bool} {a b:Addr} {xs:List V} (I:Inv X pins σ H s) (h:SqK X.K kd H a xs) (f:qu X pins H b):a ≠ b:=fun z=>by
  have kk:∀ o,X.K.lookup a = some o -> False:=fun o e=>by
    have e':=I.mod.kin a o e
    rcases f.2.2.2.1 with q | q
    · exact I.ok.noex a o e' (by rw [z];exact q)
    · have:=Heap.lt_size (I.ok.bs a o e').1
      rw [z] at this
      exact Nat.lt_irrefl _ (Nat.lt_of_lt_of_le this q)
  cases kd with
  | true=>
    rcases (show SqL X.K H a xs from h) with (q | ⟨o,q⟩) | ⟨o,_,_,q,_⟩
    · rw [z,f.1] at q;cases q
    · rw [z,f.1] at q;cases q
    · exact kk o q
  | false=>
    rcases (show SqT X.K H a xs from h) with (q | ⟨o,q⟩) | ⟨o,_,_,q,_⟩
    · rw [z,f.1] at q;cases q
    · rw [z,f.1] at q;cases q
    · exact kk o q
def Itz (K:PySem.W.Frag) (k1 k2:Bool) (a1 a2:Addr):It:=
  ⟨fun i H=>∃ xs ys x y,SqK K k1 H a1 xs /\ SqK K k2 H a2 ys /\ xs[i]? = some x /\ ys[i]? = some y,
   fun i H x H'=>∃ T u v,x = .ref T /\ H T = none /\ H' = upd H T (.tup [u,v]) /\ (∀ xs,SqK K k1 H a1 xs -> xs[i]? = some u) /\ ∀ ys,SqK K k2 H a2 ys -> ys[i]? = some v,
   fun i H=>∃ xs ys,SqK K k1 H a1 xs /\ SqK K k2 H a2 ys /\ (xs.length <= i \/ ys.length <= i)⟩
theorem Xh {P:Program} {w:World} {K:PySem.W.Frag} {elts:List Expr} {kk:Nat} {pos:Pos} {k1 k2:Bool} {a1 a2 z TI TO i1 i2:Addr} (N:Jf z TI TO i1 i2) :
    wJ P w K (.Tuple elts kk pos) (Itz K k1 k2 a1 a2) [z,TI,TO,i1,i2] z (fun i h=>yj k1 k2 h z TI TO i1 i2 a1 a2 i) where
  mem:=by simp
  obj:=fun i h Z b hb=>by
    obtain ⟨a,b',q⟩:=Z.to
    have e1:=Z.r1.obj
    have e2:=Z.r2.obj
    simp only [List.mem_cons,List.not_mem_nil,or_false] at hb
    rcases hb with r | r | r | r | r
    · subst r;exact ⟨_,Z.zz,fun v q=>nomatch q⟩
    · subst r;exact ⟨_,Z.ti,fun v q=>nomatch q⟩
    · subst r;exact ⟨_,q,fun v q=>nomatch q⟩
    · subst r;obtain ⟨o,e,_,d⟩:=e1;exact ⟨o,e,d⟩
    · subst r;obtain ⟨o,e,_,d⟩:=e2;exact ⟨o,e,d⟩
  keep:=fun i h h' Z k=>by
    obtain ⟨a,b',q⟩:=Z.to
    exact ⟨k _ (by simp) _ Z.zz,k _ (by simp) _ Z.ti,⟨a,b',k _ (by simp) _ q⟩,Z.r1.at fun o e=>k _ (by simp) o e,Z.r2.at fun o e=>k _ (by simp) o e⟩
  item:=by
    intro X hP hw hK hc i pins s σ H E I hf Z hg
    subst hP hw hK
    obtain ⟨xs,ys,x,y,hq1,hq2,hx,hy⟩:=hg
    obtain ⟨its1,rv1,p1,hz1⟩:=I.seqK hq1
    obtain ⟨its2,rv2,p2,hz2⟩:=I.seqK hq2
    obtain ⟨u1,hu1,ru1⟩:=rv1.get hx
    obtain ⟨u2,hu2,ru2⟩:=rv2.get hy
    have sub:∀ b ∈ [z,TO,i1,i2],b ∈ [z,TI,TO,i1,i2]:=fun b hb=>by
      simp only [List.mem_cons,List.not_mem_nil,or_false] at hb ⊢
      rcases hb with r | r | r | r <;> simp [r]
    refine Jh N Z p1 p2 (fun b hb=>hq1.ne_fp I (hf b (sub b hb))) (fun b hb=>hq2.ne_fp I (hf b (sub b hb))) (by simpa using hu1) (by simpa using hu2) fun h1 zz ti to r1 r2 hT hsz hk=>?_
    refine ⟨_,rfl,wpAny_letOwnedTupleGo_zip zz fun h2 zz2 hs2=>?_⟩
    have zl:z < s.heap.objs.size:=Heap.lt_size Z.zz
    obtain ⟨ta,tb,to⟩:=to
    refine ⟨.ref s.heap.objs.size,upd H s.heap.objs.size (.tup [x,y]),?_,rfl,⟨_,x,y,rfl,I.hok.fresh (Nat.le_refl _),rfl,fun xs' h'=>by rw [I.seqK_inj h' hq1];exact hx,fun ys' h'=>by rw [I.seqK_inj h' hq2];exact hy⟩,
      ⟨zz2,hs2.extBut _ _ N.a ti,⟨ta,tb,hs2.extBut _ _ N.b to⟩,r1.at fun o e=>hs2.extBut _ o N.c e,r2.at fun o e=>hs2.extBut _ o N.d e⟩,fun b hb=>?_⟩
    · exact vo (s:=s) (h':=h2) (t':=s.toks) (ch:=[z,TO,i1,i2]) (its:=[u1,u2]) I (fun b hb=>hf b (sub b hb)) (Nat.le_refl _) (fun b o hb e=>hs2.extBut _ o (fun q=>hb (by simp [q])) (hk b o hb e)) (by rw [sizeLine_eq];exact (by decide:2 <= 16777216)) (.cons ru1 (.cons ru2 .nil))
        (TupX.by (hs2.extBut _ _ (Nat.ne_of_gt zl) hT))
    · have hb':b < s.heap.objs.size:=by
        have e1:=Z.r1.obj
        have e2:=Z.r2.obj
        obtain ⟨a,b',q⟩:=Z.to
        simp only [List.mem_cons,List.not_mem_nil,or_false] at hb
        rcases hb with r | r | r | r | r
        · subst r;exact zl
        · subst r;exact Heap.lt_size Z.ti
        · subst r;exact Heap.lt_size q
        · subst r;obtain ⟨o,e,_⟩:=e1;exact Heap.lt_size e
        · subst r;obtain ⟨o,e,_⟩:=e2;exact Heap.lt_size e
      rw [zi (Nat.ne_of_lt hb')]
      exact (hf b hb).1
  done:=by
    intro X hP hw hK hc i pins s σ H E I hf Z hg
    subst hP hw hK
    obtain ⟨xs,ys,hq1,hq2,hle⟩:=hg
    obtain ⟨its1,rv1,p1,hz1⟩:=I.seqK hq1
    obtain ⟨its2,rv2,p2,hz2⟩:=I.seqK hq2
    have sub:∀ b ∈ [z,TO,i1,i2],b ∈ [z,TI,TO,i1,i2]:=fun b hb=>by
      simp only [List.mem_cons,List.not_mem_nil,or_false] at hb ⊢
      rcases hb with r | r | r | r <;> simp [r]
    have tr:∀ b u,H b = some u -> b ∉ [z,TO,i1,i2]:=fun b u e hb=>by rw [(hf b (sub b hb)).1] at e;cases e
    refine Xd (I.ok.hd hc) N Z p1 p2 (fun b hb=>hq1.ne_fp I (hf b (sub b hb))) (fun b hb=>hq2.ne_fp I (hf b (sub b hb))) ?_ fun h' hk=>⟨rfl,?_⟩
    · have l1:=rv1.length
      have l2:=rv2.length
      rcases hle with q | q
      · exact .inl (by simp;omega)
      · exact .inr (by simp;omega)
    · refine I.step (g':=s.gens) (d':=s.drawn) (t':=s.toks) (ch:=[z,TO,i1,i2]) (fun b hb=>?_) (fun b o _ _ hc e _=>hk b o hc e) (fun b o _ _ hc e _=>⟨o.slots,hk b o hc e⟩) (fun _ _ _ _ n=>n) (fun b o hc e=>⟨o,hk b o hc e⟩)
        (fun _ _ e=>e) (fun _ _ _ e=>e) (fun b ps e=>⟨#[],by rw [e];simp⟩) (fun m hm=>?_) (fun b u e=>?_) I.bare
      · obtain ⟨_,g1,_,g3,g4,g5⟩:=hf b (sub b hb)
        exact ⟨g3,g1,g4,g5⟩
      · obtain ⟨o,es,ep,ho,r⟩:=hm
        exact ⟨o,es,ep,hk _ o (fun z=>(hf _ (sub _ z)).2.1 rfl) ho,r⟩
      · refine (I.hok b u e).stay (fun c v hc q=>hk c v ?_ q) (fun _ q=>q) fun _ _ q=>q
        rcases hc with z | z
        · rw [z];exact tr b u e
        · exact tr c _ z
  self:=fun _ _ _ _ _ Z h=>wpAny_pyIter_zip Z.zz h
section
variable {X:Cx}
def zbx (K:PySem.W.Frag) (ta:TA):TI:=fun σ H R=>ta σ H fun vs H1=>∃ k1 k2 a1 a2,vs = [.ref a1,.ref a2] /\ (∃ xs,SqK K k1 H1 a1 xs) /\ (∃ ys,SqK K k2 H1 a2 ys) /\ R (Itz K k1 k2 a1 a2) H1
theorem YT {l m:Expr} {ta:TA} {p pos tp:Pos} {elts:List Expr} {kk:Nat} (hg:Gl X "zip") (hm:X.mg "zip" = none) (ha:PA X [l,m] ta) (hs:starEach [l,m] X.env = [(false,eval l X.env),(false,eval m X.env)]:=by rfl) (hs2:starEach [m] X.env = [(false,eval m X.env)]:=by rfl) :
    PI X (.Tuple elts kk tp) (.Call (.Name "zip" p) [l,m] [] pos) (zbx X.K ta):=by
  intro pins s σ H R I h
  refine Call_ (jw I hg hm boot_zip (PyProof.Rows.callWith_type1 (thn (ha pos pins s σ H _ I h) fun us s1 ⟨vs,H1,I1,r1,q1⟩=>?_) (by rw [hs,hs2]) (by rw [hs2];rfl)))
  obtain ⟨k1,k2,a1,a2,e,⟨xs,hq1⟩,⟨ys,hq2⟩,q⟩:=q1
  subst e
  obtain ⟨u,u',rfl,ru,ru'⟩:=vy r1
  cases ru
  cases ru'
  obtain ⟨its1,rv1,p1,hz1⟩:=I1.seqK hq1
  obtain ⟨its2,rv2,p2,hz2⟩:=I1.seqK hq2
  refine J6 p1 p2 fun h' Z hk hsz=>wpAny_pyIter_zip Z.zz ?_
  have I2:Inv X pins σ H1 { s1 with heap:=h' }:=I1.kept (t':=s1.toks) hk
  have N:Jf (s1.heap.objs.size + 4) (s1.heap.objs.size + 2) (s1.heap.objs.size + 3) s1.heap.objs.size (s1.heap.objs.size + 1):=by
    constructor <;> (intro e;have e':(_:Nat) = _:=e;omega)
  refine ⟨s1.heap.objs.size + 4,_,_,_,H1,rfl,I2,Xh N,Z,fun b hb=>?_,q⟩
  have hb':s1.heap.objs.size <= b:=by
    simp only [List.mem_cons,List.not_mem_nil,or_false] at hb
    rcases hb with r | r | r | r | r <;> (rw [r];first | exact Nat.le_add_right _ _ | exact Nat.le_refl _)
  exact I1.fpOk hb' (I1.hok.fresh hb')
end
def TyN (K:PySem.W.Frag) (H:Hp) (x:V) (T:String):Prop:=match x with
  | .non=>T = "NoneType"
  | .bl _=>T = "bool"
  | .int _=>T = "int"
  | .str _=>T = "str"
  | .ref a=>(T = "list" /\ ∃ xs,SqL K H a xs) \/ (T = "tuple" /\ ∃ xs,SqT K H a xs)
  | _=>False
def Xj (T C:String):Bool:=T == C || (T == "bool" && C == "int")
def vk:List String:=["NoneType", "bool", "int", "str", "list", "tuple"]
def xD:List String:=["bool", "int", "str", "list", "tuple", "dict"]
theorem Q3 {K:PySem.W.Frag}:∀ T ∈ vk,∀ C ∈ xD,PySem.W.kitOne K (.type T) (.type C) = some (Xj T C):=by
  intro T hT C hC
  simp only [vk,xD,List.mem_cons,List.not_mem_nil,or_false] at hT hC
  rcases hT with rfl | rfl | rfl | rfl | rfl | rfl <;> rcases hC with rfl | rfl | rfl | rfl | rfl | rfl <;> kernel_rfl
theorem ZA {K:PySem.W.Frag} {T:String} (hT:T ∈ vk):∀ {Cs:List String},(∀ C ∈ Cs,C ∈ xD) -> PySem.W.kitAny K (.type T) (Cs.map Value.type) = some (Cs.any fun C=>Xj T C)
  | [],_=>rfl
  | C :: r,h=>by
    have ih:=ZA (K:=K) hT (Cs:=r) fun C' hC=>h C' (List.mem_cons_of_mem _ hC)
    show (match PySem.W.kitOne K (.type T) (.type C) with | some true=>some true | some false=>PySem.W.kitAny K (.type T) (r.map Value.type) | none=>none) = _
    rw [Q3 T hT C (h C List.mem_cons_self),List.any_cons]
    cases Xj T C with
    | true=>rfl
    | false=>rw [ih];rfl
theorem TyN.mem {K:PySem.W.Frag} {H:Hp} {x:V} {T:String} (h:TyN K H x T):T ∈ vk:=by
  cases x with
  | non=>cases (show T = _ from h);decide
  | bl _=>cases (show T = _ from h);decide
  | int _=>cases (show T = _ from h);decide
  | str _=>cases (show T = _ from h);decide
  | ref a=>rcases (show _ \/ _ from h) with ⟨e,_⟩ | ⟨e,_⟩ <;> (subst e;decide)
  | _=>exact (show False from h).elim
section
variable {X:Cx} {pins:List (Addr × Obj)} {σ:St} {H:Hp} {s:Shared}
theorem Q1 {x:V} {u:Value} {T:String} (I:Inv X pins σ H s) (rx:RelV x u) (ty:TyN X.K H x T):∃ P:Heap -> Prop,P s.heap /\ PySem.W.KitX X.K u (.type T) P /\ u ≠ .builtin "__main__.__loader__#opaque" :=by
  cases x with
  | non=>cases (show u = Value.none from rx);cases (show T = _ from ty);exact ⟨_,True.intro,PySem.W.kitx_none,fun z=>nomatch z⟩
  | bl y=>cases (show u = Value.bool y from rx);cases (show T = _ from ty);exact ⟨_,True.intro,PySem.W.kitx_bool,fun z=>nomatch z⟩
  | int i=>obtain ⟨t,q⟩:=(show ∃ t,u = Value.int i t from rx);cases q;cases (show T = _ from ty);exact ⟨_,True.intro,PySem.W.kitx_int,fun z=>nomatch z⟩
  | str y=>obtain ⟨t,q⟩:=(show ∃ t,u = Value.str y t from rx);cases q;cases (show T = _ from ty);exact ⟨_,True.intro,PySem.W.kitx_str,fun z=>nomatch z⟩
  | ref a=>
    cases (show u = Value.ref a from rx)
    rcases (show _ \/ _ from ty) with ⟨e,xs,hx⟩ | ⟨e,xs,hx⟩
    · subst e
      obtain ⟨its,r,⟨o,n,e1,e2,_⟩,_⟩:=I.list hx
      exact ⟨_,⟨o,e1,e2⟩,PySem.W.kitx_list,fun z=>nomatch z⟩
    · subst e
      obtain ⟨its,r,⟨o,e1,e2,_⟩,_⟩:=I.tuple hx
      exact ⟨_,⟨o,e1,e2⟩,PySem.W.kitx_tuple,fun z=>nomatch z⟩
  | _=>exact (show False from ty).elim
end
section
variable {X:Cx}
theorem Qv:∀ {Cs:List String} {us:List Value},Vals (Cs.map V.ty) us -> us = Cs.map Value.type
  | [],us,r=>by cases r;rfl
  | C :: r,us,h=>by
    cases h with
    | cons h1 h2=>rw [Qv h2,show _ = Value.type C from h1];rfl
inductive wq (K:PySem.W.Frag) (xs:List V) (H:Hp) (Q:VK):Prop
  | mk (x T C:_) (_:xs = [x,.ty C]) (_:TyN K H x T) (_:C ∈ xD) (_:Q (.bl (Xj T C)) H):wq K xs H Q
theorem qI:CallR X (.builtin "isinstance") (wq X.K):=by
  intro pins s σ H xs us Q I r h
  obtain ⟨x,T,C,rfl,ty,hC,q⟩:=h
  obtain ⟨u,w',rfl,ru,rw'⟩:=vy r
  cases (show w' = Value.type C from rw')
  obtain ⟨P,hP,Z,hn⟩:=Q1 I ru ty
  exact PySem.W.kia_one Z I.kIn hP (Q3 T ty.mem C hC) hn fun tk=>⟨.bl _,H,I.tok tk,rfl,q⟩
inductive vc (K:PySem.W.Frag) (xs:List V) (H:Hp) (Q:VK):Prop
  | mk (x:V) (T:String) (p:Addr) (Cs:List String) (_:xs = [x,.ref p]) (_:TyN K H x T) (_:H p = some (.tup (Cs.map V.ty))) (_:(∀ C ∈ Cs,C ∈ xD)) (_:Q (.bl (Cs.any fun C=>Xj T C)) H):vc K xs H Q
theorem yc:CallR X (.builtin "isinstance") (vc X.K):=by
  intro pins s σ H xs us Q I r h
  obtain ⟨x,T,p,Cs,rfl,ty,hp,hC,q⟩:=h
  obtain ⟨u,w',rfl,ru,rw'⟩:=vy r
  cases (show w' = Value.ref p from rw')
  obtain ⟨P,hP,Z,hn⟩:=Q1 I ru ty
  obtain ⟨its,r',⟨o,e1,e2,n,e3⟩,_⟩:=I.tuple (SqT.of hp)
  obtain ⟨c,dd,dt,sl⟩:=o
  have e2:c = .type "tuple" :=e2
  have e3:dt = .seq its.toArray n:=e3
  subst e2 e3
  rw [Qv r'] at e1
  exact PySem.W.kia_tup Z I.kIn hP e1 (ZA ty.mem hC) hn fun tk=>⟨.bl _,H,I.tok tk,rfl,q⟩
end
inductive Dat where
  | non | bl (b:Bool) | int (i:Int) | str (x:Str) | lst (ds:List Dat) | tup (ds:List Dat)
mutual
def Rep (K:PySem.W.Frag) (H:Hp):Dat -> V -> Prop
  | .non,v=>v = .non
  | .bl b,v=>v = .bl b
  | .int i,v=>v = .int i
  | .str x,v=>v = .str x
  | .lst ds,v=>∃ a xs,v = .ref a /\ SqL K H a xs /\ Reps K H ds xs
  | .tup ds,v=>∃ a xs,v = .ref a /\ SqT K H a xs /\ Reps K H ds xs
def Reps (K:PySem.W.Frag) (H:Hp):List Dat -> List V -> Prop
  | [],xs=>xs = []
  | d :: ds,xs=>∃ x r,xs = x :: r /\ Rep K H d x /\ Reps K H ds r
end
mutual
def Dat.dp:Dat -> Nat
  | .lst ds=>Dat.dps ds + 1
  | .tup ds=>Dat.dps ds + 1
  | _=>0
def Dat.dps:List Dat -> Nat
  | []=>0
  | d :: ds=>max d.dp (Dat.dps ds)
end
theorem Same.sqT {K:PySem.W.Frag} {H H':Hp} {a:Addr} {xs:List V} (e:Same H H') (h:SqT K H a xs):SqT K H' a xs:=by
  rcases h with (h | ⟨o,h⟩) | h
  · exact .inl (.inl (e _ _ h))
  · exact .inl (.inr ⟨o,e _ _ h⟩)
  · exact .inr h
mutual
theorem Rep.same {K:PySem.W.Frag} {H H':Hp} (e:Same H H'):∀ {d:Dat} {v:V},Rep K H d v -> Rep K H' d v
  | .non,_,h=>h
  | .bl _,_,h=>h
  | .int _,_,h=>h
  | .str _,_,h=>h
  | .lst _,_,h=>by
    obtain ⟨a,xs,e1,e2,e3⟩:=h
    exact ⟨a,xs,e1,e.seq e2,Reps.same e e3⟩
  | .tup _,_,h=>by
    obtain ⟨a,xs,e1,e2,e3⟩:=h
    exact ⟨a,xs,e1,e.sqT e2,Reps.same e e3⟩
theorem Reps.same {K:PySem.W.Frag} {H H':Hp} (e:Same H H'):∀ {ds:List Dat} {xs:List V},Reps K H ds xs -> Reps K H' ds xs
  | [],_,h=>h
  | _ :: _,_,h=>by
    obtain ⟨x,r,e1,e2,e3⟩:=h
    exact ⟨x,r,e1,Rep.same e e2,Reps.same e e3⟩
end
theorem Reps.len {K:PySem.W.Frag} {H:Hp}:∀ {ds:List Dat} {xs:List V},Reps K H ds xs -> xs.length = ds.length
  | [],_,h=>by rw [show _ = _ from h];rfl
  | _ :: _,_,h=>by
    obtain ⟨x,r,e1,e2,e3⟩:=h
    rw [e1,List.length_cons,List.length_cons,Reps.len e3]
theorem Reps.get {K:PySem.W.Frag} {H:Hp}:∀ {ds:List Dat} {xs:List V} {i:Nat} {x:V},Reps K H ds xs -> xs[i]? = some x -> ∃ d,ds[i]? = some d /\ Rep K H d x
  | [],_,_,_,h,e=>by rw [show _ = _ from h] at e;simp at e
  | d :: ds,_,i,x,h,e=>by
    obtain ⟨y,r,e1,e2,e3⟩:=h
    subst e1
    cases i with
    | zero=>simp at e;subst e;exact ⟨d,rfl,e2⟩
    | succ i=>
      obtain ⟨d',q1,q2⟩:=Reps.get (i:=i) e3 (by simpa using e)
      exact ⟨d',by simpa using q1,q2⟩
theorem zb {H:Hp} {a:Addr} {o:HO} (h:H a = none):Same H (upd H a o):=fun b u e=>by rw [zi (zg e h)];exact e
section
variable {X:Cx}
end
section
variable {X:Cx}
end
structure Dfn (P:Program) (w:World) (K:PySem.W.Frag) (mg:Str -> Option Value) (base:Heap) (x:Str) (k:Nat) (ps:List Str) (sp:Sp):Prop where
  ex:∃ f fd,FnOk P w K mg base CX0 k f fd ps sp /\ mg x = some (.ref f) /\ PySem.W.keepIn K (.ref f) = true /\ Binds K fd ps []
theorem Dfn.imp {P:Program} {w:World} {K:PySem.W.Frag} {mg:Str -> Option Value} {base:Heap} {x:Str} {k:Nat} {ps:List Str} {sp sp':Sp} (D:Dfn P w K mg base x k ps sp) (h:∀ vs H Q E,sp' vs H Q E -> sp vs H Q E):Dfn P w K mg base x k ps sp':=by
  obtain ⟨f,fd,F,r⟩:=D.ex
  exact ⟨f,fd,F.imp h,r⟩
section
variable {X:Cx} {x:Str} {k:Nat} {ps:List Str} {sp:Sp} {p pos:Pos} {e:Expr} {es:List Expr} {t:TA}
theorem zj (D:Dfn X.prog X.w X.K X.mg X.base x k ps sp) (hr:Room k X.A) (hg:Gl X x) (ha:PA X (e :: es) t) (hd:(x == ("__debug__" : Str)) = false:=by decide)
    (hs:starEach (e :: es) X.env = (false,eval e X.env) :: starEach es X.env:=by rfl) (hpl:(backTo pos (starEach es X.env)).any (·.1) = false:=by rfl):PE X (.Call (.Name x p) (e :: es) [] pos) (W8 sp [] E0 t):=by
  obtain ⟨f,fd,F,hm,hk,hb⟩:=D.ex
  exact Wn F hr hg hm hk hb .nil za2 ha hd hs hpl
end
theorem ifT {b:Bool} {A B:Prop} (h:b = true) (q:A):if b = true then A else B:=by rw [if_pos h];exact q
theorem ifF {b:Bool} {A B:Prop} (h:b = false) (q:B):if b = true then A else B:=by rw [if_neg (by rw [h];exact Bool.false_ne_true)];exact q
theorem Vu {K:PySem.W.Frag} {k1 k2:Bool} {a1 a2:Addr} {xs ys:List V} {g:TG} {tf:TT} {te:TE} {σ0:St} {n:Nat} {R:List V -> Hp -> Prop} {H:Hp} (Pv:Nat -> List V -> Hp -> Prop) (h0:Pv 0 [] H)
    (h1:∀ i zs H,Pv i zs H -> SqK K k1 H a1 xs /\ SqK K k2 H a2 ys)
    (hs:∀ i x y zs H T,xs[i]? = some x -> ys[i]? = some y -> Pv i zs H -> H T = none -> g (.ref T) σ0 (upd H T (.tup [x,y])) fun σ4 H4=>σ4.drop n = σ0.drop n /\ tf σ4 H4 fun b H5=>
      if b = true then te σ4 H5 fun v H6=>zs.length < sizeLine /\ Pv (i + 1) (zs ++ [v]) H6 else Pv (i + 1) zs H5)
    (hd:∀ zs H,Pv (min xs.length ys.length) zs H -> zs.length <= sizeLine /\ R zs H) :
    ∃ W:Nat -> Nat -> List V -> Hp -> Prop,(∃ m,W 0 m [] H) /\ ∀ i m zs H2,W i m zs H2 ->
      ((Itz K k1 k2 a1 a2).stop i H2 /\ zs.length <= sizeLine /\ R zs H2) \/
      ((Itz K k1 k2 a1 a2).go i H2 /\ ∃ N:List V -> Hp -> Prop,(∀ zs H',N zs H' -> ∃ m',m' < m /\ W (i + 1) m' zs H') /\ ∀ x H3,(Itz K k1 k2 a1 a2).yld i H2 x H3 -> g x σ0 H3 fun σ4 H4=>σ4.drop n = σ0.drop n /\ tf σ4 H4 fun b H5=>
        if b = true then te σ4 H5 fun y H6=>zs.length < sizeLine /\ N (zs ++ [y]) H6 else N zs H5):=by
  refine ⟨fun i m zs H2=>m = min xs.length ys.length - i /\ i <= min xs.length ys.length /\ Pv i zs H2,⟨_,rfl,Nat.zero_le _,h0⟩,?_⟩
  rintro i m zs H2 ⟨rfl,hi,p⟩
  obtain ⟨q1,q2⟩:=h1 i zs H2 p
  by_cases hlt:i < min xs.length ys.length
  · have l1:i < xs.length:=by omega
    have l2:i < ys.length:=by omega
    refine .inr ⟨⟨xs,ys,xs[i],ys[i],q1,q2,by simp [l1],by simp [l2]⟩,Pv (i + 1),fun zs' H' p'=>⟨_,by omega,rfl,hlt,p'⟩,fun x H3 y=>?_⟩
    obtain ⟨T,u,v,e1,hT,e2,y1,y2⟩:=y
    subst e1 e2
    exact hs i u v zs H2 T (y1 xs q1) (y2 ys q2) p hT
  · have e:i = min xs.length ys.length:=by omega
    subst e
    obtain ⟨z1,z2⟩:=hd zs H2 p
    exact .inl ⟨⟨xs,ys,q1,q2,by omega⟩,z1,z2⟩
theorem Zx {lo:Int} {N n:Nat} {g:TG} {tf:TT} {te:TE} {σ0:St} {R:List V -> Hp -> Prop} {H:Hp} (Pv:Nat -> List V -> Hp -> Prop) (h0:Pv 0 [] H)
    (hs:∀ i zs H,i < N -> Pv i zs H -> g (.int (lo + i)) σ0 H fun σ4 H4=>σ4.drop n = σ0.drop n /\ tf σ4 H4 fun b H5=>if b = true then te σ4 H5 fun v H6=>zs.length < sizeLine /\ Pv (i + 1) (zs ++ [v]) H6 else Pv (i + 1) zs H5)
    (hd:∀ zs H,Pv N zs H -> zs.length <= sizeLine /\ R zs H) :
    ∃ W:Nat -> Nat -> List V -> Hp -> Prop,(∃ m,W 0 m [] H) /\ ∀ i m zs H2,W i m zs H2 ->
      ((Itr lo N).stop i H2 /\ zs.length <= sizeLine /\ R zs H2) \/
      ((Itr lo N).go i H2 /\ ∃ M:List V -> Hp -> Prop,(∀ zs H',M zs H' -> ∃ m',m' < m /\ W (i + 1) m' zs H') /\ ∀ x H3,(Itr lo N).yld i H2 x H3 -> g x σ0 H3 fun σ4 H4=>σ4.drop n = σ0.drop n /\ tf σ4 H4 fun b H5=>
        if b = true then te σ4 H5 fun y H6=>zs.length < sizeLine /\ M (zs ++ [y]) H6 else M zs H5):=by
  refine ⟨fun i m zs H2=>m = N - i /\ i <= N /\ Pv i zs H2,⟨_,rfl,Nat.zero_le _,h0⟩,?_⟩
  rintro i m zs H2 ⟨rfl,hi,p⟩
  by_cases hlt:i < N
  · refine .inr ⟨hlt,Pv (i + 1),fun zs' H' p'=>⟨_,by omega,rfl,hlt,p'⟩,fun x H3 y=>?_⟩
    obtain ⟨e1,e2⟩:=y
    subst e1 e2
    exact hs i zs _ hlt p
  · have e:i = N:=by omega
    subst e
    obtain ⟨z1,z2⟩:=hd zs H2 p
    exact .inl ⟨Nat.le_refl _,z1,z2⟩
def ja (sn on:List (Str × NameKind)) (N own fr:List Str) (js:List Nat):Bool:=
  xF sn on N fr js && own.all (fun x=>sn.lookup x == some .local) && decide (own ++ fr).Nodup
theorem qo {sn on:List (Str × NameKind)} {N own fr:List Str} {js:List Nat} (h:ja sn on N own fr js = true):xF sn on N fr js = true /\ (∀ x ∈ own,sn.lookup x = some .local) /\ (own ++ fr).Nodup:=by
  unfold ja at h
  rw [Bool.and_eq_true,Bool.and_eq_true,List.all_eq_true] at h
  exact ⟨h.1.1,fun x hx=>by simpa using h.1.2 x hx,of_decide_eq_true h.2⟩
section
variable {X:Cx} {elt iter:Expr} {ifs:List Expr} {scope:Scope} {pos px py tp:Pos} {wi:TI} {tf:TT} {te:TE} {x y:Str} {kk:Nat}
theorem qb {N':List Str} {C:Addr} {s:Shared} {H:Hp} {ex:List Addr} {i:Nat} (hl:scope.names.lookup x = some .local) (nd:N'.Nodup) (hi:N'[i]? = some x):PG (zk X N' scope C s H ex) (.Name x px) (qx i):=
  zt (X:=zk X N' scope C s H ex) nd hi (.inl (lookup_relabel_local hl)) (.inr (lookup_relabel_local hl))
theorem jG (fr:List Str) (js:List Nat) (hc:X.calm = true) (hk:scope.kind = .function) (hb:ja scope.names X.env.scope.names X.N [x] fr js = true) (hi:PI X (.Name x px) iter wi)
    (hf:∀ C s H ex,PF (zk X ([x] ++ fr) scope C s H ex) ifs tf) (he:∀ C s H ex,PE (zk X ([x] ++ fr) scope C s H ex) elt te)
    (hs:∀ x,foldedSetIterable iter X.env x = pure x:=by intro _;rfl):PE X (.ListComp elt [⟨.Name x px,iter,ifs,0⟩] scope pos) (tLC wi 1 js (qx 0) tf te):=by
  obtain ⟨h1,h2,h3⟩:=qo hb
  exact X4 [x] fr js hc hk h1 hi (fun C s H ex=>qb (h2 x (by simp)) h3 rfl) hf he hs
theorem Qc (fr:List Str) (js:List Nat) (hc:X.calm = true) (hk:scope.kind = .function) (hb:ja scope.names X.env.scope.names X.N [x,y] fr js = true) (hi:PI X (.Tuple [.Name x px,.Name y py] kk tp) iter wi)
    (hf:∀ C s H ex,PF (zk X ([x,y] ++ fr) scope C s H ex) ifs tf) (he:∀ C s H ex,PE (zk X ([x,y] ++ fr) scope C s H ex) elt te)
    (hs:∀ x,foldedSetIterable iter X.env x = pure x:=by intro _;rfl):PE X (.ListComp elt [⟨.Tuple [.Name x px,.Name y py] kk tp,iter,ifs,0⟩] scope pos) (tLC wi 2 js (ZE X.K 2 (qW (qx 0) (qW (qx 1) Qm))) tf te):=by
  obtain ⟨h1,h2,h3⟩:=qo hb
  refine X4 [x,y] fr js hc hk h1 hi (fun C s H ex=>?_) hf he hs
  exact z9 (X:=zk X ([x,y] ++ fr) scope C s H ex) hc (zw (qb (h2 x (by simp)) h3 rfl) (zw (qb (h2 y (by simp)) h3 rfl) zW))
end
def tWk (t:TS):TS:=fun D σ H=>∃ J:St -> Hp -> Prop,t { D with nx:=J } σ H /\ ∀ σ' H',J σ' H' -> D.nx σ' H'
theorem yy {X:Cx} {st:Stmt} {t:TS} (h:PS X st t):PS X st (tWk t):=by
  intro pins s σ H D I hw
  obtain ⟨J,q1,q2⟩:=hw
  refine thn (h pins s σ H _ I q1) fun f s1 q=>?_
  cases f with
  | next=>obtain ⟨σ',H',I',z⟩:=q;exact ⟨σ',H',I',q2 σ' H' z⟩
  | brk=>exact q
  | cont=>exact q
  | ret u=>exact q
def Dat.ok:Nat -> Dat -> Prop
  | n + 1,.lst ds=>ds.length <= 1000000 /\ ∀ d ∈ ds,Dat.ok n d
  | n + 1,.tup ds=>ds.length <= 1000000 /\ ∀ d ∈ ds,Dat.ok n d
  | 0,.lst _=>False
  | 0,.tup _=>False
  | _,_=>True
def Dat.tyN:Dat -> String
  | .non=> "NoneType" | .bl _=> "bool" | .int _=> "int" | .str _=> "str" | .lst _=> "list" | .tup _=> "tuple"
theorem Rep.ty {K:PySem.W.Frag} {H:Hp} {d:Dat} {v:V} (h:Rep K H d v):TyN K H v d.tyN:=by
  cases d with
  | non=>rw [show v = _ from h];exact rfl
  | bl b=>rw [show v = _ from h];exact rfl
  | int b=>rw [show v = _ from h];exact rfl
  | str b=>rw [show v = _ from h];exact rfl
  | lst ds=>obtain ⟨a,xs,rfl,e,_⟩:=h;exact .inl ⟨rfl,xs,e⟩
  | tup ds=>obtain ⟨a,xs,rfl,e,_⟩:=h;exact .inr ⟨rfl,xs,e⟩
mutual
def Dat.py:Dat -> PyData
  | .non=>.none
  | .bl b=>.bool b
  | .int i=>.int i
  | .str x=>.str x
  | .lst ds=>.list (Dat.pys ds)
  | .tup ds=>.tuple (Dat.pys ds)
def Dat.pys:List Dat -> List PyData
  | []=>[]
  | d :: ds=>d.py :: Dat.pys ds
end
mutual
def Dat.shw:Dat -> Bool
  | .int i=>decide (i.natAbs < 1000000000000)
  | .str x=>x.cps.toList.all fun c=>decide (c < 1000000)
  | .lst ds=>Dat.shws ds
  | .tup ds=>Dat.shws ds
  | _=>true
def Dat.shws:List Dat -> Bool
  | []=>true
  | d :: ds=>d.shw && Dat.shws ds
end
mutual
def Dat.blk:Dat -> Nat
  | .str x=>x.cps.size
  | .lst ds=>Dat.blks ds
  | .tup ds=>Dat.blks ds
  | _=>0
def Dat.blks:List Dat -> Nat
  | []=>0
  | d :: ds=>d.blk + 1 + Dat.blks ds
end
mutual
theorem Dat.py_blk:∀ d:Dat,d.py.bulk = d.blk
  | .non=>rfl
  | .bl _=>rfl
  | .int _=>rfl
  | .str _=>rfl
  | .lst ds=>Dat.pys_blk ds
  | .tup ds=>Dat.pys_blk ds
theorem Dat.pys_blk:∀ ds:List Dat,PyData.bulkAll (Dat.pys ds) = Dat.blks ds
  | []=>rfl
  | d :: ds=>by
    show PyData.bulk d.py + 1 + PyData.bulkAll (Dat.pys ds) = d.blk + 1 + Dat.blks ds
    rw [Dat.py_blk d,Dat.pys_blk ds]
end
theorem WD {n:Nat} (h:n < 1000000000000):n.log2 < 1920:=by
  by_cases h0:n = 0
  · rw [h0];decide
  · exact Nat.lt_trans ((Nat.log2_lt h0).mpr (Nat.lt_trans h (by decide:1000000000000 < 2 ^ 40))) (by decide)
mutual
theorem Dat.py_short:∀ d:Dat,d.shw = true -> d.py.leavesShort 13 = true /\ d.py.showable = true /\ d.py.hasDict = false
  | .non,_=>⟨rfl,rfl,rfl⟩
  | .bl _,_=>⟨rfl,rfl,rfl⟩
  | .int i,h=>by
    have h':i.natAbs < 1000000000000:=of_decide_eq_true h
    refine ⟨decide_eq_true (PyData.shown_int_le h'),decide_eq_true (WD h'),rfl⟩
  | .str x,h=>by
    refine ⟨?_,rfl,rfl⟩
    have h':(x.cps.toList.all fun c=>decide (c < 1000000)) = true:=h
    show (x.cps.toList.all fun c=>decide (c < 16 ^ 8)) = true
    rw [List.all_eq_true] at h' ⊢
    intro c hc
    have:=of_decide_eq_true (h' c hc)
    exact decide_eq_true (by omega)
  | .lst ds,h=>Dat.pys_short ds h
  | .tup ds,h=>Dat.pys_short ds h
theorem Dat.pys_short:∀ ds:List Dat,Dat.shws ds = true -> PyData.leavesShortAll 13 (Dat.pys ds) = true /\ PyData.showableAll (Dat.pys ds) = true /\ PyData.hasDictAll (Dat.pys ds) = false
  | [],_=>⟨rfl,rfl,rfl⟩
  | d :: ds,h=>by
    have h':(d.shw && Dat.shws ds) = true:=h
    rw [Bool.and_eq_true] at h'
    obtain ⟨a1,a2,a3⟩:=Dat.py_short d h'.1
    obtain ⟨b1,b2,b3⟩:=Dat.pys_short ds h'.2
    refine ⟨?_,?_,?_⟩
    · show (PyData.leavesShort 13 d.py && PyData.leavesShortAll 13 (Dat.pys ds)) = true
      rw [a1,b1];rfl
    · show (PyData.showable d.py && PyData.showableAll (Dat.pys ds)) = true
      rw [a2,b2];rfl
    · show (PyData.hasDict d.py || PyData.hasDictAll (Dat.pys ds)) = false
      rw [a3,b3];rfl
end
mutual
theorem Rep.reads {X:Cx} {pins:List (Addr × Obj)} {σ:St} {H:Hp} {s:Shared} (I:Inv X pins σ H s):∀ {d:Dat} {v:V} {u:Value},Rep X.K H d v -> RelV v u -> ∃ as,Reads s.heap u d.py as
  | .non,v,u,h,r=>by cases (show v = _ from h);cases (show u = _ from r);exact ⟨_,.none⟩
  | .bl b,v,u,h,r=>by cases (show v = _ from h);cases (show u = _ from r);exact ⟨_,.bool b⟩
  | .int i,v,u,h,r=>by cases (show v = _ from h);obtain ⟨t,rfl⟩:=r;exact ⟨_,.int i t⟩
  | .str x,v,u,h,r=>by cases (show v = _ from h);obtain ⟨t,rfl⟩:=r;exact ⟨_,.str x t⟩
  | .lst ds,v,u,h,r=>by
    obtain ⟨a,xs,rfl,hx,hr⟩:=h
    cases (show u = _ from r)
    obtain ⟨its,rv,pl,_⟩:=I.list hx
    obtain ⟨o,e,c,n,dd⟩:=pl.isList
    obtain ⟨as,q⟩:=Reps.reads I hr rv
    exact ⟨_,.list e c dd (by simpa using q)⟩
  | .tup ds,v,u,h,r=>by
    obtain ⟨a,xs,rfl,hx,hr⟩:=h
    cases (show u = _ from r)
    obtain ⟨its,rv,⟨o,e,c,n,dd⟩,_⟩:=I.tuple hx
    obtain ⟨as,q⟩:=Reps.reads I hr rv
    exact ⟨_,.tuple e c dd (by simpa using q)⟩
theorem Reps.reads {X:Cx} {pins:List (Addr × Obj)} {σ:St} {H:Hp} {s:Shared} (I:Inv X pins σ H s):∀ {ds:List Dat} {xs:List V} {us:List Value},Reps X.K H ds xs -> Vals xs us -> ∃ as,ReadsAll s.heap us (Dat.pys ds) as
  | [],xs,us,h,r=>by cases (show xs = _ from h);cases r;exact ⟨_,.nil⟩
  | d :: ds,xs,us,h,r=>by
    obtain ⟨x,r',rfl,h1,h2⟩:=h
    cases r with
    | cons r1 r2=>
      obtain ⟨as,q1⟩:=Rep.reads I h1 r1
      obtain ⟨bs,q2⟩:=Reps.reads I h2 r2
      exact ⟨_,.cons q1 q2⟩
end
section
variable {X:Cx}
inductive x8 (K:PySem.W.Frag) (xs:List V) (H:Hp) (Q:VK):Prop
  | mk (a:Addr) (d:Dat) (_:xs = [.ref a]) (_:Rep K H d (.ref a)) (_:d.shw = true) (_:d.blk <= 1048576) (_:d.py.depth <= 60) (_:Q (.str d.py.shown) H):x8 K xs H Q
theorem yb (hg:X.A.guards = some []) (hu:X.A.units + 64 < cLine):CallR X (.type "str") (x8 X.K):=by
  intro pins s σ H xs us Q I r h
  obtain ⟨a,d,rfl,hr,h1,h2,h3,q⟩:=h
  obtain ⟨u,rfl,ru⟩:=jb r
  obtain ⟨as,q1⟩:=hr.reads I ru
  cases (show u = _ from ru)
  obtain ⟨s1,s2,s3⟩:=Dat.py_short d h1
  refine str_of_reads q1 s2 (PyData.noDict_hsm s3) hg (by omega) (fun _ _ e=>e) (fun h' u tk hk=>⟨.str d.py.shown,H,I.kept hk,⟨u,rfl⟩,q⟩) ?_
  exact PyData.shown_fits_bulk (B:=13) (by decide) (by decide) s1 (by rw [Dat.py_blk];exact h2)
end
section
variable {X:Cx}
end
section
variable {X:Cx} {tg:Expr}
end
section
variable {X:Cx}
inductive QP (x:V) (vs:List V) (H:Hp) (Q:VK):Prop
  | mk (l:Addr) (xs:List V) (i:Int) (y:V) (_:x = .ref l) (_:vs = [.int i,y]) (_:H l = some (.lst xs)) (_:0 <= i) (_:i < 2 ^ 62) (_:xs.length < sizeLine) (_:Q .non (upd H l (.lst (xs.take i.toNat ++ y :: xs.drop i.toNat)))):QP  x vs H Q
theorem JR:MtM X "list.insert" QP:=by
  intro pins s σ H x vs v us Q I rx rv h
  obtain ⟨l,xs,i,y,rfl,rfl,hH,i0,i1,hz,q⟩:=h
  cases rx
  obtain ⟨u1,u2,rfl,r1,r2⟩:=vy rv
  obtain ⟨t,rfl⟩:=r1
  obtain ⟨z,its,n,r,hl,e⟩:=I.lstM hH
  have hlen:=r.length
  refine call_meets F.slot_list_insert ⟨_,e,rfl⟩ F.entry_list_insert (F.args_list_insert_3 _ _ _) (AutoListH.list_insert_list_int_val_1 l its.toArray n i t u2 ?_ (by rw [List.size_toArray];omega)) ⟨e,?_⟩
  · unfold Builtin.List.listFitsIndex
    simp
    omega
  refine ⟨.non,_,I.lset (its':=its.take i.toNat ++ u2 :: its.drop i.toNat) hH e ?_ ((r.take _).append (.cons r2 (r.drop _))) ?_,rfl,q⟩
  · show (have k:=if i < 0 then (i + ((its.toArray.size:Nat):Int)).toNat else min i.toNat its.toArray.size;(its.toArray.extract 0 k).push u2 ++ its.toArray.extract k) = _
    have hk:(if i < 0 then (i + ((its.toArray.size:Nat):Int)).toNat else min i.toNat its.toArray.size) = min i.toNat its.length:=by
      rw [if_neg (by omega),List.size_toArray]
    simp only [hk]
    apply Array.toList_inj.mp
    simp
    by_cases hle:i.toNat <= its.length
    · have h1:(its.drop i.toNat).take (its.length - i.toNat) = its.drop i.toNat:=List.take_of_length_le (by rw [List.length_drop];omega)
      rw [Nat.min_eq_left hle,h1]
    · have h1:its.length <= i.toNat:=by omega
      rw [Nat.min_eq_right h1,List.take_of_length_le h1,List.drop_of_length_le h1]
      simp
  · simp only [List.length_append,List.length_take,List.length_cons,List.length_drop]
    omega
variable {e st:Expr} {te:TE} {tk:TO} {pos p2:Pos}
end
theorem yH {K:PySem.W.Frag} {a:Addr} {xs:List V} {g:TG} {tf:TT} {te:TE} {σ0:St} {n:Nat} {R:List V -> Hp -> Prop} {H:Hp} (Pv:Nat -> List V -> Hp -> Prop) (h0:Pv 0 [] H)
    (h1:∀ i zs H,Pv i zs H -> SqL K H a xs)
    (hs:∀ i x zs H,xs[i]? = some x -> Pv i zs H -> g x σ0 H fun σ4 H4=>σ4.drop n = σ0.drop n /\ tf σ4 H4 fun b H5=>
      if b = true then te σ4 H5 fun v H6=>zs.length < sizeLine /\ Pv (i + 1) (zs ++ [v]) H6 else Pv (i + 1) zs H5)
    (hd:∀ zs H,Pv xs.length zs H -> zs.length <= sizeLine /\ R zs H) :
    ∃ W:Nat -> Nat -> List V -> Hp -> Prop,(∃ m,W 0 m [] H) /\ ∀ i m zs H2,W i m zs H2 ->
      ((Itl K a).stop i H2 /\ zs.length <= sizeLine /\ R zs H2) \/
      ((Itl K a).go i H2 /\ ∃ N:List V -> Hp -> Prop,(∀ zs H',N zs H' -> ∃ m',m' < m /\ W (i + 1) m' zs H') /\ ∀ x H3,(Itl K a).yld i H2 x H3 -> g x σ0 H3 fun σ4 H4=>σ4.drop n = σ0.drop n /\ tf σ4 H4 fun b H5=>
        if b = true then te σ4 H5 fun y H6=>zs.length < sizeLine /\ N (zs ++ [y]) H6 else N zs H5):=by
  refine ⟨fun i m zs H2=>m = xs.length - i /\ i <= xs.length /\ Pv i zs H2,⟨_,rfl,Nat.zero_le _,h0⟩,?_⟩
  rintro i m zs H2 ⟨rfl,hi,p⟩
  have q:=h1 i zs H2 p
  by_cases hlt:i < xs.length
  · refine .inr ⟨⟨xs,xs[i],q,by simp [hlt]⟩,Pv (i + 1),fun zs' H' p'=>⟨_,by omega,rfl,hlt,p'⟩,fun x H3 y=>?_⟩
    obtain ⟨e,y⟩:=y
    subst e
    exact hs i x zs _ (y xs q) p
  · have e:i = xs.length:=by omega
    subst e
    obtain ⟨z1,z2⟩:=hd zs H2 p
    exact .inl ⟨⟨xs,q,Nat.le_refl _⟩,z1,z2⟩
theorem yG {K:PySem.W.Frag} {a:Addr} {xs:List V} {g:TG} {tf:TT} {te:TE} {σ0:St} {n:Nat} {R:List V -> Hp -> Prop} {H:Hp} (Pv:Nat -> List V -> Hp -> Prop) (h0:Pv 0 [] H)
    (h1:∀ i zs H,Pv i zs H -> SqT K H a xs)
    (hs:∀ i x zs H,xs[i]? = some x -> Pv i zs H -> g x σ0 H fun σ4 H4=>σ4.drop n = σ0.drop n /\ tf σ4 H4 fun b H5=>
      if b = true then te σ4 H5 fun v H6=>zs.length < sizeLine /\ Pv (i + 1) (zs ++ [v]) H6 else Pv (i + 1) zs H5)
    (hd:∀ zs H,Pv xs.length zs H -> zs.length <= sizeLine /\ R zs H) :
    ∃ W:Nat -> Nat -> List V -> Hp -> Prop,(∃ m,W 0 m [] H) /\ ∀ i m zs H2,W i m zs H2 ->
      ((Itt K a).stop i H2 /\ zs.length <= sizeLine /\ R zs H2) \/
      ((Itt K a).go i H2 /\ ∃ N:List V -> Hp -> Prop,(∀ zs H',N zs H' -> ∃ m',m' < m /\ W (i + 1) m' zs H') /\ ∀ x H3,(Itt K a).yld i H2 x H3 -> g x σ0 H3 fun σ4 H4=>σ4.drop n = σ0.drop n /\ tf σ4 H4 fun b H5=>
        if b = true then te σ4 H5 fun y H6=>zs.length < sizeLine /\ N (zs ++ [y]) H6 else N zs H5):=by
  refine ⟨fun i m zs H2=>m = xs.length - i /\ i <= xs.length /\ Pv i zs H2,⟨_,rfl,Nat.zero_le _,h0⟩,?_⟩
  rintro i m zs H2 ⟨rfl,hi,p⟩
  have q:=h1 i zs H2 p
  by_cases hlt:i < xs.length
  · refine .inr ⟨⟨xs,xs[i],q,by simp [hlt]⟩,Pv (i + 1),fun zs' H' p'=>⟨_,by omega,rfl,hlt,p'⟩,fun x H3 y=>?_⟩
    obtain ⟨e,y⟩:=y
    subst e
    exact hs i x zs _ (y xs q) p
  · have e:i = xs.length:=by omega
    subst e
    obtain ⟨z1,z2⟩:=hd zs H2 p
    exact .inl ⟨⟨xs,q,Nat.le_refl _⟩,z1,z2⟩
inductive DV (K:PySem.W.Frag) (F:Hp) (n:Nat):V -> Prop
  | non:DV K F n .non
  | bl (b:Bool):DV K F n (.bl b)
  | int (i:Int) (h:i.natAbs <= 10000000000 + n):DV K F n (.int i)
  | str (x:Str) (h:x.length <= n):DV K F n (.str x)
  | lst (a:Addr) (xs:List V) (h:SqL K F a xs) (hl:xs.length <= n) (all:∀ x ∈ xs,DV K F n x):DV K F n (.ref a)
  | tup (a:Addr) (xs:List V) (h:SqT K F a xs) (hl:xs.length <= n) (all:∀ x ∈ xs,DV K F n x):DV K F n (.ref a)
theorem DV.up {K:PySem.W.Frag} {F F':Hp} {n m:Nat} {v:V} (h:DV K F n v) (s:Same F F') (hm:n <= m):DV K F' m v:=by
  induction h with
  | non=>exact .non
  | bl b=>exact .bl b
  | int i h=>exact .int i (by omega)
  | str x h=>exact .str x (by omega)
  | lst a xs h hl all ih=>exact .lst a xs (s.seq h) (by omega) ih
  | tup a xs h hl all ih=>exact .tup a xs (s.sqT h) (by omega) ih
def WX (ex:List Addr) (H:Hp):Hp:=fun c=>if c ∈ ex then none else H c
theorem WX.le {ex:List Addr} {H:Hp}:Same (WX ex H) H:=fun c o e=>by
  unfold WX at e
  split at e
  · cases e
  · exact e
theorem WX.new {ex:List Addr} {H:Hp} {p:Addr} {o:HO} (h:H p = none):Same (WX ex H) (WX ex (upd H p o)):=fun c u e=>by
  unfold WX at e ⊢
  split at e
  · cases e
  · rename_i hc
    rw [if_neg hc,zi (zg e h)]
    exact e
theorem WX.same {ex:List Addr} {H H':Hp} (h:Same H H'):Same (WX ex H) (WX ex H'):=fun c u e=>by
  unfold WX at e ⊢
  split at e
  · cases e
  · rename_i hc
    rw [if_neg hc]
    exact h c u e
theorem WX.cons {ex:List Addr} {H:Hp} {m:Addr}:Same (WX (m :: ex) H) (WX ex H):=fun c u e=>by
  unfold WX at e ⊢
  split at e
  · cases e
  · rename_i hc
    rw [if_neg (fun z=>hc (List.mem_cons_of_mem _ z))]
    exact e
theorem WX.fresh {ex:List Addr} {H:Hp} {m:Addr} (h:H m = none) (o:HO):Same (WX ex H) (WX (m :: ex) (upd H m o)):=fun c u e=>by
  unfold WX at e ⊢
  split at e
  · cases e
  · rename_i hc
    have hm:c ≠ m:=zg e h
    rw [if_neg (fun z=>(List.mem_cons.mp z).elim hm hc),zi hm]
    exact e
theorem WX.put {ex:List Addr} {H:Hp} {m:Addr} {o:HO} (h:m ∈ ex):Same (WX ex H) (WX ex (upd H m o)):=fun c u e=>by
  unfold WX at e ⊢
  split at e
  · cases e
  · rename_i hc
    rw [if_neg hc,zi (show c ≠ m from fun z=>hc (by rw [z];exact h))]
    exact e
theorem WX.at {ex:List Addr} {H:Hp} {c:Addr} {o:HO} (h:c ∉ ex) (e:H c = some o):WX ex H c = some o:=by
  unfold WX;rw [if_neg h];exact e
def Ys:Expr -> Bool
  | .Starred _ _=>false
  | _=>true
theorem jc {e:Expr} {es:List Expr} {env:Env} (h:Ys e = true):starEach (e :: es) env = (false,eval e env) :: starEach es env:=by
  cases e <;> first | rfl | cases h
theorem pa5 {X:Cx} {e0 e1 e2 e3 e4:Expr} {t0 t1 t2 t3 t4:TE} (h0:PE X e0 t0) (h1:PE X e1 t1) (h2:PE X e2 t2) (h3:PE X e3 t3) (h4:PE X e4 t4) (h:([e0,e1,e2,e3,e4]).all Ys = true:=by rfl):PA X [e0,e1,e2,e3,e4] (wP t0 (wP t1 (wP t2 (wP t3 (wP t4 zaz))))):=by
  have hz:=List.all_eq_true.mp h
  exact (za h0 (za h1 (za h2 (za h3 (za h4 zd (jc (hz _ (by simp)))) (jc (hz _ (by simp)))) (jc (hz _ (by simp)))) (jc (hz _ (by simp)))) (jc (hz _ (by simp))))
section
variable {X:Cx} {elt tg iter:Expr} {ifs:List Expr} {scope:Scope} {pos:Pos} {wi:TI} {g:TG} {tf:TT} {te:TE}
theorem zaX {y:Str} {py spos:Pos} {g2:TG} (own fr:List Str) (js:List Nat) (hc:X.calm = true) (hk:scope.kind = .function) (hb:xF scope.names X.env.scope.names X.N fr js = true) (hi:PI X tg iter wi)
    (hg:∀ C s H ex,PG (zk X (own ++ fr) scope C s H ex) tg g) (hf:∀ C s H ex,PF (zk X (own ++ fr) scope C s H ex) ifs tf) (he:∀ C s H ex,PE (zk X (own ++ fr) scope C s H ex) elt te)
    (hg2:PG X (.Name y py) g2) (hsw:swapsWith (.ListComp elt [⟨tg,iter,ifs,0⟩] scope pos) (some (.Name y py)) spos.line X.env = pure true:=by rfl)
    (hs:∀ x,foldedSetIterable iter X.env x = pure x:=by intro _;rfl):PS X (.Assign [.Name y py] (.ListComp elt [⟨tg,iter,ifs,0⟩] scope pos) spos) (ZV (tLC wi own.length js g tf te) g2):=by
  intro pins s σ H Dn I h
  have B:=jP hb
  have hasF:∀ y ∈ scope.names,y.2 = NameKind.free -> ∃ c,X.env.cells.lookup y.1 = some c:=fun y hy e=>I.ok.has y.1 (B.free y hy e)
  rw [exec_Assign_Name_used _ _ _ _ hsw]
  refine wpAny_bind (wpAny_standAt (wpAny_bind ?_))
  show wpAny _ X.A (do let _ <- comprehension (.ListComp elt [⟨tg,iter,ifs,0⟩] scope pos) scope X.env _ (newList []) false (eval iter X.env) (some (assign (.Name y py) X.env))) _ _ s
  refine wpAny_bind (wpAny_mono (wpAny_comprehension_free (use:=some (assign (.Name y py) X.env)) (Q:=fun _ s'=>∃ σ' H',Inv X pins σ' H' s' /\ Dn.nx σ' H') rfl hs (xC hasF) hk (fun y hy e=>B.loc y hy e) (thn (hi pins s σ H _ I h) fun v s1 h1=>thn h1 fun itv s2 h2=>?_)) (fun _ s' hq=>wpAny_pure (wpAny_pure hq)) fun _ _ e=>e)
  obtain ⟨it,fp,tn,J,H2,e,I2,T,st2,f2,W,⟨m0,w0⟩,turn⟩:=h2
  subst e
  have fl:∀ b ∈ fp,b < s2.heap.objs.size:=fun b hb=>let ⟨o,e,_⟩:=T.obj _ _ st2 b hb;Heap.lt_size e
  refine wpAny_newObj_type (wpAny_newFunctionEnv B.cell (by intro y hy;simp at hy) (fun h1 hns hsb=>?_) hk)
  dsimp only at hns hsb ⊢
  generalize e3:s2.heap.push { cls:=.type "list",dict:=none,data:=.seq ([]:List Value).toArray } = h3 at hns hsb ⊢
  have k3:∀ b o,s2.heap.get? b = some o -> h3.get? b = some o:=fun b o e=>by rw [<- e3];exact Heap.get?_push_of_some _ e
  have k4:∀ b o,h3.get? b = some o -> h1.get? b = some o:=fun b o e=>hsb.extBut b o (Nat.ne_of_lt (Heap.lt_size e)) (Heap.get?_push_of_some _ e)
  have I4:Inv (zk X (own ++ fr) scope h3.objs.size { s2 with heap:=h3 } H2 (s2.heap.objs.size :: fp)) [] (upS own.length js σ) H2 { s2 with heap:=h1,toks:=s2.toks + ([]:List (Str × Value)).length }:=
    xS own fr js I2 B hk f2 fl rfl e3.symm rfl hns k4
  have I3:Inv X pins σ H2 { s2 with heap:=h3 }:=I2.kept (t':=s2.toks) k3
  have hz:h3.objs.size = s2.heap.objs.size + 1:=by rw [<- e3,Heap.size_push]
  have hDl:s2.heap.objs.size ≠ h3.objs.size:=by rw [hz];exact Nat.ne_of_lt (Nat.lt_succ_self _)
  have hacc:h1.get? s2.heap.objs.size = some { cls:=.type "list",data:=.seq ([]:List Value).toArray }:=k4 _ _ (by rw [<- e3];exact Heap.get?_push_size _ rfl)
  have fpC:=(I3.fpOk (b:=h3.objs.size) (Nat.le_refl _) (I3.hok.fresh (Nat.le_refl _))).2
  generalize eD:s2.heap.objs.size = D at *
  generalize eC:h3.objs.size = C at *
  have fD:∀ b ∈ fp,D ≠ b:=fun b hb=>Nat.ne_of_gt (fl b hb)
  have hx:∀ x c,(zL X.env.cells scope.names []).lookup x = some c -> c ≠ D:=fun x c e=>by
    obtain ⟨v,q⟩:=I2.cell x c (zA e hasF)
    rw [<- eD];exact Nat.ne_of_lt q.lt
  have hx2:∀ b ∈ fp,∀ x c,(zL X.env.cells scope.names []).lookup x = some c -> c ≠ b:=fun b hb x c e=>(f2 b hb).2.2.2.2.1 x c (zA e hasF)
  have nfs:∀ b ∈ D :: fp,b ∉ frs X.stack:=I4.ok.exfs
  have fpB:∀ {pins':List (Addr × Obj)} {H':Hp} {b:Addr},b ∈ fp -> H' b = none -> (∀ p ∈ pins',p.1 ≠ b) -> qu (zk X (own ++ fr) scope C { s2 with heap:=h3 } H2 (D :: fp)) pins' H' b:=fun {pins' H' b} hb hn hp=>
    ⟨hn,(I4.ok.exf b (List.mem_cons_of_mem _ hb)).1,nfs b (List.mem_cons_of_mem _ hb),.inl (List.mem_cons_of_mem _ hb),fun x c e=>hx2 b hb x c e,fun p h=>hp p (by simpa using h)⟩
  have fpD:∀ {pins':List (Addr × Obj)} {H':Hp},H' D = none -> (∀ p ∈ pins',p.1 ≠ D) -> qu (zk X (own ++ fr) scope C { s2 with heap:=h3 } H2 (D :: fp)) pins' H' D:=fun {pins' H'} hn hp=>
    ⟨hn,hDl,nfs D List.mem_cons_self,.inl List.mem_cons_self,fun x c e=>hx x c e,fun p h=>hp p (by simpa using h)⟩
  have loop:∀ s4:Shared,s4 = { s2 with heap:=h1,toks:=s2.toks + ([]:List (Str × Value)).length } ->
      codeAny (model X.prog X.w) X.A (.compLoop (.ListComp elt [⟨tg,iter,ifs,0⟩] scope pos) 0 (.ref it) (.ref D) (compEnvC scope (zL X.env.cells scope.names []) C X.env))
        (compPost (model X.prog X.w) X.A X.xe (some (assign (.Name y py) X.env)) (fun _ s'=>∃ σ' H',Inv X pins σ' H' s' /\ Dn.nx σ' H') (.ref D) C) s4:=by
    intro s4 e4
    refine ZL (fun n s'=>∃ i ys its H',∃ z:Nat,Inv (zk X (own ++ fr) scope C { s2 with heap:=h3 } H2 (D :: fp)) [] (upS own.length js σ) H' s' /\ tn i s'.heap /\ (∀ b ∈ fp,H' b = none) /\ H' D = none /\
      s'.heap.get? D = some { cls:=.type "list",data:=.seq (its:List Value).toArray z } /\ Vals ys its /\ W i n ys H') ?_ m0 ?_
    · rintro n s5 ⟨i,ys,its,H5,z5,I5,st5,fr5,hD5,ho5,rv5,w5⟩
      have I5':=I5.pinned (fp:=[D]) (fun b hb=>by rw [List.mem_singleton.mp hb];exact fpD hD5 (fun p hp=>absurd hp (by simp))) (fun b hb=>by
        rw [List.mem_singleton.mp hb];exact ⟨_,ho5,fun v q=>nomatch q⟩)
      have pD:∀ p ∈ [] ++ zp [D] s5.heap,p.1 = D:=fun p hp=>by
        rw [List.nil_append] at hp
        exact List.mem_singleton.mp (qz hp).1
      have mD:(D,({ cls:=.type "list",data:=.seq its.toArray z5 }:Obj)) ∈ [] ++ zp [D] s5.heap:=by
        rw [List.nil_append];exact zD (List.mem_singleton.mpr rfl) ho5
      have fp5:∀ {H':Hp},(∀ b ∈ fp,H' b = none) -> ∀ b ∈ fp,qu (zk X (own ++ fr) scope C { s2 with heap:=h3 } H2 (D :: fp)) ([] ++ zp [D] s5.heap) H' b:=fun hn b hb=>fpB hb (hn b hb) fun p hp=>by
        rw [pD p hp];exact fD b hb
      rcases turn i n ys H5 w5 with ⟨stop,hlen,q⟩ | ⟨go,N,hN,step⟩
      · refine thn (T.done (zk X (own ++ fr) scope C { s2 with heap:=h3 } H2 (D :: fp)) rfl rfl rfl hc i _ s5 _ H5 _ I5' (fp5 fr5) st5 stop) fun r s6 ⟨hr,I6⟩=>?_
        subst hr
        obtain ⟨m6,hn6,_⟩:=I6.loc
        obtain ⟨o6,nD6,_⟩:=I6.pin (D,_) (List.mem_append_right _ mD)
        have k7:∀ b o,b ≠ C -> s6.heap.get? b = some o -> s6.heap.get? b = some o:=fun b o _ e=>e
        have J0:Inv X pins σ (upd H5 D (.lst ys)) s6:=by
          refine I3.call' (s':=s6) (ch:=D :: fp) I6.os (xm (vB I6.base (Nat.le_of_eq eC) k7) List.mem_cons_self (I2.hok.fresh ?_)) (jW (xA I6.hok I6.free k7) nD6 ⟨hlen,its,z5,rv5,k7 D _ hDl o6⟩) I6.bare fun b hb=>?_
          · rw [<- eD];exact Nat.le_refl _
          · rcases List.mem_cons.mp hb with y | hb
            · subst y
              refine ⟨.inr (by rw [<- eD];exact I2.sz),by rw [<- eD];exact Nat.ne_of_gt I2.lt,fun x c e=>?_,fun p hp=>?_⟩
              · obtain ⟨v,q⟩:=I2.cell x c e
                rw [<- eD];exact Nat.ne_of_lt q.lt
              · rw [<- eD];exact Nat.ne_of_lt (Heap.lt_size (I2.pin p hp).1)
            · obtain ⟨_,g1,_,g3,g4,g5⟩:=f2 b hb
              exact ⟨g3,g1,g4,g5⟩
        obtain ⟨oC,eoC,dC⟩:∃ o,s6.heap.get? C = some o /\ ∀ v,o.data ≠ .cell v:=by
          obtain ⟨o,es,ep,ho,hd,_⟩:=hn6
          exact ⟨o,ho,fun v z=>by rw [hd] at z;cases z⟩
        have hC0:(upd H5 D (.lst ys)) C = none:=by
          rw [zi (Ne.symm hDl)];exact I6.free
        have J1:=J0.pinned (fp:=[C]) (fun b hb=>by rw [List.mem_singleton.mp hb];exact ⟨hC0,fpC⟩) (fun b hb=>by rw [List.mem_singleton.mp hb];exact ⟨oC,eoC,dC⟩)
        have mC:(C,oC) ∈ pins ++ zp [C] s6.heap:=List.mem_append_right _ (zD (List.mem_singleton.mpr rfl) eoC)
        refine thn (hg2 _ s6 σ _ (.ref D) (.ref D) _ J1 rfl (q D nD6)) fun _ s8 ⟨σ8,H8,I8,q8⟩=>?_
        obtain ⟨e8,n8,_⟩:=I8.pin (C,oC) (List.mem_append_right _ mC)
        refine ⟨m6,?_,fun h9 hs9=>⟨σ8,H8,?_,q8⟩⟩
        · obtain ⟨o,es,ep,ho,r⟩:=hn6
          have ho':s6.heap.get? C = some o:=ho
          rw [eoC] at ho';cases ho'
          exact ⟨oC,es,ep,e8,r⟩
        · obtain ⟨g1,_,g3,g4,g5⟩:=fpC
          exact (I8.unpinned).turned (t':=s8.toks) (it:=C) (fun b o hb e=>hs9.extBut b o hb e) n8 g1 g3 g4 g5
      · refine thn (T.item (zk X (own ++ fr) scope C { s2 with heap:=h3 } H2 (D :: fp)) rfl rfl rfl hc i _ s5 _ H5 _ I5' (fp5 fr5) st5 go) fun r s6 ⟨u,hr,h6⟩=>?_
        subst hr
        refine thn h6 fun _ s7 ⟨x,H7,I7,r7,y7,st7,fr7⟩=>?_
        have I7':=I7.pinned (fp5 fr7) (T.obj _ _ st7)
        refine thn (hg _ _ _ _ _ s7 _ H7 x u _ I7' r7 (step x H7 y7)) fun _ s8 ⟨σ8,H8,I8,hd8,q8⟩=>?_
        refine thn (hf _ _ _ _ _ s8 σ8 H8 _ I8 q8) fun ok s9 ⟨H9,I9,q9⟩=>?_
        have weak:∀ {H':Hp} {s':Shared},Inv (zk X (own ++ fr) scope C { s2 with heap:=h3 } H2 (D :: fp)) (([] ++ zp [D] s5.heap) ++ zp fp s7.heap) σ8 H' s' ->
            Inv (zk X (own ++ fr) scope C { s2 with heap:=h3 } H2 (D :: fp)) [] (upS own.length js σ) H' s':=fun {H' s'} J=>by
          refine (J.unpinned).unpinned.weak (I5.len.trans J.len.symm) fun k v e=>?_
          obtain ⟨hn,e1,_⟩:=qG e
          rw [<- hd8,List.getElem?_drop] at e1
          rw [<- e1]
          congr 1
          omega
        have mF:∀ b ∈ fp,∀ o,s7.heap.get? b = some o -> (b,o) ∈ ([] ++ zp [D] s5.heap) ++ zp fp s7.heap:=fun b hb o e=>List.mem_append_right _ (zD hb e)
        have mD':=List.mem_append_left (zp fp s7.heap) mD
        have frB:∀ {H':Hp} {s':Shared},Inv (zk X (own ++ fr) scope C { s2 with heap:=h3 } H2 (D :: fp)) (([] ++ zp [D] s5.heap) ++ zp fp s7.heap) σ8 H' s' -> ∀ b ∈ fp,H' b = none:=fun {H' s'} J b hb=>by
          obtain ⟨o,e,_⟩:=T.obj _ _ st7 b hb
          exact (J.pin (b,o) (List.mem_append_right _ (mF b hb o e))).2.1
        cases ok with
        | false=>
          have q9':N ys H9:=by simpa using q9
          obtain ⟨m',hm,w'⟩:=hN _ _ q9'
          obtain ⟨o9,nD9,_⟩:=I9.pin (D,_) (List.mem_append_right _ mD')
          exact ⟨m',hm,i + 1,ys,its,H9,z5,weak I9,T.keep _ _ _ st7 fun b hb o e=>(I9.pin (b,o) (List.mem_append_right _ (mF b hb o e))).1,frB I9,nD9,o9,rv5,w'⟩
        | true=>
          have q9':te σ8 H9 fun y H6=>ys.length < sizeLine /\ N (ys ++ [y]) H6:=by simpa using q9
          refine thn (he _ _ _ _ _ s9 σ8 H9 _ I9 q9') fun yv s10 ⟨y,H10,I10,r10,hlt,w10⟩=>?_
          obtain ⟨m',hm,w'⟩:=hN _ _ w10
          obtain ⟨o10,nD10,_⟩:=I10.pin (D,_) (List.mem_append_right _ mD')
          refine wpAny_list_append_plain (l:=D) (items:=its.toArray) (hsz:=by rw [List.size_toArray,<- rv5.length];exact Nat.le_of_lt hlt) ⟨_,o10⟩ fun h11 hl11 hs11=>?_
          obtain ⟨z11,e11⟩:=hl11
          refine ⟨m',hm,i + 1,ys ++ [y],its ++ [yv],H10,z11,?_,T.keep _ _ _ st7 fun b hb o e=>hs11.extBut b o (Ne.symm (fD b hb)) (I10.pin (b,o) (List.mem_append_right _ (mF b hb o e))).1,frB I10,nD10,?_,rv5.append (.cons r10 .nil),w'⟩
          · exact (weak I10).turned (t':=s10.toks) (it:=D) (fun b o hb e=>hs11.extBut b o hb e) nD10 hDl (.inl List.mem_cons_self) (fun x c e=>hx x c e) fun p hp=>absurd (show p ∈ ([]:List (Addr × Obj)) from hp) (by simp)
          · rw [e11];simp
    · subst e4
      exact ⟨0,[],[],H2,0,I4,T.keep _ _ _ st2 fun b hb o e=>k4 b o (k3 b o e),fun b hb=>(f2 b hb).1,I2.hok.fresh (by rw [<- eD];exact Nat.le_refl _),hacc,.nil,w0⟩
  exact codeAny_compStart_list (loop _ rfl) (T.self X.A 0 _ _ _ (T.keep _ _ _ st2 fun b hb o e=>k4 b o (k3 b o e)) (loop _ rfl))
theorem YR {x y:Str} {px py spos:Pos} {g2:TG} (fr:List Str) (js:List Nat) (hc:X.calm = true) (hk:scope.kind = .function) (hb:ja scope.names X.env.scope.names X.N [x] fr js = true) (hi:PI X (.Name x px) iter wi)
    (hf:∀ C s H ex,PF (zk X ([x] ++ fr) scope C s H ex) ifs tf) (he:∀ C s H ex,PE (zk X ([x] ++ fr) scope C s H ex) elt te)
    (hg2:PG X (.Name y py) g2) (hsw:swapsWith (.ListComp elt [⟨.Name x px,iter,ifs,0⟩] scope pos) (some (.Name y py)) spos.line X.env = pure true:=by rfl)
    (hs:∀ x,foldedSetIterable iter X.env x = pure x:=by intro _;rfl):PS X (.Assign [.Name y py] (.ListComp elt [⟨.Name x px,iter,ifs,0⟩] scope pos) spos) (ZV (tLC wi 1 js (qx 0) tf te) g2):=by
  obtain ⟨h1,h2,h3⟩:=qo hb
  exact zaX [x] fr js hc hk h1 hi (fun C s H ex=>qb (h2 x (by simp)) h3 rfl) hf he hg2 hsw hs
end
theorem Vals.mem {u:Value}:∀ {xs:List V} {us:List Value},Vals xs us -> u ∈ us -> ∃ x ∈ xs,RelV x u
  | _,_,.nil,h=>by cases h
  | x :: xs,v :: vs,.cons r t,h=>by
    rcases List.mem_cons.mp h with e | h
    · rw [e];exact ⟨x,List.mem_cons_self,r⟩
    · obtain ⟨y,hy,ry⟩:=Vals.mem t h
      exact ⟨y,List.mem_cons_of_mem _ hy,ry⟩
section
variable {X:Cx}
theorem zan {pins:List (Addr × Obj)} {σ:St} {H:Hp} {s:Shared} (I:Inv X pins σ H s) {A:Around} (hu:A.units < cLine) {a c:Addr} {xs ys:List V} (hx:SqT X.K H a xs) (hy:SqT X.K H c ys) (fx:xs.all qH = true) (fy:ys.all qH = true):∃ b,SeqAt.EqAt A s (.ref a) (.ref c) b:=by
  by_cases hac:a = c
  · subst hac
    exact ⟨true,SeqAt.EqAt.same _⟩
  · obtain ⟨its1,r1,p1,z1⟩:=I.tuple hx
    obtain ⟨its2,r2,p2,z2⟩:=I.tuple hy
    have l1:=r1.length
    have l2:=r2.length
    refine ⟨_,SeqAt.EqAt.of_refs hac (SeqAt.RcAt.tuples (e:=fun j=>eqV (xs.getD j .non) (ys.getD j .non)) p1 p2 hu (fun j h1 h2=>?_))⟩
    have h1':j < xs.length:=by rw [List.size_toArray] at h1;omega
    have h2':j < ys.length:=by rw [List.size_toArray] at h2;omega
    obtain ⟨w1,e1,q1⟩:=r1.get (i:=j) (x:=xs[j]) (by simp [h1'])
    obtain ⟨w2,e2,q2⟩:=r2.get (i:=j) (x:=ys[j]) (by simp [h2'])
    have g1:its1.toArray[j] = w1:=by simpa using (List.getElem?_eq_some_iff.mp e1).2
    have g2:its2.toArray[j] = w2:=by simpa using (List.getElem?_eq_some_iff.mp e2).2
    rw [g1,g2,show xs.getD j .non = xs[j] by simp [h1'],show ys.getD j .non = ys[j] by simp [h2']]
    exact VL q1 q2 (List.all_eq_true.mp fx _ (List.getElem_mem h1')) (List.all_eq_true.mp fy _ (List.getElem_mem h2'))
inductive yk (K:PySem.W.Frag) (x:V) (y:V) (H:Hp) (Q:VK):Prop
  | mk (a p:Addr) (zs xs:List V) (_:x = .ref a) (_:y = .ref p) (_:SqT K H a zs) (_:zs.all qH = true) (_:SqL K H p xs) (_:(∀ v ∈ xs,∃ (c:Addr) (ws:List V),v = .ref c /\ SqT K H c ws /\ ws.all qH = true)) (_:∀ r:Bool,Q (.bl r) H):yk K x y H Q
open Classical in
theorem Wo (hu:X.A.units + 64 < cLine):OpR X (compareOp .In) (yk X.K):=by
  intro pins s σ H x y v u Q I rx ry h
  obtain ⟨a,p,zs,xs,rfl,rfl,ha,fa,hp,all,q⟩:=h
  cases rx
  cases ry
  obtain ⟨its,r,pl,hz⟩:=I.list hp
  have ex:∀ w ∈ its,∃ b,SeqAt.EqAt X.A.in1 s w (.ref a) b:=fun w hw=>by
    obtain ⟨x,hx,rxw⟩:=Vals.mem r hw
    obtain ⟨c,ws,rfl,hc,fc⟩:=all x hx
    cases rxw
    exact zan I (by show X.A.units + 1 < cLine;omega) hc ha fc fa
  refine SeqAt.in_listAt (fun w=>if h:∃ b,SeqAt.EqAt X.A.in1 s w (.ref a) b then h.choose else false) pl.isList (fun w hw=>?_) ⟨.bl _,H,I,rfl,q _⟩
  have hw':=ex w (by simpa using hw)
  simp only [hw',dif_pos]
  exact hw'.choose_spec
theorem yY:∀ {its:List Value} {n k:Nat},its.length = n -> (∀ j v,its[j]? = some v -> ∃ t,v = Value.int ((k + j:Nat):Int) t) -> Vals ((List.range' k n).map fun i:Nat=>V.int (i:Int)) its
  | [],0,k,_,_=>.nil
  | v :: its,n + 1,k,hl,h=>by
    rw [List.range'_succ,List.map_cons]
    obtain ⟨t,e⟩:=h 0 v rfl
    refine .cons ⟨t,by rw [e];rfl⟩ (yY (by simpa using hl) fun j w hw=>?_)
    obtain ⟨t',e'⟩:=h (j + 1) w (by simpa using hw)
    exact ⟨t',by rw [e',show k + (j + 1) = k + 1 + j by omega]⟩
theorem yB {a:Expr} {ta:TA} {p p2 pos pos2:Pos} (hc:X.calm = true) (hg:Gl X "list") (hm:X.mg "list" = none) (hg2:Gl X "range") (hm2:X.mg "range" = none) (hv:bootBuiltins "list" = some (.type "list")) (ha:PA X [a] ta) (hs:starEach [a] X.env = [(false,eval a X.env)]:=by rfl)
    (he:starEach [.Call (.Name "range" p2) [a] [] pos2] X.env = [(false,eval (.Call (.Name "range" p2) [a] [] pos2) X.env)]:=by rfl) :
    PE X (.Call (.Name "list" p) [.Call (.Name "range" p2) [a] [] pos2] [] pos) (fun σ H Q=>ta σ H fun vs H1=>∃ j:Int,vs = [.int j] /\ 0 <= j /\ j <= 1000000 /\ ∀ l,H1 l = none -> Q (.ref l) (upd H1 l (.lst ((List.range j.toNat).map fun i:Nat=>V.int (i:Int))))):=by
  intro pins s σ H Q I h
  refine wpAny_Call_Name_kw (jw I hg hm hv ?_ (by decide) (by decide))
  refine PyProof.Rows.callWith_type1 ?_ he rfl
  rw [he]
  refine Calls.spliced_cons ?_
  refine Call_ (jw I hg2 hm2 boot_range (PyProof.Rows.callWith_type1 (thn (ha pos2 pins s σ H _ I h) fun us s1 ⟨vs,H1,I1,r1,q1⟩=>?_) hs rfl))
  obtain ⟨j,e,j0,j1,q⟩:=q1
  subst e
  cases r1 with
  | cons r rr=>
    cases rr
    obtain ⟨t,rfl⟩:=r
    refine call_range_1 (Calls.spliced_nil ?_)
    have I2:Inv X pins σ H1 { s1 with heap:=s1.heap.push { cls:=.type "range",data:=.fields #[.int 0 s1.toks,.int j t,.int 1 (s1.toks + 1)] },toks:=s1.toks + 1 + 1 }:=I1.kept fun b o e=>Heap.get?_push_of_some _ e
    have e62:(2:Int) ^ 62 = 4611686018427387904:=by decide
    refine call_list_range (n:=j.toNat) (I.ok.hd hc) (IsRange.new ..) (small_one (by rw [e62];omega) (by rw [e62];omega) (by rw [e62];omega) (by rw [e62];omega)) (by rw [rangeSize_one];split <;> omega) (by omega) fun h' tk acc' c' keep get items=>?_
    refine ⟨.ref _,_,I2.laid (t':=tk) (o:=.lst ((List.range j.toNat).map fun i:Nat=>V.int (i:Int))) keep (Nat.le_refl _) ?_,rfl,q _ (I2.hok.fresh (Nat.le_refl _))⟩
    refine ⟨by rw [List.length_map,List.length_range,sizeLine_eq];omega,acc'.toList,c',?_,by rw [Array.toArray_toList];exact get⟩
    rw [List.range_eq_range']
    refine yY (by rw [Array.length_toList];exact items.1) fun i v hv=>?_
    obtain ⟨t',e'⟩:=items.2 i v (by simpa using hv)
    exact ⟨t',by rw [e'];congr 1;omega⟩
end
end L2
namespace L2
open PySem PySem.Spec PyProof.Rows
section
variable {prog:Program} {w:World} {A:Around} {E:Value -> Shared -> Prop} {s:Shared}
end
def Tups (H:Hp) (xs ys:List V) (Ts:List Addr):Prop:=∀ (j:Nat) (T:Addr),Ts[j]? = some T -> ∃ x y,xs[j]? = some x /\ ys[j]? = some y /\ H T = some (.tup [x,y])
theorem Tups.same {H H':Hp} {xs ys:List V} {Ts:List Addr} (h:Tups H xs ys Ts) (s:Same H H'):Tups H' xs ys Ts:=fun j T e=>let ⟨x,y,a,b,c⟩:=h j T e;⟨x,y,a,b,s _ _ c⟩
theorem Tups.snoc {H:Hp} {xs ys:List V} {Ts:List Addr} {T:Addr} {x y:V} (h:Tups H xs ys Ts) (hx:xs[Ts.length]? = some x) (hy:ys[Ts.length]? = some y) (hT:H T = some (.tup [x,y])):Tups H xs ys (Ts ++ [T]):=fun j U e=>by
  by_cases hj:j < Ts.length
  · rw [List.getElem?_append_left hj] at e
    exact h j U e
  · rw [List.getElem?_append_right (by omega)] at e
    have:j = Ts.length:=by
      have:=(List.getElem?_eq_some_iff.mp e).1
      simp at this;omega
    subst this
    simp at e
    subst e
    exact ⟨x,y,hx,hy,hT⟩
section
variable {X:Cx} {A:Around} {R:Result -> Shared -> Prop}
end
section
variable {X:Cx}
end
section
variable {X:Cx}
theorem ZB {K:PySem.W.Frag} (h:X.K = K):IxR X (YN K):=by rw [<- h];exact zP
theorem zO {K:PySem.W.Frag} (h:X.K = K):IxR X (YM K):=by rw [<- h];exact zX
theorem j8 {K:PySem.W.Frag} (h:X.K = K):CallR X (.builtin "len") (qR K):=by rw [<- h];exact zB
theorem Qd {K:PySem.W.Frag} (h:X.K = K):OpR X (compareOp .In) (rIn K false):=by rw [<- h];exact wZ
end
section
variable {X:Cx}
end
section
open AutoSeq1 (wpAny_loadPart')
theorem jK (l:Addr) (items:Array Value) (n:Nat) (dct:Option Addr) (sl:Array (Option Value)) :
    Meets (Builtin.«enumerate.__new__» ⟨[.type "enumerate",.ref l],[]⟩) (fun _ R s=>s.heap.get? l = some { cls:=.type "tuple",dict:=dct,data:=.seq items n,slots:=sl } /\
      R (.ok (.ret (.ref (s.heap.push { cls:=.type "tuple_iterator",data:=.fields #[.ref l,.int 0 0] }).objs.size)))
        { s with heap:=(s.heap.push { cls:=.type "tuple_iterator",data:=.fields #[.ref l,.int 0 0] }).push { cls:=.type "enumerate",data:=.fields #[.none,.bool false,.ref s.heap.objs.size,rawInt 0,.none,.none] } }):=
  .of_wp fun prog w A R s h=>by
    obtain ⟨hp,g,d,tk,os⟩:=s;obtain ⟨hl,h⟩:=h
    have hsub:=sub_enumerate
    have hL:Heap.IsTuple (Shared.heap ⟨hp,g,d,tk,os⟩) l items:=⟨_,hl,rfl,n,rfl⟩
    wp_walk using wpAny_loadPart' hl
    refine wpAny_stack_any fun st=>wpAny_pure ?_
    split
    · rename_i c _ _ _ _ _
      cases (c == Value.type "enumerate")
      · wp_walk using wpAny_loadPart' hl,wpAny_pyIter_tuple hL
        exact ⟨_,rfl,h⟩
      · wp_walk using wpAny_loadPart' hl,wpAny_pyIter_tuple hL
        exact ⟨_,rfl,h⟩
    · wp_walk using wpAny_loadPart' hl,wpAny_pyIter_tuple hL
      exact ⟨_,rfl,h⟩
end
section
variable {prog:Program} {w:World} {A:Around} {E:Value -> Shared -> Prop} {s:Shared}
theorem jN {l:Addr} {items:Array Value} {Q:Value -> Shared -> Prop} (hL:s.heap.IsTuple l items)
    (h:∀ h',IsEnum h' (s.heap.objs.size + 1) s.heap.objs.size 0 .none -> h'.IsTupleIter s.heap.objs.size l 0 -> h'.objs.size = s.heap.objs.size + 2 ->
      (∀ b o,s.heap.get? b = some o -> h'.get? b = some o) -> Q (.ref (s.heap.objs.size + 1)) { s with heap:=h' }) :
    wpAny (model prog w) A (call (.type "enumerate") [.ref l]) Q E s:=by
  obtain ⟨⟨c,dct,dt,sl⟩,hl,hc,n,hd⟩:=hL
  replace hc:c = .type "tuple" :=hc
  replace hd:dt = .seq items n:=hd
  subst hc hd
  refine callType_new F.called_enumerate (by decide) (F.typeCall_enumerate_1 _) (F.newCall_enumerate_1 _) (fun obj=>F.args_object_init_2 obj _) F.entry_enumerate_new
    (jK l items n dct sl) ⟨hl,?_⟩
  have hz:(s.heap.push { cls:=.type "tuple_iterator",data:=.fields #[.ref l,.int 0 0] }).objs.size = s.heap.objs.size + 1:=Heap.size_push ..
  show _ /\ _
  rw [hz]
  have he:IsEnum ((s.heap.push { cls:=.type "tuple_iterator",data:=.fields #[.ref l,.int 0 0] }).push
      { cls:=.type "enumerate",data:=.fields #[.none,.bool false,.ref s.heap.objs.size,rawInt 0,.none,.none] }) (s.heap.objs.size + 1) s.heap.objs.size 0 .none:=by
    have:=Heap.get?_push_size (s.heap.push { cls:=.type "tuple_iterator",data:=.fields #[.ref l,.int 0 0] })
      (o:={ cls:=.type "enumerate",data:=.fields #[.none,.bool false,.ref s.heap.objs.size,rawInt 0,.none,.none] }) rfl
    rw [hz] at this;exact this
  refine ⟨⟨_,he,rfl⟩,h _ he ⟨_,Heap.get?_push_of_some _ (Heap.get?_push_size _ rfl),rfl,rfl⟩ (by rw [Heap.size_push,hz]) fun b o x=>Heap.get?_push_of_some _ (Heap.get?_push_of_some _ x)⟩
theorem Draws.tuple {prog:Program} {w:World} {A:Around} (hh:A.handled = none) (it l:Addr) (hne:l ≠ it) (items:Array Value) :
    Draws prog w A it [it,l] items.size (fun i v=>items[i]? = some v) (fun i h=>h.IsTupleIter it l i /\ h.IsTuple l items) where
  live:=fun _ _ st=>let ⟨o,ho,_⟩:=st.1;⟨o,ho⟩
  frame:=fun _ _ _ st hk=>⟨ItrK.at (kd:=false) st.1 fun o e=>hk it (by simp) o e,SeqK.at (kd:=false) st.2 fun o e=>hk l (by simp) o e⟩
  item:=fun i s Q E hi st hQ=>by
    refine jt (kd:=false) st.1 st.2 (x:=items[i]) (by simp [hi]) fun h' hit' hs'=>?_
    exact hQ _ h' s.toks (by simp [hi]) ⟨hit',SeqK.at (kd:=false) st.2 fun o e=>hs'.extBut l o hne e⟩ hs'
  done:=fun s Q E st hE=>jU (kd:=false) hh st.1 st.2 (by simp) hE
end
def VZ (K:PySem.W.Frag) (a:Addr):It:=
  ⟨fun i H=>∃ xs x,SqT K H a xs /\ xs[i]? = some x,fun i H x H'=>∃ T y,x = .ref T /\ H T = none /\ H' = upd H T (.tup [.int i,y]) /\ ∀ xs,SqT K H a xs -> xs[i]? = some y,fun i H=>∃ xs,SqT K H a xs /\ xs.length <= i⟩
theorem ZT {P:Program} {w:World} {K:PySem.W.Frag} {elts:List Expr} {kk:Nat} {pos:Pos} (a e it:Addr) (hne:e ≠ it) :
    wJ P w K (.Tuple elts kk pos) (VZ K a) [e,it] e (fun i h=>(∃ old,IsEnum h e it i old) /\ h.IsTupleIter it a i) where
  mem:=by simp
  obj:=fun i h st b hb=>by
    obtain ⟨⟨old,he⟩,⟨o,ho,c,d⟩⟩:=st
    rcases List.mem_cons.mp hb with z | z
    · subst z;exact ⟨_,he,fun v q=>nomatch q⟩
    · rw [List.mem_singleton.mp z];exact ⟨o,ho,fun v q=>by rw [d] at q;cases q⟩
  keep:=fun i h h' st k=>by
    obtain ⟨⟨old,he⟩,hi⟩:=st
    exact ⟨⟨old,k e (by simp) _ he⟩,ItrK.at (kd:=false) hi fun o q=>k it (by simp) o q⟩
  item:=by
    intro X hP hw hK hc i pins s σ H E I hf st hg
    subst hP hw hK
    obtain ⟨⟨old,he⟩,hit⟩:=st
    obtain ⟨xs,x,hq,hx⟩:=hg
    obtain ⟨its,rv,p,hz⟩:=I.tuple hq
    obtain ⟨u,hu,ru⟩:=rv.get hx
    have hl:s.heap.IsTuple a its.toArray:=p
    have hai:a ≠ it:=fun z=>by
      obtain ⟨o,e1,c1,_⟩:=hl
      obtain ⟨o',e2,c2,_⟩:=hit
      rw [z,e2] at e1;cases e1;rw [c2] at c1;exact absurd (Value.type.inj c1) (by decide)
    have hae:e ≠ a:=fun z=>by
      obtain ⟨o,e1,c1,_⟩:=hl
      rw [<- z,he] at e1;cases e1;exact absurd (Value.type.inj c1) (by decide)
    have D:=Draws.tuple (prog:=X.prog) (w:=X.w) (A:=X.A.in1) (I.ok.hd hc) it a hai its.toArray
    have hi:i < its.toArray.size:=by
      have h1:=(List.getElem?_eq_some_iff.mp hu).1
      simpa using h1
    refine wpAny_pyNext_enum_itemD D he ⟨hit,hl⟩ hi hne (by simp [hne,hae]) fun x' h' tk hP' hout hst' hT hsz hk=>?_
    have ex:x' = u:=by
      have h2:its[i]? = some x':=by simpa using hP'
      rw [hu] at h2;exact (Option.some.inj h2).symm
    subst ex
    refine ⟨_,rfl,wpAny_letOwnedTupleGo_enum hout fun h2 he2 hs2=>?_⟩
    have eT:s.heap.objs.size ≠ e:=Nat.ne_of_gt (Heap.lt_size he)
    have k2:∀ b o,b ∉ [e,it] -> s.heap.get? b = some o -> h2.get? b = some o:=fun b o hb q=>by
      have n1:b ≠ e:=fun z=>hb (by simp [z])
      have n2:b ≠ it:=fun z=>hb (by simp [z])
      exact (hs2.2 b n1).trans (hk b o n1 n2 q)
    have it2:h2.IsTupleIter it a (i + 1):=ItrK.at (kd:=false) hst'.1 fun o q=>hs2.extBut it o (Ne.symm hne) q
    refine ⟨.ref s.heap.objs.size,upd H s.heap.objs.size (.tup [.int i,x]),?_,rfl,⟨_,x,rfl,I.hok.fresh (Nat.le_refl _),rfl,fun ys hy=>by rw [I.tuple_inj hy hq];exact hx⟩,⟨⟨_,by simpa using he2⟩,it2⟩,fun b hb=>?_⟩
    · refine vo (s:=s) (h':=h2) (t':=tk + 1) (its:=[.int i tk,x']) I hf (Nat.le_refl _) k2 (by rw [sizeLine_eq];exact (by decide:2 <= 16777216)) (.cons ⟨tk,rfl⟩ (.cons ru .nil)) (TupX.by ((hs2.2 _ eT).trans hT))
    · have hb':b < s.heap.objs.size:=by
        rcases List.mem_cons.mp hb with z | z
        · rw [z];exact Heap.lt_size he
        · rw [List.mem_singleton.mp z]
          obtain ⟨o',e',_⟩:=hit
          exact Heap.lt_size e'
      rw [zi (Nat.ne_of_lt hb')]
      exact (hf b hb).1
  done:=by
    intro X hP hw hK hc i pins s σ H E I hf st hg
    subst hP hw hK
    obtain ⟨⟨old,he⟩,hit⟩:=st
    obtain ⟨xs,hq,hx⟩:=hg
    obtain ⟨its,rv,p,hz⟩:=I.tuple hq
    have hl:s.heap.IsTuple a its.toArray:=p
    have hai:a ≠ it:=fun z=>by
      obtain ⟨o,e1,c1,_⟩:=hl
      obtain ⟨o',e2,c2,_⟩:=hit
      rw [z,e2] at e1;cases e1;rw [c2] at c1;exact absurd (Value.type.inj c1) (by decide)
    obtain ⟨f0,f1,f2,f3,f4,f5⟩:=hf it (by simp)
    have hle:its.toArray.size <= i:=by
      have:=rv.length
      simp only [List.size_toArray];omega
    have hT:s.TypeIs (.ref e) "enumerate" :=⟨_,he,rfl⟩
    unfold pyNext
    refine wpAny_bind (wpAny_attempt (wpAny_callSpecial?_slot (name:=Str.ofString "__next__") hT F.slot_enumerate_next (wpAny_call_entry F.slot_enumerate_next hT F.entry_enumerate_next ?_ (F.args_enumerate_next_1 _))))
    show wpAny _ _ (field (.ref e) 2 >>= _) _ _ _
    refine wpAny_bind (wpAny_field he rfl (x:=.ref it) rfl (wpAny_bind (jU (kd:=false) (I.ok.hd hc) hit hl (by simpa using hle) fun h' x he' hx'=>?_)))
    obtain ⟨o,ho,hc'⟩:=hx'
    refine wpAny_bind (wpAny_isInstance (T:= "StopIteration") (b:=true) ⟨o,ho,hc'⟩ isSubtype_stop ?_)
    exact wpAny_pure ⟨rfl,I.turned (t':=s.toks) (fun b o hb q=>he' b o hb q) f0 f1 f3 f4 f5⟩
  self:=fun _ _ _ _ _ st h=>let ⟨⟨_,he⟩,_⟩:=st;wpAny_pyIter_enum he h
section
variable {X:Cx}
def zal (K:PySem.W.Frag) (ta:TA):TI:=fun σ H R=>ta σ H fun vs H1=>∃ a,vs = [.ref a] /\ (∃ xs,SqT K H1 a xs) /\ R (VZ K a) H1
theorem X0 {l:Expr} {ta:TA} {p pos tp:Pos} {elts:List Expr} {kk:Nat} (hg:Gl X "enumerate") (hm:X.mg "enumerate" = none) (ha:PA X [l] ta) (hs:starEach [l] X.env = [(false,eval l X.env)]:=by rfl) :
    PI X (.Tuple elts kk tp) (.Call (.Name "enumerate" p) [l] [] pos) (zal X.K ta):=by
  intro pins s σ H R I h
  refine Call_ (jw I hg hm boot_enumerate (PyProof.Rows.callWith_type1 (thn (ha pos pins s σ H _ I h) fun us s1 ⟨vs,H1,I1,r1,q1⟩=>?_) hs rfl))
  obtain ⟨a,e,⟨xs,hq⟩,q⟩:=q1
  subst e
  obtain ⟨u,rfl,ru⟩:=jb r1
  cases ru
  obtain ⟨its,rv,pl,hz⟩:=I1.tuple hq
  refine jN pl fun h' he hi hsz hk=>wpAny_pyIter_enum he ?_
  have I2:Inv X pins σ H1 { s1 with heap:=h' }:=I1.kept (t':=s1.toks) hk
  refine ⟨s1.heap.objs.size + 1,[s1.heap.objs.size + 1,s1.heap.objs.size],_,_,H1,rfl,I2,ZT a _ _ (Nat.succ_ne_self _),⟨⟨_,he⟩,hi⟩,fun b hb=>?_,q⟩
  have hb':s1.heap.objs.size <= b:=by
    rcases List.mem_cons.mp hb with z | z
    · rw [z];exact Nat.le_succ _
    · rw [List.mem_singleton.mp z];exact Nat.le_refl _
  exact I1.fpOk hb' (I1.hok.fresh hb')
end
end L2
namespace L2
open PySem PySem.Spec PyProof.Rows
section
variable {prog:Program} {w:World} {A:Around} {R:Result -> Shared -> Prop} {s:Shared}
abbrev lc2 (elt tg1 iter1:Expr) (ifs1:List Expr) (tg iter:Expr) (ifs:List Expr) (scope:Scope) (pos:Pos):Expr:=.ListComp elt [⟨tg1,iter1,ifs1,0⟩,⟨tg,iter,ifs,0⟩] scope pos
theorem ZH (elt tg1 iter1:Expr) (ifs1:List Expr) (tg iter:Expr) (ifs:List Expr) (scope:Scope) (pos:Pos) (it acc:Value) (env:Env) :
    compTurn (lc2 elt tg1 iter1 ifs1 tg iter ifs scope pos) 1 it acc env = (do
      standAt iter.pos
      match <- pyNext it with
      | none=>pure (.done .next)
      | some v=>
        letOwnedTupleGo tg it v
        assign tg env v
        let mut ok:=true
        for c in ifs do
          if ok then ok <- isTrue c env (eval c env)
        if ok then
          (do let _ <- call (.builtin "list.append") [acc,<- eval elt env])
        again (.compLoop (lc2 elt tg1 iter1 ifs1 tg iter ifs scope pos) 1 it acc env)):=by rfl
theorem yN (elt tg1 iter1:Expr) (ifs1:List Expr) (tg iter:Expr) (ifs:List Expr) (scope:Scope) (pos:Pos) (it acc:Value) (env:Env) :
    compTurn (lc2 elt tg1 iter1 ifs1 tg iter ifs scope pos) 0 it acc env = (do
      standAt iter1.pos
      match <- pyNext it with
      | none=>pure (.done .next)
      | some v=>
        letOwnedTupleGo tg1 it v
        assign tg1 env v
        let ok <- qS ifs1 env
        if ok = true then do
          let x <- eval iter env
          standAt iter.pos
          let x <- foldedSetIterable iter env x
          let i2 <- holding [x] (pyIter x)
          let _ <- runOwn (.compStart (lc2 elt tg1 iter1 ifs1 tg iter ifs scope pos) 1 i2 acc env) env
          again (.compLoop (lc2 elt tg1 iter1 ifs1 tg iter ifs scope pos) 0 it acc env)
        else again (.compLoop (lc2 elt tg1 iter1 ifs1 tg iter ifs scope pos) 0 it acc env)):=by rfl
theorem jM {elt tg1 iter1 ifs1 tg iter ifs scope pos it acc env}
    (h0:codeAny (model prog w) A (.compLoop (lc2 elt tg1 iter1 ifs1 tg iter ifs scope pos) 1 it acc env) R s)
    (h:wpAny (model prog w) A (pyIter it) (fun it' s'=>codeAny (model prog w) A (.compLoop (lc2 elt tg1 iter1 ifs1 tg iter ifs scope pos) 1 it' acc env) R s')
      (notedBy (model prog w) A env fun x s'=>R (.error x) s') s) :
    codeAny (model prog w) A (.compStart (lc2 elt tg1 iter1 ifs1 tg iter ifs scope pos) 1 it acc env) R s:=by
  refine codeAny_of_tree ?_
  show wpAny _ _ ((compStart (lc2 elt tg1 iter1 ifs1 tg iter ifs scope pos) 1 it acc env).onRaise (fun x=>do noteFrame x env;standAt theWindowsPlace)) _ _ s
  refine wpAny_notedAt ?_
  unfold compStart
  show wpAny _ _ (ask >>= _) _ _ s
  refine wpAny_bind (wpAny_askSetting (wpAny_ite ?_))
  split
  · first
      | exact wpAny_bind (wpAny_pure (wpAny_pure (And.intro rfl h0)))
      | exact wpAny_pure (And.intro rfl h0)
  · first
      | exact wpAny_bind (wpAny_rule (wpAny_bind (wpAny_standAt (wpAny_bind (wpAny_mono h (fun it' s' h'=>wpAny_pure (And.intro rfl h')) fun _ _ x=>x)))))
      | (refine wpAny_bind (wpAny_rule ?_);show wpAny _ _ (standAt iter.pos >>= _) _ _ s;exact wpAny_bind (wpAny_standAt (wpAny_bind (wpAny_mono h (fun it' s' h'=>wpAny_pure (And.intro rfl h')) fun _ _ x=>x))))
theorem zap {elt tg1 iter1:Expr} {ifs1:List Expr} {tg iter:Expr} {ifs:List Expr} {scope:Scope} {pos:Pos} {it acc:Value} {env:Env} (J:Nat -> Shared -> Prop)
    (turn:∀ n s,J n s -> wpAny (model prog w) A (pyNext it) (fun r s1=>match r with
      | none=>R (.ok .next) s1
      | some v=>wpAny (model prog w) A (letOwnedTupleGo tg it v) (fun _ s2=>wpAny (model prog w) A (assign tg env v) (fun _ s3=>
          wpAny (model prog w) A (qS ifs env) (fun ok s4=>
            if ok = true then wpAny (model prog w) A (eval elt env) (fun x s5=>
              wpAny (model prog w) A (call (.builtin "list.append") [acc,x]) (fun _ s6=>∃ m,m < n /\ J m s6) (fun _ _=>False) s5) (fun _ _=>False) s4
            else ∃ m,m < n /\ J m s4) (fun _ _=>False) s3) (fun _ _=>False) s2) (fun _ _=>False) s1) (fun _ _=>False) s)
    (n:Nat) (h:J n s):codeAny (model prog w) A (.compLoop (lc2 elt tg1 iter1 ifs1 tg iter ifs scope pos) 1 it acc env) R s:=by
  have no:∀ {α:Type} {t:Sem α} {Q:α -> Shared -> Prop} {E:Value -> Shared -> Prop} {s:Shared},wpAny (model prog w) A t Q (fun _ _=>False) s -> wpAny (model prog w) A t Q E s:=fun x=>wpAny_mono x (fun _ _ q=>q) fun _ _ q=>q.elim
  refine codeAny_loop rfl J (fun k u hJ=>?_) n h
  show wpAny _ A ((compTurn (lc2 elt tg1 iter1 ifs1 tg iter ifs scope pos) 1 it acc env).onRaise (fun x=>do noteFrame x env;theTreesLotGoes x)) _ _ u
  refine wpAny_noted ?_
  rw [ZH]
  refine wpAny_bind (wpAny_standAt (wpAny_bind (no (wpAny_mono (turn k u hJ) (fun r s1 h1=>?_) fun _ _ q=>q))))
  cases r with
  | none=>exact wpAny_pure h1
  | some v=>
    refine wpAny_bind (no (wpAny_mono h1 (fun _ s2 h2=>wpAny_bind (no (wpAny_mono h2 (fun _ s3 h3=>wpAny_bind (no (wpAny_mono h3 (fun ok s4 h4=>?_) fun _ _ q=>q))) fun _ _ q=>q))) fun _ _ q=>q))
    cases ok with
    | false=>exact wpAny_pure ⟨rfl,h4⟩
    | true=>
      have h4':wpAny (model prog w) A (eval elt env) (fun x s5=>wpAny (model prog w) A (call (.builtin "list.append") [acc,x]) (fun _ s6=>∃ m,m < k /\ J m s6) (fun _ _=>False) s5) (fun _ _=>False) s4:=h4
      refine wpAny_bind (wpAny_bind (no (wpAny_mono h4' (fun x s5 h5=>wpAny_bind (no (wpAny_mono h5 (fun _ s6 h6=>wpAny_pure (wpAny_pure ⟨rfl,h6⟩)) fun _ _ q=>q))) fun _ _ q=>q)))
theorem WW {elt tg1 iter1:Expr} {ifs1:List Expr} {tg iter:Expr} {ifs:List Expr} {scope:Scope} {pos:Pos} {it acc:Value} {env:Env} (hs:∀ x,foldedSetIterable iter env x = pure x) (J:Nat -> Shared -> Prop)
    (turn:∀ n s,J n s -> wpAny (model prog w) A (pyNext it) (fun r s1=>match r with
      | none=>R (.ok .next) s1
      | some v=>wpAny (model prog w) A (letOwnedTupleGo tg1 it v) (fun _ s2=>wpAny (model prog w) A (assign tg1 env v) (fun _ s3=>
          wpAny (model prog w) A (qS ifs1 env) (fun ok s4=>
            if ok = true then wpAny (model prog w) A (eval iter env) (fun x s5=>
              wpAny (model prog w) A (pyIter x) (fun i2 s6=>codeAny (model prog w) A (.compStart (lc2 elt tg1 iter1 ifs1 tg iter ifs scope pos) 1 i2 acc env) (fun r s7=>match r with | .ok _=>∃ m,m < n /\ J m s7 | .error _=>False) s6) (fun _ _=>False) s5) (fun _ _=>False) s4
            else ∃ m,m < n /\ J m s4) (fun _ _=>False) s3) (fun _ _=>False) s2) (fun _ _=>False) s1) (fun _ _=>False) s)
    (n:Nat) (h:J n s):codeAny (model prog w) A (.compLoop (lc2 elt tg1 iter1 ifs1 tg iter ifs scope pos) 0 it acc env) R s:=by
  have no:∀ {α:Type} {t:Sem α} {Q:α -> Shared -> Prop} {E:Value -> Shared -> Prop} {s:Shared},wpAny (model prog w) A t Q (fun _ _=>False) s -> wpAny (model prog w) A t Q E s:=fun x=>wpAny_mono x (fun _ _ q=>q) fun _ _ q=>q.elim
  refine codeAny_loop rfl J (fun k u hJ=>?_) n h
  show wpAny _ A ((compTurn (lc2 elt tg1 iter1 ifs1 tg iter ifs scope pos) 0 it acc env).onRaise (fun x=>do noteFrame x env;theTreesLotGoes x)) _ _ u
  refine wpAny_noted ?_
  rw [yN]
  refine wpAny_bind (wpAny_standAt (wpAny_bind (no (wpAny_mono (turn k u hJ) (fun r s1 h1=>?_) fun _ _ q=>q))))
  cases r with
  | none=>exact wpAny_pure h1
  | some v=>
    refine wpAny_bind (no (wpAny_mono h1 (fun _ s2 h2=>wpAny_bind (no (wpAny_mono h2 (fun _ s3 h3=>wpAny_bind (no (wpAny_mono h3 (fun ok s4 h4=>?_) fun _ _ q=>q))) fun _ _ q=>q))) fun _ _ q=>q))
    cases ok with
    | false=>exact wpAny_pure ⟨rfl,h4⟩
    | true=>
      have h4':wpAny (model prog w) A (eval iter env) (fun x s5=>
              wpAny (model prog w) A (pyIter x) (fun i2 s6=>codeAny (model prog w) A (.compStart (lc2 elt tg1 iter1 ifs1 tg iter ifs scope pos) 1 i2 acc env) (fun r s7=>match r with | .ok _=>∃ m,m < k /\ J m s7 | .error _=>False) s6) (fun _ _=>False) s5) (fun _ _=>False) s4:=h4
      refine wpAny_bind (no (wpAny_mono h4' (fun x s5 h5=>wpAny_bind (wpAny_standAt (wpAny_bind (wpAny_of_eq (hs x) (wpAny_bind (wpAny_holding (no (wpAny_mono h5 (fun i2 s6 h6=>?_) fun _ _ q=>q)))))))) fun _ _ q=>q))
      refine wpAny_bind (wpAny_runOwn (h:=none) ?_)
      rw [Around.mark_none]
      refine codeAny_mono h6 fun r s7 h7=>?_
      cases r with
      | ok f=>exact wpAny_pure ⟨rfl,h7⟩
      | error e=>exact h7.elim
end
def Sub:St -> St -> Prop
  | [],[]=>True
  | none :: r,_ :: r'=>Sub r r'
  | some v :: r,x :: r'=>x = some v /\ Sub r r'
  | _,_=>False
theorem Sub.len:∀ {a b:St},Sub a b -> a.length = b.length
  | [],[],_=>rfl
  | [],_ :: _,h=>h.elim
  | none :: _,[],h=>h.elim
  | some _ :: _,[],h=>h.elim
  | none :: r,_ :: r',h=>by rw [List.length_cons,List.length_cons,Sub.len (a:=r) (b:=r') h]
  | some _ :: r,_ :: r',h=>by rw [List.length_cons,List.length_cons,Sub.len (a:=r) (b:=r') h.2]
theorem Sub.get:∀ {a b:St} {i:Nat} {v:V},Sub a b -> a[i]? = some (some v) -> b[i]? = some (some v)
  | [],[],_,_,_,e=>e
  | [],_ :: _,_,_,h,_=>h.elim
  | none :: _,[],_,_,h,_=>h.elim
  | some _ :: _,[],_,_,h,_=>h.elim
  | none :: r,_ :: r',0,v,h,e=>by simp at e
  | none :: r,_ :: r',i + 1,v,h,e=>by
    rw [List.getElem?_cons_succ] at e ⊢
    exact Sub.get (a:=r) (b:=r') h e
  | some _ :: r,_ :: r',0,v,h,e=>by
    rw [List.getElem?_cons_zero] at e ⊢
    rw [h.1];exact e
  | some _ :: r,_ :: r',i + 1,v,h,e=>by
    rw [List.getElem?_cons_succ] at e ⊢
    exact Sub.get (a:=r) (b:=r') h.2 e
def tIn (wi:TI) (g:TG) (tf:TT) (te:TE) (ys:List V) (N:List V -> Hp -> Prop):St -> Hp -> Prop:=fun σ4 H5=>wi σ4 H5 fun J H6=>
  ∃ W:Nat -> Nat -> List V -> Hp -> Prop,(∃ m,W 0 m ys H6) /\ ∀ i m zs H7,W i m zs H7 ->
    (J.stop i H7 /\ N zs H7) \/
    (J.go i H7 /\ ∃ N2:List V -> Hp -> Prop,(∀ zs H',N2 zs H' -> ∃ m',m' < m /\ W (i + 1) m' zs H') /\ ∀ x H8,J.yld i H7 x H8 -> g x σ4 H8 fun σ9 H9=>Sub σ4 σ9 /\ tf σ9 H9 fun b H10=>
      if b = true then te σ9 H10 fun y H11=>zs.length < sizeLine /\ N2 (zs ++ [y]) H11 else N2 zs H10)
section
variable {X:Cx} {elt tg1 iter1:Expr} {ifs1:List Expr} {tg iter:Expr} {ifs:List Expr} {scope:Scope} {pos:Pos} {wi wi1:TI} {g g1:TG} {tf tf1:TT} {te:TE}
theorem WN {N':List Str} {C D:Addr} {sx:Shared} {Hx:Hp} {ex:List Addr} {pins:List (Addr × Obj)} {σ4:St} {H0:Hp} {s0:Shared} {it:Addr} {fp:List Addr} {tn:Nat -> Heap -> Prop} {J:It} {R:Result -> Shared -> Prop} {N:List V -> Hp -> Prop} {ys:List V} {its:List Value} {z:Nat} {m0:Nat} {W:Nat -> Nat -> List V -> Hp -> Prop}
    (hc:X.calm = true) (hg:PG (zk X N' scope C sx Hx ex) tg g) (hf:PF (zk X N' scope C sx Hx ex) ifs tf) (he:PE (zk X N' scope C sx Hx ex) elt te)
    (T:wJ X.prog X.w X.K tg J fp it tn) (fD:∀ H':Hp,H' D = none -> qu (zk X N' scope C sx Hx ex) pins H' D) (f2:∀ b ∈ fp,∀ H':Hp,H' b = none -> qu (zk X N' scope C sx Hx ex) pins H' b) (nD:∀ b ∈ fp,D ≠ b)
    (I:Inv (zk X N' scope C sx Hx ex) pins σ4 H0 s0) (st:tn 0 s0.heap) (fr:∀ b ∈ fp,H0 b = none) (hDn:H0 D = none) (ho:s0.heap.get? D = some { cls:=.type "list",data:=.seq its.toArray z }) (rv:Vals ys its) (w0:W 0 m0 ys H0)
    (turn:∀ i m zs H7,W i m zs H7 ->
      (J.stop i H7 /\ N zs H7) \/
      (J.go i H7 /\ ∃ N2:List V -> Hp -> Prop,(∀ zs H',N2 zs H' -> ∃ m',m' < m /\ W (i + 1) m' zs H') /\ ∀ x H8,J.yld i H7 x H8 -> g x σ4 H8 fun σ9 H9=>Sub σ4 σ9 /\ tf σ9 H9 fun b H10=>
        if b = true then te σ9 H10 fun y H11=>zs.length < sizeLine /\ N2 (zs ++ [y]) H11 else N2 zs H10))
    (fin:∀ (zs:List V) (its:List Value) (z:Nat) (H':Hp) (s':Shared),Inv (zk X N' scope C sx Hx ex) pins σ4 H' s' -> H' D = none -> s'.heap.get? D = some { cls:=.type "list",data:=.seq its.toArray z } -> Vals zs its -> N zs H' -> R (.ok .next) s') :
    codeAny (model X.prog X.w) X.A (.compLoop (lc2 elt tg1 iter1 ifs1 tg iter ifs scope pos) 1 (.ref it) (.ref D) (compEnvC scope (zL X.env.cells scope.names []) C X.env)) R s0:=by
  refine zap (fun n s'=>∃ i ys its H',∃ z:Nat,Inv (zk X N' scope C sx Hx ex) pins σ4 H' s' /\ tn i s'.heap /\ (∀ b ∈ fp,H' b = none) /\ H' D = none /\
      s'.heap.get? D = some { cls:=.type "list",data:=.seq (its:List Value).toArray z } /\ Vals ys its /\ W i n ys H') ?_ m0 ⟨0,ys,its,H0,z,I,st,fr,hDn,ho,rv,w0⟩
  rintro n s5 ⟨i,ys,its,H5,z5,I5,st5,fr5,hD5,ho5,rv5,w5⟩
  have I5':=I5.pinned (fp:=[D]) (fun b hb=>by rw [List.mem_singleton.mp hb];exact fD _ hD5) (fun b hb=>by
    rw [List.mem_singleton.mp hb];exact ⟨_,ho5,fun v q=>nomatch q⟩)
  have mD:(D,({ cls:=.type "list",data:=.seq its.toArray z5 }:Obj)) ∈ pins ++ zp [D] s5.heap:=List.mem_append_right _ (zD (List.mem_singleton.mpr rfl) ho5)
  have fp5:∀ {H':Hp},(∀ b ∈ fp,H' b = none) -> ∀ b ∈ fp,qu (zk X N' scope C sx Hx ex) (pins ++ zp [D] s5.heap) H' b:=fun hn b hb=>by
    obtain ⟨a1,a2,a3,a4,a5,a6⟩:=f2 b hb _ (hn b hb)
    refine ⟨a1,a2,a3,a4,a5,fun p hp=>?_⟩
    rcases List.mem_append.mp hp with q | q
    · exact a6 p (List.mem_append_left _ q)
    · rcases List.mem_append.mp q with q | q
      · exact a6 p (List.mem_append_right _ q)
      · rw [List.mem_singleton.mp (qz q).1];exact nD b hb
  rcases turn i n ys H5 w5 with ⟨stop,q⟩ | ⟨go,N2,hN,step⟩
  · refine thn (T.done (zk X N' scope C sx Hx ex) rfl rfl rfl hc i _ s5 _ H5 _ I5' (fp5 fr5) st5 stop) fun r s6 ⟨hr,I6⟩=>?_
    subst hr
    obtain ⟨o6,nD6,_⟩:=I6.pin (D,_) (List.mem_append_right _ mD)
    exact fin ys its z5 H5 s6 I6.unpinned nD6 o6 rv5 q
  · refine thn (T.item (zk X N' scope C sx Hx ex) rfl rfl rfl hc i _ s5 _ H5 _ I5' (fp5 fr5) st5 go) fun r s6 ⟨u,hr,h6⟩=>?_
    subst hr
    refine thn h6 fun _ s7 ⟨x,H7,I7,r7,y7,st7,fr7⟩=>?_
    have I7':=I7.pinned (fp5 fr7) (T.obj _ _ st7)
    refine thn (hg _ s7 _ H7 x u _ I7' r7 (step x H7 y7)) fun _ s8 ⟨σ8,H8,I8,hd8,q8⟩=>?_
    refine thn (hf _ s8 σ8 H8 _ I8 q8) fun ok s9 ⟨H9,I9,q9⟩=>?_
    have weak:∀ {H':Hp} {s':Shared},Inv (zk X N' scope C sx Hx ex) ((pins ++ zp [D] s5.heap) ++ zp fp s7.heap) σ8 H' s' -> Inv (zk X N' scope C sx Hx ex) pins σ4 H' s':=fun {H' s'} J=>
      (J.unpinned).unpinned.weak hd8.len fun k v e=>hd8.get e
    have mF:∀ b ∈ fp,∀ o,s7.heap.get? b = some o -> (b,o) ∈ (pins ++ zp [D] s5.heap) ++ zp fp s7.heap:=fun b hb o e=>List.mem_append_right _ (zD hb e)
    have mD':=List.mem_append_left (zp fp s7.heap) mD
    have frB:∀ {H':Hp} {s':Shared},Inv (zk X N' scope C sx Hx ex) ((pins ++ zp [D] s5.heap) ++ zp fp s7.heap) σ8 H' s' -> ∀ b ∈ fp,H' b = none:=fun {H' s'} J b hb=>by
      obtain ⟨o,e,_⟩:=T.obj _ _ st7 b hb
      exact (J.pin (b,o) (List.mem_append_right _ (mF b hb o e))).2.1
    cases ok with
    | false=>
      have q9':N2 ys H9:=by simpa using q9
      obtain ⟨m',hm,w'⟩:=hN _ _ q9'
      obtain ⟨o9,nD9,_⟩:=I9.pin (D,_) (List.mem_append_right _ mD')
      exact ⟨m',hm,i + 1,ys,its,H9,z5,weak I9,T.keep _ _ _ st7 fun b hb o e=>(I9.pin (b,o) (List.mem_append_right _ (mF b hb o e))).1,frB I9,nD9,o9,rv5,w'⟩
    | true=>
      have q9':te σ8 H9 fun y H6=>ys.length < sizeLine /\ N2 (ys ++ [y]) H6:=by simpa using q9
      refine thn (he _ s9 σ8 H9 _ I9 q9') fun yv s10 ⟨y,H10,I10,r10,hlt,w10⟩=>?_
      obtain ⟨m',hm,w'⟩:=hN _ _ w10
      obtain ⟨o10,nD10,_⟩:=I10.pin (D,_) (List.mem_append_right _ mD')
      refine wpAny_list_append_plain (l:=D) (items:=its.toArray) (hsz:=by rw [List.size_toArray,<- rv5.length];exact Nat.le_of_lt hlt) ⟨_,o10⟩ fun h11 hl11 hs11=>?_
      obtain ⟨z11,e11⟩:=hl11
      obtain ⟨d0,d1,d2,d3,d4,d5⟩:=fD _ nD10
      refine ⟨m',hm,i + 1,ys ++ [y],its ++ [yv],H10,z11,?_,T.keep _ _ _ st7 fun b hb o e=>hs11.extBut b o (Ne.symm (nD b hb)) (I10.pin (b,o) (List.mem_append_right _ (mF b hb o e))).1,frB I10,nD10,?_,rv5.append (.cons r10 .nil),w'⟩
      · exact (weak I10).turned (t':=s10.toks) (it:=D) (fun b o hb e=>hs11.extBut b o hb e) nD10 d1 d3 d4 d5
      · rw [e11];simp
end
def zaB (wi1:TI) (n:Nat) (js:List Nat) (g1:TG) (tf1:TT) (wi:TI) (g:TG) (tf:TT) (te:TE):TE:=fun σ H Q=>wi1 σ H fun J H1=>
  ∃ W:Nat -> Nat -> List V -> Hp -> Prop,(∃ m,W 0 m [] H1) /\ ∀ i m ys H2,W i m ys H2 ->
    (J.stop i H2 /\ ys.length <= sizeLine /\ ∀ D,H2 D = none -> Q (.ref D) (upd H2 D (.lst ys))) \/
    (J.go i H2 /\ ∃ N:List V -> Hp -> Prop,(∀ zs H',N zs H' -> ∃ m',m' < m /\ W (i + 1) m' zs H') /\ ∀ x H3,J.yld i H2 x H3 -> g1 x (upS n js σ) H3 fun σ4 H4=>σ4.drop n = (upS n js σ).drop n /\ tf1 σ4 H4 fun b H5=>
      if b = true then tIn wi g tf te ys N σ4 H5 else N ys H5)
section
variable {X:Cx} {elt tg1 iter1:Expr} {ifs1:List Expr} {tg iter:Expr} {ifs:List Expr} {scope:Scope} {pos:Pos} {wi wi1:TI} {g g1:TG} {tf tf1:TT} {te:TE}
theorem YY (own fr:List Str) (js:List Nat) (hc:X.calm = true) (hk:scope.kind = .function) (hb:xF scope.names X.env.scope.names X.N fr js = true) (hi:PI X tg1 iter1 wi1)
    (hg:∀ C s H ex,PG (zk X (own ++ fr) scope C s H ex) tg1 g1) (hf:∀ C s H ex,PF (zk X (own ++ fr) scope C s H ex) ifs1 tf1)
    (hi2:∀ C s H ex,PI (zk X (own ++ fr) scope C s H ex) tg iter wi) (hg2:∀ C s H ex,PG (zk X (own ++ fr) scope C s H ex) tg g) (hf2:∀ C s H ex,PF (zk X (own ++ fr) scope C s H ex) ifs tf) (he:∀ C s H ex,PE (zk X (own ++ fr) scope C s H ex) elt te)
    (hs:∀ x,foldedSetIterable iter1 X.env x = pure x:=by intro _;rfl) (hs2:∀ C x,foldedSetIterable iter (compEnvC scope (zL X.env.cells scope.names []) C X.env) x = pure x:=by intro _ _;rfl):PE X (lc2 elt tg1 iter1 ifs1 tg iter ifs scope pos) (zaB wi1 own.length js g1 tf1 wi g tf te):=by
  intro pins s σ H Q I h
  have B:=jP hb
  have hasF:∀ y ∈ scope.names,y.2 = NameKind.free -> ∃ c,X.env.cells.lookup y.1 = some c:=fun y hy e=>I.ok.has y.1 (B.free y hy e)
  rw [eval_ListComp]
  refine wpAny_comprehension_free (use:=none) rfl hs (xC hasF) hk (fun y hy e=>B.loc y hy e) (thn (hi pins s σ H _ I h) fun v s1 h1=>thn h1 fun itv s2 h2=>?_)
  obtain ⟨it,fp,tn,J,H2,e,I2,T,st2,f2,W,⟨m0,w0⟩,turn⟩:=h2
  subst e
  have fl:∀ b ∈ fp,b < s2.heap.objs.size:=fun b hb=>let ⟨o,e,_⟩:=T.obj _ _ st2 b hb;Heap.lt_size e
  refine wpAny_newObj_type (wpAny_newFunctionEnv B.cell (by intro y hy;simp at hy) (fun h1 hns hsb=>?_) hk)
  dsimp only at hns hsb ⊢
  generalize e3:s2.heap.push { cls:=.type "list",dict:=none,data:=.seq ([]:List Value).toArray } = h3 at hns hsb ⊢
  have k3:∀ b o,s2.heap.get? b = some o -> h3.get? b = some o:=fun b o e=>by rw [<- e3];exact Heap.get?_push_of_some _ e
  have k4:∀ b o,h3.get? b = some o -> h1.get? b = some o:=fun b o e=>hsb.extBut b o (Nat.ne_of_lt (Heap.lt_size e)) (Heap.get?_push_of_some _ e)
  have I4:Inv (zk X (own ++ fr) scope h3.objs.size { s2 with heap:=h3 } H2 (s2.heap.objs.size :: fp)) [] (upS own.length js σ) H2 { s2 with heap:=h1,toks:=s2.toks + ([]:List (Str × Value)).length }:=
    xS own fr js I2 B hk f2 fl rfl e3.symm rfl hns k4
  have I3:Inv X pins σ H2 { s2 with heap:=h3 }:=I2.kept (t':=s2.toks) k3
  have hz:h3.objs.size = s2.heap.objs.size + 1:=by rw [<- e3,Heap.size_push]
  have hDl:s2.heap.objs.size ≠ h3.objs.size:=by rw [hz];exact Nat.ne_of_lt (Nat.lt_succ_self _)
  have hacc:h1.get? s2.heap.objs.size = some { cls:=.type "list",data:=.seq ([]:List Value).toArray }:=k4 _ _ (by rw [<- e3];exact Heap.get?_push_size _ rfl)
  generalize eD:s2.heap.objs.size = D at *
  generalize eC:h3.objs.size = C at *
  have fD:∀ b ∈ fp,D ≠ b:=fun b hb=>Nat.ne_of_gt (fl b hb)
  have hx:∀ x c,(zL X.env.cells scope.names []).lookup x = some c -> c ≠ D:=fun x c e=>by
    obtain ⟨v,q⟩:=I2.cell x c (zA e hasF)
    rw [<- eD];exact Nat.ne_of_lt q.lt
  have hx2:∀ b ∈ fp,∀ x c,(zL X.env.cells scope.names []).lookup x = some c -> c ≠ b:=fun b hb x c e=>(f2 b hb).2.2.2.2.1 x c (zA e hasF)
  have nfs:∀ b ∈ D :: fp,b ∉ frs X.stack:=I4.ok.exfs
  have fpB:∀ {pins':List (Addr × Obj)} {H':Hp} {b:Addr},b ∈ fp -> H' b = none -> (∀ p ∈ pins',p.1 ≠ b) -> qu (zk X (own ++ fr) scope C { s2 with heap:=h3 } H2 (D :: fp)) pins' H' b:=fun {pins' H' b} hb hn hp=>
    ⟨hn,(I4.ok.exf b (List.mem_cons_of_mem _ hb)).1,nfs b (List.mem_cons_of_mem _ hb),.inl (List.mem_cons_of_mem _ hb),fun x c e=>hx2 b hb x c e,fun p h=>hp p (by simpa using h)⟩
  have fpD:∀ {pins':List (Addr × Obj)} {H':Hp},H' D = none -> (∀ p ∈ pins',p.1 ≠ D) -> qu (zk X (own ++ fr) scope C { s2 with heap:=h3 } H2 (D :: fp)) pins' H' D:=fun {pins' H'} hn hp=>
    ⟨hn,hDl,nfs D List.mem_cons_self,.inl List.mem_cons_self,fun x c e=>hx x c e,fun p h=>hp p (by simpa using h)⟩
  have loop:∀ s4:Shared,s4 = { s2 with heap:=h1,toks:=s2.toks + ([]:List (Str × Value)).length } ->
      codeAny (model X.prog X.w) X.A (.compLoop (lc2 elt tg1 iter1 ifs1 tg iter ifs scope pos) 0 (.ref it) (.ref D) (compEnvC scope (zL X.env.cells scope.names []) C X.env))
        (compPost (model X.prog X.w) X.A X.xe none (EP X pins σ Q) (.ref D) C) s4:=by
    intro s4 e4
    refine WW (hs2 C) (fun n s'=>∃ i ys its H',∃ z:Nat,Inv (zk X (own ++ fr) scope C { s2 with heap:=h3 } H2 (D :: fp)) [] (upS own.length js σ) H' s' /\ tn i s'.heap /\ (∀ b ∈ fp,H' b = none) /\ H' D = none /\
      s'.heap.get? D = some { cls:=.type "list",data:=.seq (its:List Value).toArray z } /\ Vals ys its /\ W i n ys H') ?_ m0 ?_
    · rintro n s5 ⟨i,ys,its,H5,z5,I5,st5,fr5,hD5,ho5,rv5,w5⟩
      have I5':=I5.pinned (fp:=[D]) (fun b hb=>by rw [List.mem_singleton.mp hb];exact fpD hD5 (fun p hp=>absurd hp (by simp))) (fun b hb=>by
        rw [List.mem_singleton.mp hb];exact ⟨_,ho5,fun v q=>nomatch q⟩)
      have pD:∀ p ∈ [] ++ zp [D] s5.heap,p.1 = D:=fun p hp=>by
        rw [List.nil_append] at hp
        exact List.mem_singleton.mp (qz hp).1
      have mD:(D,({ cls:=.type "list",data:=.seq its.toArray z5 }:Obj)) ∈ [] ++ zp [D] s5.heap:=by
        rw [List.nil_append];exact zD (List.mem_singleton.mpr rfl) ho5
      have fp5:∀ {H':Hp},(∀ b ∈ fp,H' b = none) -> ∀ b ∈ fp,qu (zk X (own ++ fr) scope C { s2 with heap:=h3 } H2 (D :: fp)) ([] ++ zp [D] s5.heap) H' b:=fun hn b hb=>fpB hb (hn b hb) fun p hp=>by
        rw [pD p hp];exact fD b hb
      rcases turn i n ys H5 w5 with ⟨stop,hlen,q⟩ | ⟨go,N,hN,step⟩
      · refine thn (T.done (zk X (own ++ fr) scope C { s2 with heap:=h3 } H2 (D :: fp)) rfl rfl rfl hc i _ s5 _ H5 _ I5' (fp5 fr5) st5 stop) fun r s6 ⟨hr,I6⟩=>?_
        subst hr
        obtain ⟨m6,hn6,_⟩:=I6.loc
        refine ⟨m6,hn6,fun h7 hs7=>?_⟩
        obtain ⟨o6,nD6,_⟩:=I6.pin (D,_) (List.mem_append_right _ mD)
        have k7:∀ b o,b ≠ C -> s6.heap.get? b = some o -> h7.get? b = some o:=fun b o hb e=>hs7.extBut b o hb e
        refine ⟨.ref D,upd H5 D (.lst ys),?_,rfl,q D nD6⟩
        refine I3.call' (s':={ s6 with heap:=h7 }) (ch:=D :: fp) I6.os (xm (vB I6.base (Nat.le_of_eq eC) k7) List.mem_cons_self (I2.hok.fresh ?_)) (jW (xA I6.hok I6.free k7) nD6 ⟨hlen,its,z5,rv5,k7 D _ hDl o6⟩) I6.bare fun b hb=>?_
        · rw [<- eD];exact Nat.le_refl _
        · rcases List.mem_cons.mp hb with y | hb
          · subst y
            refine ⟨.inr (by rw [<- eD];exact I2.sz),by rw [<- eD];exact Nat.ne_of_gt I2.lt,fun x c e=>?_,fun p hp=>?_⟩
            · obtain ⟨v,q⟩:=I2.cell x c e
              rw [<- eD];exact Nat.ne_of_lt q.lt
            · rw [<- eD];exact Nat.ne_of_lt (Heap.lt_size (I2.pin p hp).1)
          · obtain ⟨_,g1,_,g3,g4,g5⟩:=f2 b hb
            exact ⟨g3,g1,g4,g5⟩
      · refine thn (T.item (zk X (own ++ fr) scope C { s2 with heap:=h3 } H2 (D :: fp)) rfl rfl rfl hc i _ s5 _ H5 _ I5' (fp5 fr5) st5 go) fun r s6 ⟨u,hr,h6⟩=>?_
        subst hr
        refine thn h6 fun _ s7 ⟨x,H7,I7,r7,y7,st7,fr7⟩=>?_
        have I7':=I7.pinned (fp5 fr7) (T.obj _ _ st7)
        refine thn (hg _ _ _ _ _ s7 _ H7 x u _ I7' r7 (step x H7 y7)) fun _ s8 ⟨σ8,H8,I8,hd8,q8⟩=>?_
        refine thn (hf _ _ _ _ _ s8 σ8 H8 _ I8 q8) fun ok s9 ⟨H9,I9,q9⟩=>?_
        have weak:∀ {H':Hp} {s':Shared},Inv (zk X (own ++ fr) scope C { s2 with heap:=h3 } H2 (D :: fp)) (([] ++ zp [D] s5.heap) ++ zp fp s7.heap) σ8 H' s' ->
            Inv (zk X (own ++ fr) scope C { s2 with heap:=h3 } H2 (D :: fp)) [] (upS own.length js σ) H' s':=fun {H' s'} J=>by
          refine (J.unpinned).unpinned.weak (I5.len.trans J.len.symm) fun k v e=>?_
          obtain ⟨hn,e1,_⟩:=qG e
          rw [<- hd8,List.getElem?_drop] at e1
          rw [<- e1]
          congr 1
          omega
        have mF:∀ b ∈ fp,∀ o,s7.heap.get? b = some o -> (b,o) ∈ ([] ++ zp [D] s5.heap) ++ zp fp s7.heap:=fun b hb o e=>List.mem_append_right _ (zD hb e)
        have mD':=List.mem_append_left (zp fp s7.heap) mD
        have frB:∀ {H':Hp} {s':Shared},Inv (zk X (own ++ fr) scope C { s2 with heap:=h3 } H2 (D :: fp)) (([] ++ zp [D] s5.heap) ++ zp fp s7.heap) σ8 H' s' -> ∀ b ∈ fp,H' b = none:=fun {H' s'} J b hb=>by
          obtain ⟨o,e,_⟩:=T.obj _ _ st7 b hb
          exact (J.pin (b,o) (List.mem_append_right _ (mF b hb o e))).2.1
        cases ok with
        | false=>
          have q9':N ys H9:=by simpa using q9
          obtain ⟨m',hm,w'⟩:=hN _ _ q9'
          obtain ⟨o9,nD9,_⟩:=I9.pin (D,_) (List.mem_append_right _ mD')
          exact ⟨m',hm,i + 1,ys,its,H9,z5,weak I9,T.keep _ _ _ st7 fun b hb o e=>(I9.pin (b,o) (List.mem_append_right _ (mF b hb o e))).1,frB I9,nD9,o9,rv5,w'⟩
        | true=>
          have q9':tIn wi g tf te ys N σ8 H9:=by simpa using q9
          refine thn (hi2 _ _ _ _ _ s9 σ8 H9 _ I9 q9') fun xv s10 h10=>thn h10 fun itv s11 ⟨it2,fp2,tn2,J2,H11,ei,I11,T2,st11,f11,W2,⟨m2,w2⟩,turn2⟩=>?_
          subst ei
          have I12:Inv (zk X (own ++ fr) scope C { s2 with heap:=h3 } H2 (D :: fp)) (zp fp s7.heap) σ8 H11 s11:=I11.pins_of fun p hp=>I11.pin p (List.mem_append_right _ (List.mem_append_right _ hp))
          obtain ⟨o11,nD11,_⟩:=I11.pin (D,_) (List.mem_append_right _ mD')
          have pF:∀ p ∈ zp fp s7.heap,p.1 ≠ D:=fun p hp=>Ne.symm (fD _ (qz hp).1)
          have nD2:∀ b ∈ fp2,D ≠ b:=fun b hb=>(f11 b hb).2.2.2.2.2 (D,_) (List.mem_append_right _ mD')
          have f12:∀ b ∈ fp2,∀ H':Hp,H' b = none -> qu (zk X (own ++ fr) scope C { s2 with heap:=h3 } H2 (D :: fp)) (zp fp s7.heap) H' b:=fun b hb H' hn=>by
            obtain ⟨_,a2,a3,a4,a5,a6⟩:=f11 b hb
            exact ⟨hn,a2,a3,a4,a5,fun p hp=>a6 p ((List.mem_append.mp hp).elim (fun q=>List.mem_append_left _ q) fun q=>List.mem_append_right _ (List.mem_append_right _ q))⟩
          have loop2:codeAny (model X.prog X.w) X.A (.compLoop (lc2 elt tg1 iter1 ifs1 tg iter ifs scope pos) 1 (.ref it2) (.ref D) (compEnvC scope (zL X.env.cells scope.names []) C X.env)) (fun r s7=>match r with
              | .ok _=>∃ m,m < n /\ ∃ i ys its H',∃ z:Nat,Inv (zk X (own ++ fr) scope C { s2 with heap:=h3 } H2 (D :: fp)) [] (upS own.length js σ) H' s7 /\ tn i s7.heap /\ (∀ b ∈ fp,H' b = none) /\ H' D = none /\ s7.heap.get? D = some { cls:=.type "list",data:=.seq (its:List Value).toArray z } /\ Vals ys its /\ W i m ys H'
              | .error _=>False) s11:=by
            refine WN (N:=N) hc (hg2 _ _ _ _) (hf2 _ _ _ _) (he _ _ _ _) T2 (fun H' hn=>fpD hn pF) f12 nD2 I12 st11 (fun b hb=>(f11 b hb).1) nD11 o11 rv5 w2 turn2 fun zs its' z' H' s' I' nD' o' rv' q'=>?_
            obtain ⟨m',hm,w'⟩:=hN _ _ q'
            refine ⟨m',hm,i + 1,zs,its',H',z',?_,T.keep _ _ _ st7 fun b hb o e=>(I'.pin (b,o) (List.mem_append_right _ (zD hb e))).1,fun b hb=>?_,nD',o',rv',w'⟩
            · refine (I'.pins_of (pins':=[]) fun p hp=>absurd hp (by simp)).weak (I5.len.trans I'.len.symm) fun k v e=>?_
              obtain ⟨hn,e1,_⟩:=qG e
              rw [<- hd8,List.getElem?_drop] at e1
              rw [<- e1]
              congr 1
              omega
            · obtain ⟨o,e,_⟩:=T.obj _ _ st7 b hb
              exact (I'.pin (b,o) (List.mem_append_right _ (zD hb e))).2.1
          exact jM loop2 (T2.self X.A 0 _ _ _ st11 loop2)
    · subst e4
      exact ⟨0,[],[],H2,0,I4,T.keep _ _ _ st2 fun b hb o e=>k4 b o (k3 b o e),fun b hb=>(f2 b hb).1,I2.hok.fresh (by rw [<- eD];exact Nat.le_refl _),hacc,.nil,w0⟩
  exact codeAny_compStart_list (loop _ rfl) (T.self X.A 0 _ _ _ (T.keep _ _ _ st2 fun b hb o e=>k4 b o (k3 b o e)) (loop _ rfl))
end
section
variable {X:Cx}
inductive vd (K:PySem.W.Frag) (xs:List V) (H:Hp) (Q:VK):Prop
  | mk (p:Addr) (bs:List Bool) (_:xs = [.ref p]) (_:SqL K H p (bs.map V.bl)) (_:Q (.bl (bs.any id)) H):vd K xs H Q
theorem J8 (hc:X.calm = true):CallR X (.builtin "any") (vd X.K):=by
  intro pins s σ H xs us Q I r h
  obtain ⟨p,bs,rfl,hq,q⟩:=h
  obtain ⟨u,rfl,ru⟩:=jb r
  cases ru
  obtain ⟨its,rv,pl,hz⟩:=I.list hq
  have hl:=pl.isList
  have hpl:p ≠ s.heap.objs.size:=by
    obtain ⟨o,e,_⟩:=hl
    exact Nat.ne_of_lt (Heap.lt_size e)
  refine call_any_walk (wpAny_pyIter_list hl ?_)
  refine ⟨s.heap.objs.size,_,_,_,_,_,fun i=>bs.getD i false,rfl,Walks.list (prog:=X.prog) (w:=X.w) (A:=X.A.in1) (I.ok.hd hc) _ p hpl its.toArray,⟨⟨_,Heap.get?_push_size _ rfl,rfl,rfl⟩,hl.push _⟩,?_,fun h' tk hk=>?_⟩
  · intro i v s' Q' E' hP hQ
    have hP:its.toArray[i]? = some v:=hP
    have e1:its[i]? = some v:=by simpa using hP
    have hi:i < bs.length:=by
      have h1:=(List.getElem?_eq_some_iff.mp e1).1
      have h2:=rv.length
      rw [List.length_map] at h2
      omega
    have e2:(bs.map V.bl)[i]? = some (.bl bs[i]):=by simp [hi]
    obtain ⟨u',eu,ru⟩:=rv.get e2
    rw [e1] at eu
    cases eu
    cases ru
    have e3:bs.getD i false = bs[i]:=by simp [hi]
    have hQ2:Q' (bs.getD i false) s':=hQ
    rw [e3] at hQ2
    exact wpAny_truthy_bool hQ2
  · have k:∀ b o,s.heap.get? b = some o -> h'.get? b = some o:=fun b o e=>hk b o (by simp;exact Nat.ne_of_lt (Heap.lt_size e)) (Heap.get?_push_of_some _ e)
    have ea:(List.range its.toArray.size).any (fun i=>bs.getD i false) = bs.any id:=by
      have hlen:its.toArray.size = bs.length:=by
        have:=rv.length
        rw [List.length_map] at this
        simp only [List.size_toArray];omega
      rw [hlen,Bool.eq_iff_iff,List.any_eq_true,List.any_eq_true]
      constructor
      · rintro ⟨i,hi,e⟩
        have hi:=List.mem_range.mp hi
        exact ⟨bs[i],List.getElem_mem hi,by simpa [hi] using e⟩
      · rintro ⟨b,hb,e⟩
        obtain ⟨i,hi,rfl⟩:=List.mem_iff_getElem.mp hb
        exact ⟨i,List.mem_range.mpr hi,by simpa [hi] using e⟩
    exact ⟨.bl (bs.any id),H,I.kept k,by rw [ea];rfl,q⟩
theorem VU:bootBuiltins "any" = some (.builtin "any"):=by decide +kernel
end
theorem Vw {K:PySem.W.Frag} {a:Addr} {xs:List V} {g:TG} {tf:TT} {te:TE} {σ0:St} {n:Nat} {R:List V -> Hp -> Prop} {H:Hp} (Pv:Nat -> List V -> Hp -> Prop) (h0:Pv 0 [] H)
    (h1:∀ i zs H,Pv i zs H -> SqT K H a xs)
    (hs:∀ i x zs H T,xs[i]? = some x -> Pv i zs H -> H T = none -> g (.ref T) σ0 (upd H T (.tup [.int i,x])) fun σ4 H4=>σ4.drop n = σ0.drop n /\ tf σ4 H4 fun b H5=>
      if b = true then te σ4 H5 fun v H6=>zs.length < sizeLine /\ Pv (i + 1) (zs ++ [v]) H6 else Pv (i + 1) zs H5)
    (hd:∀ zs H,Pv xs.length zs H -> zs.length <= sizeLine /\ R zs H) :
    ∃ W:Nat -> Nat -> List V -> Hp -> Prop,(∃ m,W 0 m [] H) /\ ∀ i m zs H2,W i m zs H2 ->
      ((VZ K a).stop i H2 /\ zs.length <= sizeLine /\ R zs H2) \/
      ((VZ K a).go i H2 /\ ∃ N:List V -> Hp -> Prop,(∀ zs H',N zs H' -> ∃ m',m' < m /\ W (i + 1) m' zs H') /\ ∀ x H3,(VZ K a).yld i H2 x H3 -> g x σ0 H3 fun σ4 H4=>σ4.drop n = σ0.drop n /\ tf σ4 H4 fun b H5=>
        if b = true then te σ4 H5 fun y H6=>zs.length < sizeLine /\ N (zs ++ [y]) H6 else N zs H5):=by
  refine ⟨fun i m zs H2=>m = xs.length - i /\ i <= xs.length /\ Pv i zs H2,⟨_,rfl,Nat.zero_le _,h0⟩,?_⟩
  rintro i m zs H2 ⟨rfl,hi,p⟩
  have q:=h1 i zs H2 p
  by_cases hlt:i < xs.length
  · refine .inr ⟨⟨xs,xs[i],q,by simp [hlt]⟩,Pv (i + 1),fun zs' H' p'=>⟨_,by omega,rfl,hlt,p'⟩,fun x H3 y=>?_⟩
    obtain ⟨T,z,e1,hT,e2,y⟩:=y
    subst e1 e2
    exact hs i z zs H2 T (y xs q) p hT
  · have e:i = xs.length:=by omega
    subst e
    obtain ⟨z1,z2⟩:=hd zs H2 p
    exact .inl ⟨⟨xs,q,Nat.le_refl _⟩,z1,z2⟩
theorem WH {K:PySem.W.Frag} {a:Addr} {xs:List V} {g:TG} {tf:TT} {wi:TI} {g2:TG} {tf2:TT} {te:TE} {σ0:St} {n:Nat} {R:List V -> Hp -> Prop} {H:Hp} (Pv:Nat -> List V -> Hp -> Prop) (h0:Pv 0 [] H)
    (h1:∀ i zs H,Pv i zs H -> SqT K H a xs)
    (hs:∀ i x zs H,xs[i]? = some x -> Pv i zs H -> g x σ0 H fun σ4 H4=>σ4.drop n = σ0.drop n /\ tf σ4 H4 fun b H5=>
      if b = true then tIn wi g2 tf2 te zs (Pv (i + 1)) σ4 H5 else Pv (i + 1) zs H5)
    (hd:∀ zs H,Pv xs.length zs H -> zs.length <= sizeLine /\ R zs H) :
    ∃ W:Nat -> Nat -> List V -> Hp -> Prop,(∃ m,W 0 m [] H) /\ ∀ i m zs H2,W i m zs H2 ->
      ((Itt K a).stop i H2 /\ zs.length <= sizeLine /\ R zs H2) \/
      ((Itt K a).go i H2 /\ ∃ N:List V -> Hp -> Prop,(∀ zs H',N zs H' -> ∃ m',m' < m /\ W (i + 1) m' zs H') /\ ∀ x H3,(Itt K a).yld i H2 x H3 -> g x σ0 H3 fun σ4 H4=>σ4.drop n = σ0.drop n /\ tf σ4 H4 fun b H5=>
        if b = true then tIn wi g2 tf2 te zs N σ4 H5 else N zs H5):=by
  refine ⟨fun i m zs H2=>m = xs.length - i /\ i <= xs.length /\ Pv i zs H2,⟨_,rfl,Nat.zero_le _,h0⟩,?_⟩
  rintro i m zs H2 ⟨rfl,hi,p⟩
  have q:=h1 i zs H2 p
  by_cases hlt:i < xs.length
  · refine .inr ⟨⟨xs,xs[i],q,by simp [hlt]⟩,Pv (i + 1),fun zs' H' p'=>⟨_,by omega,rfl,hlt,p'⟩,fun x H3 y=>?_⟩
    obtain ⟨e,y⟩:=y
    subst e
    exact hs i x zs _ (y xs q) p
  · have e:i = xs.length:=by omega
    subst e
    obtain ⟨z1,z2⟩:=hd zs H2 p
    exact .inl ⟨⟨xs,q,Nat.le_refl _⟩,z1,z2⟩
theorem WO {K:PySem.W.Frag} {a:Addr} {xs:List V} {g:TG} {tf:TT} {te:TE} {σ0:St} {N:List V -> Hp -> Prop} {ys:List V} {H:Hp} (Pv:Nat -> List V -> Hp -> Prop) (h0:Pv 0 ys H)
    (h1:∀ i zs H,Pv i zs H -> SqL K H a xs)
    (hs:∀ i x zs H,xs[i]? = some x -> Pv i zs H -> g x σ0 H fun σ4 H4=>Sub σ0 σ4 /\ tf σ4 H4 fun b H5=>
      if b = true then te σ4 H5 fun v H6=>zs.length < sizeLine /\ Pv (i + 1) (zs ++ [v]) H6 else Pv (i + 1) zs H5)
    (hd:∀ zs H,Pv xs.length zs H -> N zs H) :
    ∃ W:Nat -> Nat -> List V -> Hp -> Prop,(∃ m,W 0 m ys H) /\ ∀ i m zs H2,W i m zs H2 ->
      ((Itl K a).stop i H2 /\ N zs H2) \/
      ((Itl K a).go i H2 /\ ∃ N2:List V -> Hp -> Prop,(∀ zs H',N2 zs H' -> ∃ m',m' < m /\ W (i + 1) m' zs H') /\ ∀ x H3,(Itl K a).yld i H2 x H3 -> g x σ0 H3 fun σ4 H4=>Sub σ0 σ4 /\ tf σ4 H4 fun b H5=>
        if b = true then te σ4 H5 fun y H6=>zs.length < sizeLine /\ N2 (zs ++ [y]) H6 else N2 zs H5):=by
  refine ⟨fun i m zs H2=>m = xs.length - i /\ i <= xs.length /\ Pv i zs H2,⟨_,rfl,Nat.zero_le _,h0⟩,?_⟩
  rintro i m zs H2 ⟨rfl,hi,p⟩
  have q:=h1 i zs H2 p
  by_cases hlt:i < xs.length
  · refine .inr ⟨⟨xs,xs[i],q,by simp [hlt]⟩,Pv (i + 1),fun zs' H' p'=>⟨_,by omega,rfl,hlt,p'⟩,fun x H3 y=>?_⟩
    obtain ⟨e,y⟩:=y
    subst e
    exact hs i x zs _ (y xs q) p
  · have e:i = xs.length:=by omega
    subst e
    exact .inl ⟨⟨xs,q,Nat.le_refl _⟩,hd zs H2 p⟩
section
variable {X:Cx} {elt iter1:Expr} {ifs1:List Expr} {iter:Expr} {ifs:List Expr} {scope:Scope} {pos:Pos} {wi wi1:TI} {tf tf1:TT} {te:TE} {x y z:Str} {px py pz tp tp2:Pos} {kk kk2:Nat}
theorem Wl (fr:List Str) (js:List Nat) (hc:X.calm = true) (hk:scope.kind = .function) (hb:ja scope.names X.env.scope.names X.N [x,z] fr js = true) (hi:PI X (.Name x px) iter1 wi1)
    (hf:∀ C s H ex,PF (zk X ([x,z] ++ fr) scope C s H ex) ifs1 tf1) (hi2:∀ C s H ex,PI (zk X ([x,z] ++ fr) scope C s H ex) (.Name z pz) iter wi) (hf2:∀ C s H ex,PF (zk X ([x,z] ++ fr) scope C s H ex) ifs tf) (he:∀ C s H ex,PE (zk X ([x,z] ++ fr) scope C s H ex) elt te)
    (hs:∀ x,foldedSetIterable iter1 X.env x = pure x:=by intro _;rfl) (hs2:∀ C x,foldedSetIterable iter (compEnvC scope (zL X.env.cells scope.names []) C X.env) x = pure x:=by intro _ _;rfl) :
    PE X (lc2 elt (.Name x px) iter1 ifs1 (.Name z pz) iter ifs scope pos) (zaB wi1 2 js (qx 0) tf1 wi (qx 1) tf te):=by
  obtain ⟨h1,h2,h3⟩:=qo hb
  exact YY [x,z] fr js hc hk h1 hi (fun C s H ex=>qb (h2 x (by simp)) h3 rfl) hf hi2 (fun C s H ex=>qb (h2 z (by simp)) h3 rfl) hf2 he hs hs2
end
section
variable {X:Cx}
theorem Zo {K:PySem.W.Frag} (h:X.K = K) {tg l:Expr} {tl:TE} (hl:PE X l tl):PI X tg l (Yv K tl):=by rw [<- h];exact z6 hl
end
section
variable {X:Cx}
def tLT (K:PySem.W.Frag) (t:TE):TT:=fun σ H Q=>t σ H fun x H1=>∃ a xs,x = .ref a /\ SqL K H1 a xs /\ Q (!xs.isEmpty) H1
theorem Wf {e:Expr} {t:TE} (h:PE X e t) (he:∀ whole,isTrue e X.env whole = (do let v <- whole;standAt e.pos;holding [v] (truthy v)):=by intro _;rfl):PT X e (tLT X.K t):=by
  intro pins s σ H Q I hw
  refine isTrue_plain (thn (h pins s σ H _ I hw) fun v s1 ⟨x,H1,I1,r1,q1⟩=>?_) (he _)
  obtain ⟨a,xs,rfl,hq,q⟩:=q1
  cases (show v = _ from r1)
  obtain ⟨its,rv,pl,hz⟩:=I1.list hq
  have hl:=rv.length
  refine wpAny_truthy_list pl.isList (by rw [List.size_toArray,<- hl];rw [sizeLine_eq] at hz;omega) ?_
  have e:(!xs.isEmpty) = (!its.toArray.isEmpty):=by
    cases xs with
    | nil=>cases rv;rfl
    | cons y ys=>cases rv;rfl
  first
    | exact ⟨H1,I1.tok _,by rw [e] at q;simpa using q⟩
    | exact ⟨H1,I1,by rw [e] at q;simpa using q⟩
end
section
variable {X:Cx} {elt tg1 iter1:Expr} {ifs1:List Expr} {tg iter:Expr} {ifs:List Expr} {scope:Scope} {pos:Pos} {wi wi1:TI} {g g1:TG} {tf tf1:TT} {te:TE} {x z:Str} {px pz tp tp2:Pos} {kk kk2:Nat}
end
section
variable {κ:Type} [DecidableEq κ]
def zK (kvs:List (κ × V)) (k:κ):Option V:=(kvs.find? fun kv=>decide (kv.1 = k)).map (·.2)
def qq (kvs:List (κ × V)) (k:κ) (v:V):List (κ × V):=
  if (kvs.any fun kv=>decide (kv.1 = k)) = true then kvs.map (fun kv=>if kv.1 = k then (kv.1,v) else kv) else kvs ++ [(k,v)]
def Yw (kvs:List (κ × V)) (k:κ):List (κ × V):=kvs.filter fun kv=>decide (kv.1 ≠ k)
theorem zT {p:κ × V} {r:List (κ × V)} {k:κ} (e:p.1 = k):zK (p :: r) k = some p.2:=by simp [zK,List.find?_cons,e]
theorem zZ {p:κ × V} {r:List (κ × V)} {k:κ} (e:¬ p.1 = k):zK (p :: r) k = zK r k:=by simp [zK,List.find?_cons,e]
theorem jD (k:κ):∀ kvs:List (κ × V),(kvs.any fun kv=>decide (kv.1 = k)) = (zK kvs k).isSome
  | []=>rfl
  | p :: r=>by
    rw [List.any_cons]
    by_cases e:p.1 = k
    · simp only [zT e,decide_eq_true e,Bool.true_or,Option.isSome_some]
    · rw [zZ e,decide_eq_false e,Bool.false_or];exact jD k r
theorem y3 (k j:κ) (y:V):∀ kvs:List (κ × V),zK (kvs.map fun kv=>if kv.1 = k then (kv.1,y) else kv) j = (zK kvs j).map fun x=>if j = k then y else x
  | []=>rfl
  | p :: r=>by
    have ih:=y3 k j y r
    rw [List.map_cons]
    by_cases h:p.1 = k
    · rw [if_pos h]
      by_cases e:p.1 = j
      · rw [zT (p:=(p.1,y)) e,zT e,Option.map_some,if_pos (e.symm.trans h)]
      · rw [zZ (p:=(p.1,y)) e,zZ e,ih]
    · rw [if_neg h]
      by_cases e:p.1 = j
      · rw [zT (p:=p) e,zT e,Option.map_some,if_neg (fun z=>h (e.trans z))]
      · rw [zZ (p:=p) e,zZ e,ih]
theorem wN (k j:κ) (y:V):∀ kvs:List (κ × V),zK kvs k = none -> zK (kvs ++ [(k,y)]) j = if j = k then some y else zK kvs j
  | [],_=>by
    by_cases e:k = j
    · rw [if_pos e.symm];exact zT (p:=(k,y)) e
    · rw [if_neg (fun z=>e z.symm)];exact zZ (p:=(k,y)) e
  | p :: r,hn=>by
    rw [List.cons_append]
    have hk:¬ p.1 = k:=fun z=>by rw [zT z] at hn;cases hn
    rw [zZ hk] at hn
    have ih:=wN k j y r hn
    by_cases e:p.1 = j
    · rw [zT e,zT e,if_neg (fun z=>hk (e.trans z))]
    · rw [zZ e,zZ e,ih]
theorem vz (kvs:List (κ × V)) (k j:κ) (y:V):zK (qq kvs k y) j = if j = k then some y else zK kvs j:=by
  unfold qq
  by_cases a:(kvs.any fun kv=>decide (kv.1 = k)) = true
  · rw [if_pos a,y3]
    rw [jD] at a
    by_cases e:j = k
    · obtain ⟨x,hx⟩:=Option.isSome_iff_exists.mp a
      rw [if_pos e,e,hx,Option.map_some,if_pos rfl]
    · rw [if_neg e]
      cases zK kvs j with
      | none=>rfl
      | some x=>rw [Option.map_some,if_neg e]
  · rw [if_neg a]
    refine wN k j y kvs ?_
    rw [jD] at a
    cases q:zK kvs k with
    | none=>rfl
    | some x=>rw [q] at a;exact (a rfl).elim
theorem qh (kvs:List (κ × V)) (k:κ) (v:V):(qq kvs k v).length <= kvs.length + 1:=by
  unfold qq
  split
  · rw [List.length_map];omega
  · rw [List.length_append,List.length_cons,List.length_nil];omega
theorem XT {kvs:List (κ × V)} {k:κ} (v:V) (h:zK kvs k = none):qq kvs k v = kvs ++ [(k,v)]:=by
  unfold qq
  rw [jD,h]
  exact if_neg (by decide)
theorem RelO.isSome_eq {o:Option V} {u:Option Value} (r:RelO o u):o.isSome = u.isSome:=by
  cases o with
  | none=>cases u with
    | none=>rfl
    | some _=>exact (show False from r).elim
  | some _=>cases u with
    | none=>exact (show False from r).elim
    | some _=>rfl
theorem RelO.getD {o:Option V} {u:Option Value} {d:V} {d':Value} (r:RelO o u) (rd:RelV d d'):RelV (o.getD d) (u.getD d'):=by
  cases o with
  | none=>cases u with
    | none=>exact rd
    | some _=>exact (show False from r).elim
  | some _=>cases u with
    | none=>exact (show False from r).elim
    | some _=>exact r
theorem KV.val {kvs:List (κ × V)} {vs:List (κ × Value)} (r:KV kvs vs) (k:κ):RelO (zK kvs k) (valueAt vs k):=by
  unfold KV at r
  induction r with
  | nil=>exact True.intro
  | @cons p q ps qs h t ih=>
    obtain ⟨h1,h2⟩:=h
    by_cases e:p.1 = k
    · have e':q.1 = k:=h1.symm.trans e
      have b:valueAt (q :: qs) k = some q.2:=by simp [valueAt,List.find?_cons,e']
      rw [zT e,b];exact h2
    · have e':¬ q.1 = k:=fun z=>e (h1.trans z)
      have b:valueAt (q :: qs) k = valueAt qs k:=by simp [valueAt,List.find?_cons,e']
      rw [zZ e,b];exact ih
theorem KV.any {kvs:List (κ × V)} {vs:List (κ × Value)} (r:KV kvs vs) (k:κ):(kvs.any fun kv=>decide (kv.1 = k)) = vs.any fun kv=>decide (kv.1 = k):=by
  unfold KV at r
  induction r with
  | nil=>rfl
  | cons h t ih=>rw [List.any_cons,List.any_cons,ih,h.1]
theorem KV.repl {kvs:List (κ × V)} {vs:List (κ × Value)} (r:KV kvs vs) (k:κ) {y:V} {u:Value} (ry:RelV y u) :
    KV (kvs.map fun kv=>if kv.1 = k then (kv.1,y) else kv) (vs.map fun kv=>if kv.1 = k then (kv.1,u) else kv):=by
  unfold KV at r ⊢
  induction r with
  | nil=>exact .nil
  | @cons p q ps qs h t ih=>
    rw [List.map_cons,List.map_cons]
    refine .cons ?_ ih
    obtain ⟨h1,h2⟩:=h
    by_cases e:p.1 = k
    · rw [if_pos e,if_pos (h1.symm.trans e)];exact ⟨h1,ry⟩
    · rw [if_neg e,if_neg (fun z=>e (h1.trans z))];exact ⟨h1,h2⟩
theorem KV.put {kvs:List (κ × V)} {vs:List (κ × Value)} (r:KV kvs vs) (k:κ) {y:V} {u:Value} (ry:RelV y u):KV (qq kvs k y) (stored vs k u):=by
  unfold qq stored
  rw [r.any k]
  by_cases e:(vs.any fun kv=>decide (kv.1 = k)) = true
  · rw [if_pos e,if_pos e];exact r.repl k ry
  · rw [if_neg e,if_neg e];exact Paired.snoc r ⟨rfl,ry⟩
theorem KV.drop {kvs:List (κ × V)} {vs:List (κ × Value)} (r:KV kvs vs) (k:κ):KV (Yw kvs k) (without vs k):=by
  unfold KV at r ⊢
  unfold Yw without
  induction r with
  | nil=>exact .nil
  | @cons p q ps qs h t ih=>
    obtain ⟨h1,h2⟩:=h
    rw [List.filter_cons,List.filter_cons]
    by_cases e:p.1 = k
    · have a:¬ decide (p.1 ≠ k) = true:=by simp [e]
      have b:¬ decide (q.1 ≠ k) = true:=by simp [h1.symm.trans e]
      rw [if_neg a,if_neg b];exact ih
    · have e':¬ q.1 = k:=fun z=>e (h1.trans z)
      have a:decide (p.1 ≠ k) = true:=by simp [e]
      have b:decide (q.1 ≠ k) = true:=by simp [e']
      rw [if_pos a,if_pos b];exact .cons ⟨h1,h2⟩ ih
theorem KV.keys {kvs:List (κ × V)} {vs:List (κ × Value)} (r:KV kvs vs):kvs.map (·.1) = vs.map (·.1):=by
  unfold KV at r
  induction r with
  | nil=>rfl
  | cons h t ih=>rw [List.map_cons,List.map_cons,ih,h.1]
theorem KV.length {kvs:List (κ × V)} {vs:List (κ × Value)} (r:KV kvs vs):kvs.length = vs.length:=Paired.length r
end
theorem jL {P:Program} {w:World} {k:Key} {u:Value} (r:RelV (kV k) u):(zq P w).is k u = true:=by
  cases k with
  | inl i=>obtain ⟨t,e⟩:=(show ∃ t,u = Value.int i t from r);subst e;exact Zt P w i t
  | inr x=>obtain ⟨t,e⟩:=(show ∃ t,u = Value.str x t from r);subst e;exact Zs P w x t
theorem jg {P:Program} {w:World}:∀ {ks:List Key} {us:List Value},Vals (ks.map kV) us -> ItemsAre (zq P w) ks us
  | [],_,r=>by rw [List.map_nil] at r;cases r;exact .nil
  | k :: ks,_,r=>by
    rw [List.map_cons] at r
    cases r with
    | cons h t=>exact .cons (jL h) (jg t)
abbrev KT (H:Hp):List (List Key × V) -> List (List Key × Addr × Value) -> Prop:=Paired fun p q=>p.1 = q.1 /\ H q.2.1 = some (.tup (p.1.map kV)) /\ RelV p.2 q.2.2
theorem KT.val {H:Hp} {kvs:List (List Key × V)} {xs:List (List Key × Addr × Value)} (r:KT H kvs xs) (k:List Key):RelO (zK kvs k) ((atKey xs k).map (·.2)):=by
  induction r with
  | nil=>exact True.intro
  | @cons p q ps qs h t ih=>
    obtain ⟨h1,_,h2⟩:=h
    by_cases e:p.1 = k
    · have e':q.1 = k:=h1.symm.trans e
      have b:atKey (q :: qs) k = some q.2:=by simp [atKey,List.find?_cons,e']
      rw [zT e,b];exact h2
    · have e':¬ q.1 = k:=fun z=>e (h1.trans z)
      have b:atKey (q :: qs) k = atKey qs k:=by simp [atKey,List.find?_cons,e']
      rw [zZ e,b];exact ih
theorem KT.repl {H:Hp} {kvs:List (List Key × V)} {xs:List (List Key × Addr × Value)} (r:KT H kvs xs) (k:List Key) {y:V} {u:Value} (ry:RelV y u) :
    KT H (kvs.map fun kv=>if kv.1 = k then (kv.1,y) else kv) (xs.map (putAt k u)):=by
  induction r with
  | nil=>exact .nil
  | @cons p q ps qs h t ih=>
    rw [List.map_cons,List.map_cons]
    refine .cons ?_ ih
    obtain ⟨h1,h2,h3⟩:=h
    unfold putAt
    by_cases e:p.1 = k
    · rw [if_pos e,if_pos (h1.symm.trans e)];exact ⟨h1,h2,ry⟩
    · rw [if_neg e,if_neg (fun z=>e (h1.trans z))];exact ⟨h1,h2,h3⟩
theorem KT.put {H:Hp} {kvs:List (List Key × V)} {xs:List (List Key × Addr × Value)} (r:KT H kvs xs) (k:List Key) {b:Addr} {y:V} {u:Value} (hb:H b = some (.tup (k.map kV))) (ry:RelV y u) :
    KT H (qq kvs k y) (storedH xs k b u):=by
  have e:(kvs.any fun kv=>decide (kv.1 = k)) = (atKey xs k).isSome:=by
    rw [jD,(r.val k).isSome_eq,Option.isSome_map]
  unfold qq storedH
  rw [e]
  by_cases q:(atKey xs k).isSome = true
  · rw [if_pos q,if_pos q];exact r.repl k ry
  · rw [if_neg q,if_neg q];exact Paired.snoc r ⟨rfl,hb,ry⟩
theorem KT.keeps {H H':Hp} {kvs:List (List Key × V)} {xs:List (List Key × Addr × Value)} (r:KT H kvs xs) (ht:∀ b ys,H b = some (.tup ys) -> H' b = some (.tup ys)):KT H' kvs xs:=
  Paired.mapP r fun _ _ z=>⟨z.1,ht _ _ z.2.1,z.2.2⟩
section
variable {P:Program} {w:World} {H:Hp} {h:Heap} {a:Addr}
theorem Yh {u:HO} (ok:HOk P w H h) (e:Rd H a u):ObjOk P w H h a u:=e.ok ok
theorem ya {kvs:List (Key × V)} (ok:HOk P w H h) (e:Rd H a (.dK kvs)):kvs.length <= sizeLine /\ (a == sysModules) = false /\ ∃ vs,KV kvs vs /\ h.DictOf (zq P w) a vs:=
  show ObjOk P w H h a (.dK kvs) from Yh ok e
theorem Q7 {kvs:List (Key × V)} (ok:HOk P w H h) (e:H a = some (.dK kvs)):kvs.length <= sizeLine /\ (a == sysModules) = false /\ ∃ vs,KV kvs vs /\ h.DictOf (zq P w) a vs:=ya ok (.inl e)
theorem vU {ks:List Key} (ok:HOk P w H h) (e:H a = some (.tup (ks.map kV))):(tupleKind (zq P w)).is h ks a:=by
  obtain ⟨_,its,r,⟨o,h1,h2,n,h3⟩,_⟩:=(show ObjOk P w H h a (.tup (ks.map kV)) from ok a _ e)
  exact ⟨o,its.toArray,n,h1,h2,h3,by simpa using jg r⟩
theorem w9 {kvs:List (List Key × V)} (ok:HOk P w H h) (e:Rd H a (.dT kvs)):kvs.length <= sizeLine /\ (a == sysModules) = false /\
    ∃ xs,KT H kvs xs /\ h.DictOfH (tupleKind (zq P w)) a xs:=by
  obtain ⟨z,y,xs,r,o,es,ep,h1,h2,h3,h4,h5⟩:=(show ObjOk P w H h a (.dT kvs) from Yh ok e)
  refine ⟨z,y,xs,r,o,es,ep,h1,h2,h3,h4,fun x hx=>?_,h5⟩
  have all:∀ {l:List (List Key × V)} {m:List (List Key × Addr × Value)},KT H l m -> ∀ x ∈ m,(tupleKind (zq P w)).is h x.1 x.2.1:=by
    intro l m q
    induction q with
    | nil=>intro x hx;exact nomatch hx
    | @cons p q ps qs hq t ih=>
      intro x hx
      rcases List.mem_cons.mp hx with e | hx
      · subst e
        exact vU ok (by rw [<- hq.1];exact hq.2.1)
      · exact ih x hx
  exact all r x hx
theorem zbe {kvs:List (List Key × V)} (ok:HOk P w H h) (e:H a = some (.dT kvs)):kvs.length <= sizeLine /\ (a == sysModules) = false /\
    ∃ xs,KT H kvs xs /\ h.DictOfH (tupleKind (zq P w)) a xs:=w9 ok (.inl e)
end
def DGet (H:Hp) (a:Addr) (y:V) (r:Option V):Prop:=
  (∃ kvs k,Rd H a (.dK kvs) /\ y = kV k /\ r = zK kvs k) \/ ∃ kvs k b,Rd H a (.dT kvs) /\ y = .ref b /\ H b = some (.tup (k.map kV)) /\ r = zK kvs k
def DPut (H:Hp) (a:Addr) (y v:V) (H':Hp):Prop:=
  (∃ kvs k,H a = some (.dK kvs) /\ y = kV k /\ kvs.length < sizeLine /\ H' = upd H a (.dK (qq kvs k v))) \/
  ∃ kvs k b,H a = some (.dT kvs) /\ y = .ref b /\ H b = some (.tup (k.map kV)) /\ kvs.length < sizeLine /\ H' = upd H a (.dT (qq kvs k v))
theorem DGet.k {H:Hp} {a:Addr} {kvs:List (Key × V)} {k:Key} (e:H a = some (.dK kvs)):DGet H a (kV k) (zK kvs k):=.inl ⟨kvs,k,.inl e,rfl,rfl⟩
theorem DGet.t {H:Hp} {a b:Addr} {kvs:List (List Key × V)} {k:List Key} (e:H a = some (.dT kvs)) (eb:H b = some (.tup (k.map kV))):DGet H a (.ref b) (zK kvs k):=.inr ⟨kvs,k,b,.inl e,rfl,eb,rfl⟩
theorem DPut.k {H:Hp} {a:Addr} {kvs:List (Key × V)} {k:Key} {v:V} (e:H a = some (.dK kvs)) (hl:kvs.length < sizeLine):DPut H a (kV k) v (upd H a (.dK (qq kvs k v))):=.inl ⟨kvs,k,e,rfl,hl,rfl⟩
theorem DPut.t {H:Hp} {a b:Addr} {kvs:List (List Key × V)} {k:List Key} {v:V} (e:H a = some (.dT kvs)) (eb:H b = some (.tup (k.map kV))) (hl:kvs.length < sizeLine) :
    DPut H a (.ref b) v (upd H a (.dT (qq kvs k v))):=.inr ⟨kvs,k,b,e,rfl,eb,hl,rfl⟩
section
variable {X:Cx} {pins:List (Addr × Obj)} {σ:St} {H:Hp} {s:Shared} {a:Addr} {y v:V} {u r:Value} {o:Option V} {A:Around} {E:Value -> Shared -> Prop}
theorem Inv.big (I:Inv X pins σ H s):sysModules < s.heap.objs.size:=by
  have h:mainGlobals < s.heap.objs.size:=(I.mod.glob.keeps I.bk).lt
  exact Nat.lt_trans (by decide) h
theorem J3 {Q:Value -> Shared -> Prop} (hu:A.units + 1 < cLine) (I:Inv X pins σ H s) (g:DGet H a y (some v)) (ry:RelV y u) (h:∀ w' s',Inv X pins σ H s' -> RelV v w' -> Q w' s') :
    wpAny (model X.prog X.w) A (getItem (.ref a) u) Q E s:=by
  rcases g with ⟨kvs,k,e,ey,l⟩ | ⟨kvs,k,b,e,ey,eb,l⟩
  · subst ey
    obtain ⟨z,hd,vs,rel,dd⟩:=ya I.hok e
    obtain ⟨w',hw,rw'⟩:=RelO.some_of (v:=v) (o:=valueAt vs k) (by rw [l];exact rel.val k)
    exact wpAny_getItem_of (jL ry) dd.mapOf hw (h w' _ (I.tok _) rw')
  · subst ey
    cases (show u = Value.ref b from ry)
    obtain ⟨z,hd,xs,rel,dd⟩:=w9 I.hok e
    obtain ⟨w',hw,rw'⟩:=RelO.some_of (v:=v) (o:=(atKey xs k).map (·.2)) (by rw [l];exact rel.val k)
    obtain ⟨p,hp,hp2⟩:=Option.map_eq_some_iff.mp hw
    refine wpAny_getItem_heap (tupleKind_room_in1 hu) (vU I.hok eb) dd hp ?_
    rw [hp2]
    exact h w' _ (I.tok _) rw'
theorem WT {Q:Value -> Shared -> Prop} (hu:A.units + 1 < cLine) (I:Inv X pins σ H s) (g:DGet H a y o) (ry:RelV y u) (h:∀ s',Inv X pins σ H s' -> Q (.bool (!o.isSome)) s') :
    wpAny (model X.prog X.w) A (compareOp .NotIn u (.ref a)) Q E s:=by
  rcases g with ⟨kvs,k,e,ey,l⟩ | ⟨kvs,k,b,e,ey,eb,l⟩
  · subst ey
    obtain ⟨z,hd,vs,rel,dd⟩:=ya I.hok e
    refine wpAny_notIn_of (jL ry) hd dd.mapOf ?_
    rw [<- (rel.val k).isSome_eq,<- l]
    exact h _ (I.tok _)
  · subst ey
    cases (show u = Value.ref b from ry)
    obtain ⟨z,hd,xs,rel,dd⟩:=w9 I.hok e
    refine wpAny_notIn_heap (tupleKind_room_in1 hu) (vU I.hok eb) hd dd ?_
    have q:=(rel.val k).isSome_eq
    rw [Option.isSome_map] at q
    rw [<- q,<- l]
    exact h _ (I.tok _)
theorem jZ {h':Heap} {t':Nat} {ob:HO} (I:Inv X pins σ H s) (mu:Mut (H a)) (hs:Heap.SameBut a s.heap h') (he:∃ q,h'.get? a = some q) (new:ObjOk X.prog X.w (upd H a ob) h' a ob) :
    Inv X pins σ (upd H a ob) { s with heap:=h',toks:=t' }:=
  I.write (x:=a) (e:=a) mu (.inl rfl) (fun b q hb z=>(hs.2 b hb).trans z) he new
theorem yL {P:Program} {w:World} {H':Hp} {h':Heap} {kvs:List (Key × V)} {vs:List (Key × Value)} (z:kvs.length <= sizeLine) (hd:(a == sysModules) = false) (rel:KV kvs vs) (dd:h'.DictOf (zq P w) a vs) :
    ObjOk P w H' h' a (.dK kvs):=⟨z,hd,vs,rel,dd⟩
theorem JZ {H':Hp} {Q:Unit -> Shared -> Prop} (hu:A.units + 1 < cLine) (I:Inv X pins σ H s) (g:DPut H a y v H') (ry:RelV y u) (rv:RelV v r) (h:∀ s',Inv X pins σ H' s' -> Q () s') :
    wpAny (model X.prog X.w) A (setItem (.ref a) u r) Q E s:=by
  rcases g with ⟨kvs,k,e,ey,l,eH⟩ | ⟨kvs,k,b,e,ey,eb,l,eH⟩
  · subst ey eH
    obtain ⟨z,hd,vs,rel,dd⟩:=Q7 I.hok e
    have hz:vs.length <= sizeLine:=by rw [<- rel.length];exact z
    have hl:(qq kvs k v).length <= sizeLine:=by have:=qh kvs k v;omega
    refine wpAny_setItem_pairs (hsz:=hz) (jL ry) dd fun h' dd' hs=>h _ ?_
    have he:∃ q,h'.get? a = some q:=let ⟨q,_,_,hq,_⟩:=dd';⟨q,hq⟩
    exact jZ I (by rw [e];exact True.intro) hs he (yL hl hd (rel.put k rv) dd')
  · subst ey eH
    cases (show u = Value.ref b from ry)
    obtain ⟨z,hd,xs,rel,dd⟩:=zbe I.hok e
    have hz:xs.length <= sizeLine:=by rw [<- Paired.length rel];exact z
    have hl:(qq kvs k v).length <= sizeLine:=by have:=qh kvs k v;omega
    refine wpAny_setItem_heap (hsz:=hz) (tupleKind_room_in1 hu) (vU I.hok eb) dd fun h' dd' hs=>h _ ?_
    obtain ⟨q,es,ep,hq,h2,h3,h4,_,h5⟩:=dd'
    refine jZ I (by rw [e];exact True.intro) hs ⟨q,hq⟩ ⟨hl,hd,_,(rel.put k eb rv).keeps fun c ys ec=>?_,q,es,ep,hq,h2,h3,h4,h5⟩
    rw [zi (QX ec e (fun z=>nomatch z))]
    exact ec
end
section
variable {X:Cx} {pins:List (Addr × Obj)} {σ:St} {H:Hp} {s:Shared} {a:Addr} {kvs:List (Key × V)} {k:Key} {u:Value} {A:Around} {E:Value -> Shared -> Prop}
end
def zbf (i:Expr):Prop:=∀ ov iv,subscripted i false ov iv = operate [ov,iv] (getItem ov iv)
theorem V8 {prog:Program} {w:World} {A:Around} {E:Value -> Shared -> Prop} {s:Shared} {env:Env} {value slice:Expr} {pos:Pos} {T id:String} {Q:Value -> Shared -> Prop}
    (hl:typeLookup (.type T) "__getitem__" = pure (some (.builtin id))) (hs:zbf slice)
    (h:wpAny (model prog w) A (eval value env) (fun o s₁=>wpAny (model prog w) A (eval slice env) (fun i s₂=>s₂.TypeIs o T /\ wpAny (model prog w) A (getItem o i) Q E s₂) E s₁) E s) :
    wpAny (model prog w) A (eval (.Subscript value slice pos) env) Q E s:=by
  refine Subscript_ (wpAny_mono h (fun o s₁ h₁=>wpAny_mono h₁ (fun i s₂ h₂=>?_) fun _ _ x=>x) fun _ _ x=>x)
  obtain ⟨hT,h₂⟩:=h₂
  unfold subscriptTail
  refine wpAny_bind ?_
  rw [getitemInPython_of_ne hT.not_modules]
  refine wpAny_bind (wpAny_specialOf hT hl ?_)
  have fin:wpAny (model prog w) A (subscripted slice false o i) (fun r s₃=>wpAny (model prog w) A (letTemporaryGo value o r >>= fun _=>pure r) Q E s₃) E s₂:=by
    rw [hs o i]
    exact wpAny_operating (wpAny_mono h₂ (fun r s₃ h₃=>wpAny_bind (wpAny_letTemporaryGo (wpAny_pure h₃))) fun _ _ x=>x)
  first
    | exact wpAny_pure (wpAny_bind fin)
    | exact wpAny_bind (wpAny_pure (wpAny_bind fin))
    | exact wpAny_bind fin
theorem ZG {X:Cx} {pins:List (Addr × Obj)} {σ:St} {H:Hp} {s:Shared} {a:Addr} {y:V} {o:Option V} (I:Inv X pins σ H s) (g:DGet H a y o):s.TypeIs (.ref a) "dict" :=by
  rcases g with ⟨kvs,k,e,_,_⟩ | ⟨kvs,k,b,e,_,_,_⟩
  · obtain ⟨_,_,vs,_,dd⟩:=ya I.hok e
    exact dd.typeIs
  · obtain ⟨_,_,xs,_,dd⟩:=w9 I.hok e
    exact dd.typeIs
def zaF (td ty:TE):TE:=fun σ H Q=>td σ H fun x H1=>ty σ H1 fun y H2=>∃ a v,x = .ref a /\ DGet H2 a y (some v) /\ Q v H2
def V6 (ty td:TE):TE:=fun σ H Q=>ty σ H fun y H1=>td σ H1 fun x H2=>∃ a o,x = .ref a /\ DGet H2 a y o /\ Q (.bl (!o.isSome)) H2
def zaQ (td ty tv:TE):TS:=fun D σ H=>tv σ H fun v H1=>td σ H1 fun x H2=>ty σ H2 fun y H3=>∃ a H4,x = .ref a /\ DPut H3 a y v H4 /\ D.nx σ H4
section
variable {X:Cx} {o i e value:Expr} {pos pos' tpos:Pos} {td ty tv:TE}
theorem yC (hu:X.A.units + 1 < cLine) (ho:PE X o td) (hi:PE X i ty) (hs:zbf i):PE X (.Subscript o i pos) (zaF td ty):=by
  intro pins s σ H Q I h
  refine V8 PySem.F.slot_dict_getitem.lookup hs (thn (ho pins s σ H _ I h) fun u s1 ⟨x,H1,I1,rx,q1⟩=>thn (hi pins s1 σ H1 _ I1 q1) fun iv s2 ⟨y,H2,I2,ry,a,v,ex,g,q2⟩=>?_)
  subst ex
  obtain rfl:u = Value.ref a:=rx
  exact ⟨ZG I2 g,J3 hu I2 g ry fun w' s3 I3 rw'=>⟨v,H2,I3,rw',q2⟩⟩
theorem JM (hu:X.A.units + 1 < cLine) (hi:PE X i ty) (ho:PE X o td):PC X .NotIn i o (V6 ty td):=by
  intro pins s σ H Q I h
  refine thn (hi pins s σ H _ I h) fun iv s1 ⟨y,H1,I1,ry,q1⟩=>thn (ho pins s1 σ H1 _ I1 q1) fun u s2 ⟨x,H2,I2,rx,a,ov,ex,g,q2⟩=>?_
  subst ex
  obtain rfl:u = Value.ref a:=rx
  exact WT hu I2 g ry fun s3 I3=>⟨.bl (!ov.isSome),H2,I3,rfl,q2⟩
theorem Wg (hu:X.A.units + 1 < cLine) (ho:PE X o td) (hi:PE X i ty) (hv:PE X value tv) (hs:swapsWith value (some (.Subscript o i pos')) pos.line X.env = pure false) :
    PS X (.Assign [.Subscript o i pos'] value pos) (zaQ td ty tv):=by
  intro pins s σ H D I h
  refine wpAny_Assign_Subscript (thn (hv pins s σ H _ I h) fun r s1 ⟨v,H1,I1,rv,q1⟩=>thn (ho pins s1 σ H1 _ I1 q1) fun u s2 ⟨x,H2,I2,rx,q2⟩=>thn (hi pins s2 σ H2 _ I2 q2) fun iv s3 ⟨y,H3,I3,ry,a,H4,ex,g,q3⟩=>?_) hs
  subst ex
  obtain rfl:u = Value.ref a:=rx
  exact JZ hu I3 g ry rv fun s4 I4=>⟨σ,H4,I4,q3⟩
end
theorem vX {P:Program} {w:World} {H:Hp} (h:Heap) (hb:sysModules < h.objs.size):ObjOk P w H (h.push { cls:=.type "dict",data:=.dict #[] }) h.objs.size (.dK []):=
  ⟨Nat.zero_le _,beq_eq_false_iff_ne.mpr (Ne.symm (Nat.ne_of_lt hb)),[],.nil,Heap.DictOf.new h⟩
def YF:TE:=fun _ H Q=>∀ p,H p = none -> Q (.ref p) (upd H p (.dK []))
section
variable {X:Cx} {pos:Pos}
theorem X6:PE X (.Dict [] [] pos) YF:=fun pins s σ H Q I h=>
  wpAny_Dict_empty ⟨.ref s.heap.objs.size,_,I.laid (a:=s.heap.objs.size) (o:=.dK []) (t':=s.toks) (fun _ _ q=>Heap.get?_push_of_some _ q) (Nat.le_refl _) (vX s.heap I.big),rfl,h _ (I.hok.fresh (Nat.le_refl _))⟩
end
def vD:List (TE × TE) -> St -> Hp -> (List (V × V) -> Hp -> Prop) -> Prop
  | [],_,H,Q=>Q [] H
  | (tk,tv) :: r,σ,H,Q=>tk σ H fun x H1=>tv σ H1 fun y H2=>vD r σ H2 fun ps H3=>Q ((x,y) :: ps) H3
abbrev VV:List (V × V) -> List (Value × Value) -> Prop:=Paired fun p q=>RelV p.1 q.1 /\ RelV p.2 q.2
def PPs (X:Cx) (pos:Pos) (keys:List (Option Expr)) (values:List Expr) (trs:List (TE × TE)):Prop:=
  ∀ (pins:List (Addr × Obj)) (s:Shared) (σ:St) (H:Hp) (Q:List (V × V) -> Hp -> Prop),Inv X pins σ H s -> vD trs σ H Q ->
    wpAny (model X.prog X.w) X.A (evalPairs (pairTrees keys values X.env pos)) (fun vs s'=>∃ ps H',Inv X pins σ H' s' /\ VV ps vs /\ Q ps H') X.xe s
theorem QR {X:Cx} {pos:Pos}:PPs X pos [] [] []:=fun pins s σ H Q I h=>pairTrees_nil_walk ⟨[],H,I,.nil,h⟩
theorem Zn {X:Cx} {pos:Pos} {k v:Expr} {ks:List (Option Expr)} {vs:List Expr} {tk tv:TE} {trs:List (TE × TE)} (hk:PE X k tk) (hv:PE X v tv) (hr:PPs X pos ks vs trs) :
    PPs X pos (some k :: ks) (v :: vs) ((tk,tv) :: trs):=fun pins s σ H Q I h=>
  pairTrees_cons_walk (thn (hk pins s σ H _ I h) fun u s1 ⟨x,H1,I1,rx,q1⟩=>thn (hv pins s1 σ H1 _ I1 q1) fun w2 s2 ⟨y,H2,I2,ry,q2⟩=>
    thn (hr pins s2 σ H2 _ I2 q2) fun ws s3 ⟨ps,H3,I3,rel,q3⟩=>⟨(x,y) :: ps,H3,I3,.cons ⟨rx,ry⟩ rel,q3⟩)
def ju (kvs more:List (Key × V)):List (Key × V):=more.foldl (fun acc kv=>qq acc kv.1 kv.2) kvs
theorem KV.merge:∀ {more:List (Key × V)} {rs:List (Key × Value)} {kvs:List (Key × V)} {vs:List (Key × Value)},KV more rs -> KV kvs vs -> KV (ju kvs more) (merged vs rs):=by
  intro more rs kvs vs r
  unfold KV at r
  induction r generalizing kvs vs with
  | nil=>intro q;exact q
  | @cons p q ps qs h t ih=>
    intro r0
    have e:KV (qq kvs p.1 p.2) (stored vs q.1 q.2):=by
      have:=r0.put p.1 h.2
      rw [<- h.1];exact this
    exact ih e
theorem j6:∀ (more kvs:List (Key × V)),(ju kvs more).length <= kvs.length + more.length
  | [],kvs=>by show kvs.length <= kvs.length + 0;omega
  | p :: r,kvs=>by
    have h1:=j6 r (qq kvs p.1 p.2)
    have h2:=qh kvs p.1 p.2
    show (ju (qq kvs p.1 p.2) r).length <= _
    rw [List.length_cons];omega
theorem vY {P:Program} {w:World}:∀ {kvs:List (Key × V)} {ws:List (Value × Value)},VV (kvs.map fun kv=>(kV kv.1,kv.2)) ws -> ∃ rs,Carries (zq P w) ws rs /\ KV kvs rs
  | [],_,r=>by rw [List.map_nil] at r;cases r;exact ⟨[],True.intro,.nil⟩
  | p :: kvs,_,r=>by
    rw [List.map_cons] at r
    cases r with
    | @cons a b as bs h t=>
      obtain ⟨rs,c,q⟩:=vY (P:=P) (w:=w) t
      obtain ⟨b1,b2⟩:=b
      exact ⟨(p.1,b2) :: rs,⟨jL h.1,rfl,c⟩,.cons ⟨rfl,h.2⟩ q⟩
def zaE (trs:List (TE × TE)):TE:=fun σ H Q=>∀ p,H p = none -> vD trs σ (upd H p (.dK [])) fun ps H2=>H2 p = some (.dK []) /\ ∃ kvs:List (Key × V),ps = kvs.map (fun kv=>(kV kv.1,kv.2)) /\ kvs.length <= 15 /\ Q (.ref p) (upd H2 p (.dK (ju [] kvs)))
theorem Wm {X:Cx} {pos:Pos} {keys:List (Option Expr)} {values:List Expr} {trs:List (TE × TE)} (h:PPs X pos keys values trs) (hall:keys.all (·.isSome) = true) (hl:keys.length = values.length) (h0:keys ≠ [])
    (h15:keys.length <= 15):PE X (.Dict keys values pos) (zaE trs):=by
  intro pins s σ H Q I q
  have hn:=I.hok.fresh (Nat.le_refl s.heap.objs.size)
  have I1:=I.laid (a:=s.heap.objs.size) (o:=.dK []) (h':=s.heap.push { cls:=.type "dict",data:=.dict #[] }) (t':=s.toks) (fun _ _ q=>Heap.get?_push_of_some _ q) (Nat.le_refl _) (vX s.heap I.big)
  refine wpAny_Dict_walk (knd:=zq X.prog X.w) hall hl h0 h15 (thn (h pins _ σ _ _ I1 (q _ hn)) fun ws s2 ⟨ps,H2,I2,rel,e,kvs,ep,lk,q2⟩=>?_)
  subst ep
  obtain ⟨rs,c,rk⟩:=vY (P:=X.prog) (w:=X.w) rel
  obtain ⟨z,hd,vs0,r0,dd⟩:=Q7 I2.hok e
  cases r0
  refine ⟨rs,c,dd,fun h' dd' hs=>⟨.ref s.heap.objs.size,_,?_,rfl,q2⟩⟩
  have hz:(ju [] kvs).length <= sizeLine:=by
    have h1:=j6 kvs []
    rw [List.length_nil] at h1
    rw [sizeLine_eq];omega
  have he:∃ q,h'.get? s.heap.objs.size = some q:=let ⟨q,_,_,hq,_⟩:=dd';⟨q,hq⟩
  exact jZ I2 (by rw [e];exact True.intro) hs he (yL hz hd (rk.merge .nil) dd')
structure M1 (X:Cx) (o:Expr) (m:Str) (apos:Pos) (e:Expr) (cpos:Pos):Prop where
  base:attributeBase o m X.env (eval o X.env) = eval o X.env
  few:((backTo cpos (starEach [e] X.env)).all (fun x=>!x.1) && (backToKw cpos (keywordEach [] X.env)).all (fun x=>x.1.isSome)
    && decide (([e]:List Expr).length + ([]:List Keyword).length + (if ([]:List Keyword).isEmpty then 0 else 1) < 30)) = true
  line:(apos.endLine == cpos.line) = true
  trees:backTo cpos (starEach [e] X.env) = [(false,eval e X.env)]
structure M2 (X:Cx) (o:Expr) (m:Str) (apos:Pos) (e f:Expr) (cpos:Pos):Prop where
  base:attributeBase o m X.env (eval o X.env) = eval o X.env
  few:((backTo cpos (starEach [e,f] X.env)).all (fun x=>!x.1) && (backToKw cpos (keywordEach [] X.env)).all (fun x=>x.1.isSome)
    && decide (([e,f]:List Expr).length + ([]:List Keyword).length + (if ([]:List Keyword).isEmpty then 0 else 1) < 30)) = true
  line:(apos.endLine == cpos.line) = true
  trees:backTo cpos (starEach [e,f] X.env) = [(false,eval e X.env),(false,eval f X.env)]
def IsD (H:Hp) (a:Addr):Prop:=(∃ kvs,Rd H a (.dK kvs)) \/ ∃ kvs,Rd H a (.dT kvs)
theorem VB {X:Cx} {pins:List (Addr × Obj)} {σ:St} {H:Hp} {s:Shared} {a:Addr} (I:Inv X pins σ H s) (d:IsD H a) :
    s.TypeIs (.ref a) "dict" /\ (∀ b,Value.ref a = .ref b -> ∃ ob,s.heap.get? b = some ob /\ ob.dict = none) /\ (a == sysModules) = false:=by
  rcases d with ⟨kvs,e⟩ | ⟨kvs,e⟩
  · obtain ⟨_,hd,vs,_,dd⟩:=ya I.hok e
    refine ⟨dd.typeIs,fun b q=>?_,hd⟩
    cases q
    obtain ⟨ob,_,_,h1,h2,_⟩:=dd
    exact ⟨ob,h1,h2.2.1⟩
  · obtain ⟨_,hd,xs,_,dd⟩:=w9 I.hok e
    refine ⟨dd.typeIs,fun b q=>?_,hd⟩
    cases q
    obtain ⟨ob,_,_,h1,h2,_⟩:=dd
    exact ⟨ob,h1,h2.2.1⟩
section
variable {X:Cx} {pins:List (Addr × Obj)} {σ:St} {H:Hp} {s:Shared} {a:Addr} {y d:V} {u r:Value} {o:Option V} {A:Around} {E:Value -> Shared -> Prop}
theorem zao {Q:Value -> Shared -> Prop} (hu:A.units + 1 < cLine) (I:Inv X pins σ H s) (g:DGet H a y o) (ry:RelV y u) (rd:RelV d r) (h:∀ w' s',Inv X pins σ H s' -> RelV (o.getD d) w' -> Q w' s') :
    wpAny (model X.prog X.w) A (call (.builtin "dict.get") [.ref a,u,r]) Q E s:=by
  rcases g with ⟨kvs,k,e,ey,l⟩ | ⟨kvs,k,b,e,ey,eb,l⟩
  · subst ey
    obtain ⟨z,hd,vs,rel,dd⟩:=ya I.hok e
    refine call_meetsIn PySem.F.slot_dict_get dd.typeIs PySem.F.entry_dict_get (PySem.F.args_dict_get_3 _ _ _) (meets_dict_get_default (zq X.prog X.w) a (jL ry) hd r) ⟨_,dd.mapOf,h _ _ (I.tok _) ?_⟩
    rw [l]
    exact (rel.val k).getD rd
  · subst ey
    cases (show u = Value.ref b from ry)
    obtain ⟨z,hd,xs,rel,dd⟩:=w9 I.hok e
    refine call_meetsIn PySem.F.slot_dict_get dd.typeIs PySem.F.entry_dict_get (PySem.F.args_dict_get_3 _ _ _) (meetsH_dict_get_default (tupleKind (zq X.prog X.w)) a b hd r) ⟨tupleKind_room_in1 hu,k,xs,vU I.hok eb,dd,h _ _ (I.tok _) ?_⟩
    rw [l]
    exact (rel.val k).getD rd
end
def YG (td ty tx:TE):TE:=fun σ H Q=>td σ H fun x H1=>∃ a,x = .ref a /\ IsD H1 a /\ ty σ H1 fun y H2=>tx σ H2 fun z H3=>∃ o,DGet H3 a y o /\ Q (o.getD z) H3
section
variable {X:Cx} {o e f:Expr} {apos cpos:Pos} {td ty tx:TE}
theorem X9 (hu:X.A.units + 1 < cLine) (ho:PE X o td) (he:PE X e ty) (hf:PE X f tx) (m:M2 X o "get" apos e f cpos):PE X (.Call (.Attribute o "get" apos) [e,f] [] cpos) (YG td ty tx):=by
  intro pins s σ H Q I h
  refine wpAny_Call_method m.base m.few m.line PySem.F.plainAttrs_dict PySem.F.slot_dict_get PySem.F.type_dict_get (thn (ho pins s σ H _ I h) fun u s1 ⟨x,H1,I1,rx,a,ex,d,q1⟩=>?_)
  subst ex
  obtain rfl:u = Value.ref a:=rx
  obtain ⟨t1,t2,_⟩:=VB I1 d
  refine ⟨t1,t2,?_⟩
  rw [m.trees]
  refine Calls.callWith_builtin rfl (Calls.evalArgs_plain (Calls.spliced_cons (thn (he pins s1 σ H1 _ I1 q1) fun iv s2 ⟨y,H2,I2,ry,q2⟩=>
    Calls.spliced_cons (thn (hf pins s2 σ H2 _ I2 q2) fun fv s3 ⟨z,H3,I3,rz,ov,g,q3⟩=>Calls.spliced_nil ?_))))
  exact zao hu I3 g ry rz fun w' s4 I4 rw'=>⟨_,H3,I4,rw',q3⟩
end
section
variable {X:Cx} {pins:List (Addr × Obj)} {σ:St} {H:Hp} {s:Shared} {a:Addr} {kvs:List (Key × V)} {A:Around} {E:Value -> Shared -> Prop}
end
section
variable {X:Cx} {pins:List (Addr × Obj)} {σ:St} {H:Hp} {s:Shared} {a:Addr} {y:V} {u:Value} {A:Around} {E:Value -> Shared -> Prop}
end
end L2
namespace PySem
open PySem PySem.W PySem.Calls PyProof.Rows PyProof.V PySem.Spec
end PySem
namespace L2
open PySem PySem.Spec PyProof.Rows
section
variable {X:Cx}
end
section
variable {X:Cx} {tg:Expr}
end
section
variable {X:Cx}
end
section
variable {X:Cx}
inductive x9 (K:PySem.W.Frag) (xs:List V) (H:Hp) (Q:VK):Prop
  | mk (p:Addr) (ns:List Int) (_:xs = [.ref p]) (_:SqL K H p (ns.map V.int)) (_:ns ≠ []) (_:∀ m:Int,m ∈ ns -> (∀ a ∈ ns,m <= a) -> Q (.int m) H):x9 K xs H Q
theorem J7 (hc:X.calm = true):CallR X (.builtin "min") (x9 X.K):=by
  intro pins s σ H xs us Q I r h
  obtain ⟨p,ns,rfl,hq,hne,q⟩:=h
  obtain ⟨u,rfl,ru⟩:=jb r
  cases (show u = _ from ru)
  obtain ⟨its,rv,pl,_⟩:=I.list hq
  have hl:=pl.isList
  have hpl:p ≠ s.heap.objs.size:=by
    obtain ⟨o,e,_⟩:=hl
    exact Nat.ne_of_lt (Heap.lt_size e)
  have hlen:its.length = ns.length:=by have:=rv.length;rw [List.length_map] at this;omega
  have h0:0 < ns.length:=List.length_pos_iff.mpr hne
  have hplt:p < s.heap.objs.size:=by
    obtain ⟨o,e,_⟩:=hl
    exact Heap.lt_size e
  refine call_min_walk (wpAny_pyIter_list hl ?_)
  have hval:∀ i v,its.toArray[i]? = some v -> ∃ t,v = Value.int (ns.getD i 0) t:=by
    intro i v hP
    have e1:its[i]? = some v:=by simpa using hP
    have hi:i < ns.length:=by
      have h1:=(List.getElem?_eq_some_iff.mp e1).1
      omega
    have e2:(ns.map V.int)[i]? = some (.int ns[i]):=by simp [hi]
    obtain ⟨u',eu,ru⟩:=rv.get e2
    rw [e1] at eu
    cases eu
    obtain ⟨t,rfl⟩:=ru
    exact ⟨t,by simp [hi]⟩
  refine ⟨s.heap.objs.size,_,_,_,_,_,fun i j=>decide (ns.getD i 0 < ns.getD j 0),rfl,Walks.list (prog:=X.prog) (w:=X.w) (A:=X.A.in1) (I.ok.hd hc) _ p hpl its.toArray,⟨⟨_,Heap.get?_push_size _ rfl,rfl,rfl⟩,hl.push _⟩,?_,?_,CmpOf.ints_lt (fun i=>ns.getD i 0) hval,fun v h' tk hP hk=>?_⟩
  · intro b hb
    show b < (s.heap.push _).objs.size
    rw [Heap.size_push]
    rcases List.mem_cons.mp hb with rfl | hb
    · exact Nat.lt_succ_self _
    · rcases List.mem_cons.mp hb with rfl | hb
      · exact Nat.lt_succ_of_lt hplt
      · cases hb
  · show 0 < its.toArray.size
    rw [List.size_toArray];omega
  · obtain ⟨t,rfl⟩:=hval _ v hP
    obtain ⟨h1,h2⟩:=argBest_lt (fun i=>ns.getD i 0) (its.toArray.size - 1)
    rw [List.size_toArray] at h1 h2 hP
    refine ⟨.int _,H,I.kept (old_kept hk),⟨t,rfl⟩,q _ ?_ fun a ha=>?_⟩
    · rw [List.size_toArray]
      have hb:argBest (fun i j=>decide (ns.getD i 0 < ns.getD j 0)) (its.length - 1) < ns.length:=by omega
      rw [List.getD_eq_getElem?_getD,List.getElem?_eq_getElem hb]
      exact List.getElem_mem _
    · rw [List.size_toArray]
      obtain ⟨j,hj,rfl⟩:=List.getElem_of_mem ha
      have:=h2 j (by omega)
      rw [show ns.getD j 0 = ns[j] by simp [hj]] at this
      exact this
end
section
variable {X:Cx}
variable {e st:Expr} {te:TE} {tk:TO} {pos p2:Pos}
end
end L2
namespace PySem
def RawD (h:Heap) (d:Addr) (es:Array DictEntry) (ep:Nat):Prop:=∃ o,h.get? d = some o /\ o.ExactDict /\ o.data = .dict es ep
theorem RawD.at {h h':Heap} {d:Addr} {es:Array DictEntry} {ep:Nat} (x:RawD h d es ep) (e:∀ o,h.get? d = some o -> h'.get? d = some o):RawD h' d es ep:=let ⟨o,a,b⟩:=x;⟨o,e _ a,b⟩
section
variable {prog:Program} {w:World} {A:Around} {E:Value -> Shared -> Prop} {s:Shared} {d it:Addr} {es:Array DictEntry} {ep i:Nat}
theorem XL {Q:Value -> Shared -> Prop} (hd:(d == sysModules) = false) (hm:RawD s.heap d es ep)
    (hQ:Q (.ref s.heap.objs.size) { s with heap:=s.heap.push { cls:=.type "dict_keyiterator",data:=.fields #[.ref d,.int 0 0,.int es.size 0,.int ep 0] } }):wpAny (model prog w) A (pyIter (.ref d)) Q E s:=by
  obtain ⟨o,ho,hc,hdat⟩:=hm
  have ty:s.TypeIs (.ref d) "dict" :=⟨o,ho,hc.1⟩
  refine wpAny_pyIter_slot ty F.slot_dict_iter (wpAny_call_entry F.slot_dict_iter ty F.entry_dict_iter ?go (F.args_dict_iter_1 _))
  unfold Builtin.«dict.__iter__» Builtin.Dict.dictSlotNone
  refine wpAny_bind (wpAny_bind (wpAny_notOrdered_dict ty ?go2));refine (wpAny_pure ?go3:wpAny _ _ (pure (Value.ref d)) _ _ s)
  refine (?go7:wpAny _ _ (Builtin.Dict.showsAll d >>= _) _ _ s);unfold Builtin.Dict.showsAll
  rw [if_neg (by rw [hd];exact Bool.false_ne_true)];refine wpAny_bind (wpAny_pure ?go5)
  refine wpAny_bind (wpAny_dictEntries ho hdat (wpAny_bind (wpAny_dictEpoch ho hdat (wpAny_bind (wpAny_newObj_type (wpAny_pure ⟨_,rfl, "dict_keyiterator",_,⟨_,Heap.get?_push_size _ rfl,rfl⟩,F.slot_dict_keyiterator_next.lookup,?go6⟩))))))
  simpa [rawInt] using hQ
theorem XM {e:DictEntry} {Q:Option Value -> Shared -> Prop} (hit:s.heap.IsKeyIter it d i es.size ep) (hm:RawD s.heap d es ep) (hx:es[i]? = some e)
    (hQ:∀ h',h'.IsKeyIter it d (i + 1) es.size ep -> Heap.SameBut it s.heap h' -> Q (some e.key) { s with heap:=h' }):wpAny (model prog w) A (pyNext (.ref it)) Q E s:=by
  obtain ⟨o,ho,hc,hd⟩:=id hit
  obtain ⟨od,hod,hcd,hdd⟩:=hm
  have ty:=hit.typeIs
  obtain ⟨lt,ee⟩:∃ h:i < es.size,es[i] = e:=Array.getElem?_eq_some_iff.mp hx
  unfold pyNext
  refine wpAny_bind (wpAny_attempt (wpAny_callSpecial?_slot (name:=Str.ofString "__next__") ty F.slot_dict_keyiterator_next (wpAny_call_entry F.slot_dict_keyiterator_next ty F.entry_dict_keyiterator_next ?a (F.args_dict_keyiterator_next_1 _))))
  refine wpAny_bind (wpAny_pure ?a1);refine wpAny_bind (wpAny_bind ?a2)
  first | refine wpAny_bind (wpAny_typeNameOfWhole_keyiter ty (wpAny_pure ?a3)) | refine wpAny_bind (wpAny_typeNameOf_keyiter ty (wpAny_pure ?a3))
  refine wpAny_bind (wpAny_fieldsOf ho hd ?a4)
  simp only [show Builtin.Dict_items.ownsTuple "dict_keyiterator" = false by decide,Bool.false_eq_true,if_false]
  refine (?a5:wpAny _ _ (if (Value.ref d == Value.none) = true then _ else _) _ _ s)
  rw [if_neg (show ¬ ((Value.ref d == Value.none) = true) from Bool.false_ne_true)];refine wpAny_bind (wpAny_pure (wpAny_bind (wpAny_dictEntries hod hdd ?a6)))
  rw [if_neg (by simp)];refine wpAny_bind (wpAny_pure (wpAny_bind (wpAny_dictEpoch hod hdd ?a7)))
  rw [if_neg (by simp)];refine wpAny_pure ?a8
  simp only [show ¬ ((i:Int) < 0) from by omega,if_false,Int.toNat_natCast,Array.getElem?_eq_getElem lt];refine wpAny_bind ?a9
  first | refine wpAny_bind (wpAny_typeNameOfWhole_keyiter ty (wpAny_pure ?b1)) | refine wpAny_bind (wpAny_typeNameOf_keyiter ty (wpAny_pure ?b1))
  refine wpAny_bind (wpAny_isOneOf_keyiter ty ?b2);refine (?b3:wpAny _ _ (setField (.ref it) 1 (rawInt ((i:Int) + 1)) >>= _) _ _ s)
  have hit':(s.heap.update it (Obj.mapFields (·.setIfInBounds 1 (rawInt ((i:Int) + 1))))).IsKeyIter it d (i + 1) es.size ep:=
    ⟨_,Heap.get?_update_self _ ho (Obj.isFreed_of_fields (Obj.data_mapFields hd _)),(Obj.cls_mapFields ..).trans hc,(by rw [Obj.data_mapFields hd];simp [rawInt])⟩
  refine wpAny_bind (wpAny_setField ho hd (by simp) (wpAny_bind (wpAny_holding (wpAny_bind (wpAny_isOneOf_keyiter (s:={ s with heap:=s.heap.update it (Obj.mapFields (·.setIfInBounds 1 (rawInt ((i:Int) + 1)))) }) hit'.typeIs ?b4)))))
  refine (?b5:wpAny _ _ (pure es[i].key) _ _ _)
  rw [ee];exact wpAny_pure (wpAny_pure ⟨_,rfl,wpAny_pure (hQ _ hit' (Heap.SameBut.update ..))⟩)
theorem We {Q:Option Value -> Shared -> Prop} (hh:A.handled = none) (hit:s.heap.IsKeyIter it d i es.size ep) (hm:RawD s.heap d es ep) (hx:es.size <= i)
    (hQ:∀ h',Heap.ExtBut it s.heap h' -> Q none { s with heap:=h' }):wpAny (model prog w) A (pyNext (.ref it)) Q E s:=by
  obtain ⟨o,ho,hc,hd⟩:=id hit
  obtain ⟨od,hod,hcd,hdd⟩:=hm
  have ty:=hit.typeIs
  unfold pyNext
  refine wpAny_bind (wpAny_attempt (wpAny_callSpecial?_slot (name:=Str.ofString "__next__") ty F.slot_dict_keyiterator_next (wpAny_call_entry F.slot_dict_keyiterator_next ty F.entry_dict_keyiterator_next ?a (F.args_dict_keyiterator_next_1 _))))
  refine wpAny_bind (wpAny_pure ?a1);refine wpAny_bind (wpAny_bind ?a2)
  first | refine wpAny_bind (wpAny_typeNameOfWhole_keyiter ty (wpAny_pure ?a3)) | refine wpAny_bind (wpAny_typeNameOf_keyiter ty (wpAny_pure ?a3))
  refine wpAny_bind (wpAny_fieldsOf ho hd ?a4)
  simp only [show Builtin.Dict_items.ownsTuple "dict_keyiterator" = false by decide,Bool.false_eq_true,if_false]
  refine (?a5:wpAny _ _ (if (Value.ref d == Value.none) = true then _ else _) _ _ s)
  rw [if_neg (show ¬ ((Value.ref d == Value.none) = true) from Bool.false_ne_true)];refine wpAny_bind (wpAny_pure (wpAny_bind (wpAny_dictEntries hod hdd ?a6)))
  rw [if_neg (by simp)];refine wpAny_bind (wpAny_pure (wpAny_bind (wpAny_dictEpoch hod hdd ?a7)))
  rw [if_neg (by simp)];refine wpAny_pure ?a8
  simp only [show ¬ ((i:Int) < 0) from by omega,if_false,Int.toNat_natCast,Array.getElem?_eq_none hx];refine wpAny_bind ?a9
  first | refine wpAny_bind (wpAny_typeNameOfWhole_keyiter ty (wpAny_pure ?b1)) | refine wpAny_bind (wpAny_typeNameOf_keyiter ty (wpAny_pure ?b1))
  refine (?b3:wpAny _ _ (setField (.ref it) 0 .none >>= _) _ _ s);refine wpAny_bind (wpAny_setField ho hd (by simp) ?b4)
  refine (?b5:wpAny _ _ (newExc (.type "StopIteration") [] >>= _) _ _ _);refine wpAny_bind ?b6
  simp only [newExc,newTuple];refine wpAny_bind (wpAny_newObj_type ?b7 (by size_fits))
  refine wpAny_bind (m:=firstArgMember _ _) (wpAny_of_eq (a:=Value.none) (by first | rfl | (simp only [firstArgMember];rfl)) (wpAny_newObj_type ?b8 (by size_fits)))
  simp only [raiseNew];refine wpAny_bind (wpAny_handled ?b9)
  rw [show A.in1.handled = none from hh];refine wpAny_bind (wpAny_pure (wpAny_throw ?c1))
  exact wpAny_bind (wpAny_isInstance (T:= "StopIteration") (b:=true) ⟨_,Heap.get?_push_size _ rfl,rfl⟩ isSubtype_stop (wpAny_pure (hQ _ (((Heap.SameBut.update ..).extBut.push _).push _))))
end
end PySem
namespace L2
open PySem PySem.Spec PyProof.Rows
section
variable {X:Cx} {tg:Expr}
end
section
variable {prog:Program} {w:World} {A:Around} {R:Result -> Shared -> Prop} {s:Shared}
end
def DPutT (H:Hp) (D:Addr) (y v:V) (H':Hp):Prop:=∃ kvs k b,H D = some (.dT kvs) /\ y = .ref b /\ H b = some (.tup (k.map kV)) /\ kvs.length < sizeLine /\ H' = upd H D (.dT (qq kvs k v))
theorem DPutT.t {H:Hp} {a b:Addr} {kvs:List (List Key × V)} {k:List Key} {v:V} (e:H a = some (.dT kvs)) (eb:H b = some (.tup (k.map kV))) (hl:kvs.length < sizeLine):DPutT H a (.ref b) v (upd H a (.dT (qq kvs k v))):=⟨kvs,k,b,e,rfl,eb,hl,rfl⟩
section
variable {X:Cx} {kx vx tg1 iter1:Expr} {ifs1:List Expr} {tg iter:Expr} {ifs:List Expr} {scope:Scope} {pos:Pos} {wi wi1:TI} {g g1:TG} {tf tf1:TT} {tk tv:TE}
theorem wj {pins:List (Addr × Obj)} {σ:St} {H:Hp} {s:Shared} {fp:List Addr} (own fr:List Str) (js:List Nat) (I:Inv X pins σ H s) (B:V1 scope.names X.env.scope.names X.N fr js) (hk:scope.kind = .function)
    (f2:∀ b ∈ fp,qu X pins H b) (fl:∀ b ∈ fp,b < s.heap.objs.size) {C:Addr} (hC:C = s.heap.objs.size) {h1:Heap} {m:Str -> Option Value} (hns:h1.Ns C m) (k4:∀ b o,s.heap.get? b = some o -> h1.get? b = some o) {t4:Nat} :
    Inv (zk X (own ++ fr) scope C s H fp) [] (upS own.length js σ) H { s with heap:=h1,toks:=t4 }:=by
  have hasF:∀ y ∈ scope.names,y.2 = NameKind.free -> ∃ c,X.env.cells.lookup y.1 = some c:=fun y hy e=>I.ok.has y.1 (B.free y hy e)
  refine ⟨⟨I.ok.mod,hk,I.ok.glob,I.ok.blt,Nat.le_of_eq hC.symm,fun x y c e1 e2=>?_,fun x hx=>?_,fun x c hf=>(nomatch hf),fun hc=>I.ok.hd hc,I.ok.frames,.inl rfl,fun b hb=>?_,I.bs,Nat.le_trans I.ok.bsz I.sz,fun b o e hb=>?_,fun b hb hf=>?_,I.stack,I.stkFree⟩,
    rfl,I.bare,Un.kept k4,⟨m,hns,fun i x v e1 e2 e3'=>?_⟩,fun x c e=>?_,?_,fun x c e=>?_,fun p hp=>absurd (show p ∈ ([]:List (Addr × Obj)) from hp) (by simp),I.hok.kept k4,?_⟩
  · exact I.ok.inj x y c (zA e1 hasF) (zA e2 hasF)
  · obtain ⟨k,e,z⟩:∃ k,scope.names.lookup x = some k /\ (k = .free):=by
      rcases hx with hx | hx
      · obtain ⟨k,e,z⟩:=jE hx
        rcases z with z | z
        · subst z;exact absurd rfl (B.cell _ (PySem.mem_of_lookup e))
        · exact ⟨k,e,z.1⟩
      · obtain ⟨k,e,z⟩:=jE hx
        rcases z with z | z
        · subst z;exact ⟨_,e,rfl⟩
        · exact ⟨k,e,z.1⟩
    subst z
    exact ⟨_,j4 e⟩
  · refine ⟨by rw [hC];exact Nat.ne_of_lt (fl b hb),fun x c e=>?_⟩
    exact (f2 b hb).2.2.2.2.1 x c (zA e hasF)
  · rcases (f2 b hb).2.2.2.1 with z | z
    · exact I.ok.noex b o e z
    · exact absurd (Nat.lt_of_lt_of_le (Heap.lt_size (I.ok.bs b o e).1) z) (Nat.lt_irrefl _)
  · rcases List.mem_cons.mp (I.stkSub b hf) with y | y
    · exact (f2 b hb).2.1 y
    · exact (f2 b hb).2.2.1 y
  · obtain ⟨hn,_,j,ej,es⟩:=qG e2
    have ex:fr[i - own.length]? = some x:=by rw [List.getElem?_append_right hn] at e1;exact e1
    obtain ⟨hfx,j',ej',eN⟩:=B.fr _ x ex
    have:j' = j:=by rw [ej] at ej';exact (Option.some.inj ej').symm
    subst this
    have hkx:=B.free _ (PySem.mem_of_lookup hfx) rfl
    obtain ⟨m0,_,hl⟩:=I.loc
    obtain ⟨u,r,l⟩:=hl j' x v eN es (by rcases hkx with z | z;exact .inr (.inl z);exact .inr (.inr z))
    refine ⟨u,r,.inr ?_⟩
    rcases l with ⟨kl,_⟩ | ⟨_,c,ec,o,eo,ed⟩
    · have kl':X.env.scope.names.lookup x = some .local:=kl
      rcases hkx with z | z
      · exact absurd (z.symm.trans kl') (by decide)
      · exact absurd (z.symm.trans kl') (by decide)
    · obtain ⟨k',e',z⟩:=xc (env:=X.env) hfx
      have eq:(zL X.env.cells scope.names []).lookup x = some c:=by rw [j4 hfx,ec];rfl
      refine ⟨?_,c,eq,o,k4 c o eo,ed⟩
      rcases z with z | z
      · subst z;exact .inl e'
      · subst z;exact .inr e'
  · obtain ⟨v,o,eo,ed⟩:=I.cell x c (zA e hasF)
    exact ⟨v,o,k4 c o eo,ed⟩
  · exact I.hok.fresh (Nat.le_of_eq hC.symm)
  · exact I.freeC x c (zA e hasF)
  · rw [Qw,<- B.len]
    show _ = (own ++ fr).length
    rw [List.length_append]
end
section
variable {X:Cx} {kx vx tg1 iter1:Expr} {ifs1:List Expr} {tg iter:Expr} {ifs:List Expr} {scope:Scope} {pos:Pos} {wi wi1:TI} {g g1:TG} {tf tf1:TT} {tk tv:TE}
end
structure BlkOkC (sn on:List (Str × NameKind)) (N:List Str) (x:Str) (fr:List Str) (js:List Nat):Prop where
  one:(sn.filter fun y=>y.2 == .cell) = [(x,.cell)]
  lk:sn.lookup x = some .cell
  nd:([x] ++ fr).Nodup
  loc:∀ y ∈ sn,y.2 = NameKind.local -> sn.lookup y.1 = some .local
  free:∀ y ∈ sn,y.2 = NameKind.free -> on.lookup y.1 = some .cell \/ on.lookup y.1 = some .free
  len:fr.length = js.length
  fr:∀ (k:Nat) (x:Str),fr[k]? = some x -> sn.lookup x = some .free /\ ∃ j:Nat,js[k]? = some j /\ N[j]? = some x
theorem BlkOkC.is {sn on:List (Str × NameKind)} {N:List Str} {x:Str} {fr:List Str} {js:List Nat} (B:BlkOkC sn on N x fr js) {y:Str × NameKind} (h:y ∈ sn) (e:y.2 = .cell):y.1 = x:=by
  have:y ∈ sn.filter fun y=>y.2 == .cell:=List.mem_filter.mpr ⟨h,by rw [e];rfl⟩
  rw [B.one,List.mem_singleton] at this
  rw [this]
section
variable {X:Cx} {elt tg iter:Expr} {ifs:List Expr} {scope:Scope} {pos:Pos} {wi:TI} {g:TG} {tf:TT} {te:TE} {x:Str}
end
end L2
namespace L2
end L2
namespace L2
open PySem PySem.W PySem.Spec PyProof.Rows
abbrev bmV:List Value:=[.type "ValueError",.type "Exception",.type "BaseException",.type "object"]
def zbk (K:Frag) (C:Addr) (ini:Option Value):Bool:=match K.lookup C with
  | some ⟨.type "type",_,.cls cd,sl⟩=>(match cd.mro with
    | .ref C' :: bm=>(match sl.toList with
      | [_,_,_,_,some (.builtin n),_]=>C' == C && (n == "ValueError.__new__" && (!cd.hasDel && (tailIn K bmV bm && (nsOkIn K cd.ns && nsIn K cd.ns "__init__" == some ini))))
      | _=>false)
    | _=>false)
  | _=>false
structure Xc (h:Heap) (C:Addr) (ini:Option Value):Prop where
  is:∃ (bm:List Value) (N:Addr) (nm qn:Str) (bs:List Value) (hd:Bool) (sn:List Str) (sub:List Value) (ab:Bool) (col:Option Bool) (dd:Option Addr) (k0 k1 k2 k3 k5:Option Value) (mN:Str -> Option Value),
    h.get? C = some (excClassObj nm qn C N bs bm hd sn sub ab col dd k0 k1 k2 k3 k5 "ValueError.__new__") /\ h.Ns N mN /\ mN "__init__" = ini /\ OwnTail h bmV bm
end L2
namespace L2
open PySem PySem.W PySem.Spec PyProof.Rows
section
variable {P:Program} {w:World} {H:Hp} {h h':Heap} {a:Addr} {o:HO}
theorem ObjOk.has (x:ObjOk P w H h a o):∃ u,h.get? a = some u:=by
  cases o with
  | lst xs=>obtain ⟨_,_,_,_,e⟩:=x;exact ⟨_,e⟩
  | tup xs=>obtain ⟨_,_,_,⟨u,e,_⟩,_⟩:=x;exact ⟨u,e⟩
  | dK kvs=>obtain ⟨_,_,_,_,u,_,_,e,_⟩:=x;exact ⟨u,e⟩
  | dT kvs=>obtain ⟨_,_,_,_,u,_,_,e,_⟩:=x;exact ⟨u,e⟩
  | set S n=>obtain ⟨u,_,_,_,e,_⟩:=x;exact ⟨u,e⟩
  | ins C dx fs=>obtain ⟨_,_,_,e,_⟩:=x;exact ⟨_,e⟩
  | own y=>obtain ⟨u,e⟩:=x;exact ⟨u,e⟩
  | xd fs=>obtain ⟨_,⟨u,_,_,e,_⟩,_⟩:=x;exact ⟨u,e⟩
  | rng lo hi=>obtain ⟨_,_,_,e⟩:=x;exact ⟨_,e⟩
  | frz ob u=>obtain ⟨e,_⟩:=x;exact ⟨_,e⟩
  | tbl ps=>exact ⟨_,show h.get? a = some _ from x⟩
  | met f y=>exact ⟨_,show h.get? a = some _ from x⟩
  | ext φ=>obtain ⟨_,⟨u,e⟩,_⟩:=x;exact ⟨u,e⟩
theorem HOk.none_of (x:HOk P w H h) (e:h.get? a = none):H a = none:=by
  cases q:H a with
  | none=>rfl
  | some u=>obtain ⟨z,ez⟩:=(x a u q).has;rw [e] at ez;cases ez
end
section
variable {X:Cx} {pins:List (Addr × Obj)} {σ:St} {H:Hp} {s:Shared} {h':Heap}
theorem Inv.laidN {a:Addr} {o:HO} {t':Nat} (I:Inv X pins σ H s) (k:∀ b u,s.heap.get? b = some u -> h'.get? b = some u) (hn:s.heap.get? a = none) (new:ObjOk X.prog X.w (upd H a o) h' a o) :
    Inv X pins σ (upd H a o) { s with heap:=h',toks:=t' }:=by
  have hH:=I.hok.none_of hn
  have ne:∀ b u,s.heap.get? b = some u -> b ≠ a:=fun b u q z=>by rw [z,hn] at q;cases q
  have neH:∀ b u,H b = some u -> b ≠ a:=fun b u q z=>by rw [z,hH] at q;cases q
  refine I.un ⟨fun b u q _ _ _=>k b u q,fun b u q _ _ _=>⟨u.slots,k b u q⟩,fun b u q n _=>by rw [zi (ne b u q)];exact n,fun b u q _=>⟨u,k b u q⟩,
    fun b xs q=>by rw [zi (neH b _ q)];exact q,fun b u xs q=>by rw [zi (neH b _ q)];exact q,fun b ps q=>⟨#[],by rw [zi (neH b _ q),q];simp⟩⟩ ?_
  intro b u e
  by_cases hb:b = a
  · subst hb;rw [zc] at e;cases e;exact new
  · rw [zi hb] at e
    exact (I.hok b u e).stay (fun c v _ q=>k c v q) (fun c q=>by rw [zi (neH c _ q)];exact q) fun c xs q=>by rw [zi (neH c _ q)];exact q
end
section
variable {prog:Program} {w:World} {A:Around} {E:Value -> Shared -> Prop} {h:Heap} {g:Array GenState} {d:Drawn} {t:Nat} {os:OsState} {C:Addr}
end
section
variable {prog:Program} {w:World} {A:Around} {E:Value -> Shared -> Prop} {h:Heap} {g:Array GenState} {d:Drawn} {t:Nat} {os:OsState}
variable {nm q:Str} {C N:Addr} {bs bm:List Value} {hdct:Bool} {sn:List Str} {sub:List Value} {ab:Bool} {col:Option Bool} {dd:Option Addr} {k0 k1 k2 k3 k5:Option Value}
end
end L2
namespace L2
open PySem PySem.W PySem.Spec PyProof.Rows
structure XK2 (K:Frag) (C:Addr) (ini:Option Value):Prop where
  cls:zbk K C ini = true
  sa:findIn K (.ref C) "__setattr__" = some (some (.builtin "object.__setattr__"))
  ga:findIn K (.ref C) "__getattribute__" = some (some (.builtin "BaseException.__getattribute__"))
  gh:findIn K (.ref C) "__getattr__" = some none
  ob:mroIn K C (.type "object") = some true
  be:mroIn K C (.type "BaseException") = some true
  hd:hasDictIn K C = true
section
variable {prog:Program} {w:World} {A:Around} {E:Value -> Shared -> Prop} {h:Heap} {g:Array GenState} {d:Drawn} {t:Nat} {os:OsState} {K:Frag} {C e t0:Addr} {ini:Option Value} {f:Str} {v:Value}
end
end L2
namespace L2
open PySem PySem.W PySem.Spec PyProof.Rows
section
variable {prog:Program} {w:World} {A:Around} {E:Value -> Shared -> Prop} {h:Heap} {g:Array GenState} {d:Drawn} {t:Nat} {os:OsState} {K:Frag} {C e t0 dx:Addr} {od:Option Addr} {ini:Option Value} {f:Str} {v:Value} {mA:Str -> Option Value}
end
end L2
namespace L2
open PySem PySem.W PySem.Spec PyProof.Rows
structure XKc (K:Frag) (C:Addr):Prop where
  lk:findIn K (.ref C) "__class__" = some (some (.builtin "object.__class__"))
  gt:specialIn K (.builtin "object.__class__") "__get__" = some (some (.builtin "getset_descriptor.__get__"))
  tk:takesIn K (.builtin "object.__class__") = some true
section
variable {prog:Program} {w:World} {A:Around} {E:Value -> Shared -> Prop} {h:Heap} {g:Array GenState} {d:Drawn} {t:Nat} {os:OsState} {K:Frag} {C C' e t0:Addr} {dx:Option Addr} {ini:Option Value} {od:Option Obj}
end
end L2
namespace L2
open PySem PySem.W PySem.Spec PyProof.Rows
structure XOk (K:Frag) (C:Addr) (ini:Option Value):Prop where
  k:XK2 K C ini
  c:XKc K C
  kp:keepIn K (.ref C) = true
  ty:typeIn K (.ref C) = some (.type "type")
  cd:∃ cd,clsIn K C = some cd
  ve:mroIn K C (.type "ValueError") = some true
section
variable {X:Cx} {CX:CXT} {k:Nat} {f C:Addr} {fd:FuncData} {ps:List Str} {ds:List Value} {dvs:List V} {sp:Sp} {E:XK} {x m:Str} {p pos apos:Pos} {e o value:Expr} {es:List Expr} {t:TA} {ta tv:TE} {ini:Option Value}
end
end L2
namespace L2
open PySem PySem.W PySem.Spec PyProof.Rows
section
variable {X:Cx}
end
structure Xs (K:Frag) (mg:Str -> Option Value) (x:Str) (C:Addr) (ini:Option Value):Prop where
  ok:XOk K C ini
  gl:mg x = some (.ref C)
structure XsI (P:Program) (w:World) (K:Frag) (mg:Str -> Option Value) (base:Heap) (x:Str) (C f:Addr) (k:Nat) (ps:List Str) (sp:Sp):Prop extends Xs K mg x C (some (.ref f)) where
  ex:∃ fd oF,FnOk P w K mg base CX0 k f fd ps sp /\ K.lookup f = some oF /\ oF.cls = .type "function" /\ Binds K fd ps []
section
variable {X:Cx} {x:Str} {k:Nat} {C f:Addr} {ps:List Str} {sp:Sp} {p pos:Pos} {e:Expr} {es:List Expr} {t:TA}
end
end L2
namespace L2
open PySem PySem.Spec PyProof.Rows
theorem yZ:∀ {us:List Value} {ns:List Int},IntsAre us ns -> Vals (ns.map V.int) us
  | _,_,.nil=>.nil
  | _,_,.cons n t r=>.cons ⟨t,rfl⟩ (yZ r)
theorem wL:∀ {us:List Value} {ns:List Str},StrsAre us ns -> Vals (ns.map V.str) us
  | _,_,.nil=>.nil
  | _,_,.cons n t r=>.cons ⟨t,rfl⟩ (wL r)
section
variable {X:Cx}
inductive jQ (K:PySem.W.Frag) (xs:List V) (H:Hp) (Q:VK):Prop
  | mk (a:Addr) (ns:List Int) (_:xs = [.ref a]) (_:SqL K H a (ns.map V.int)) (_:ns.length < 64) (_:∀ (p:Addr) (ms:List Int),H p = none -> ms.Perm ns -> ms.Pairwise (· <= ·) -> Q (.ref p) (upd H p (.lst (ms.map V.int)))):jQ K xs H Q
theorem yO:CallR X (.builtin "sorted") (jQ X.K):=by
  intro pins s σ H xs us Q I r h
  obtain ⟨a,ns,rfl,hx,hl,q⟩:=h
  obtain ⟨u,rfl,ru⟩:=Vals.one r
  cases (show u = Value.ref a from ru)
  obtain ⟨its,r',pl,hz⟩:=I.list hx
  have len:=r'.length
  rw [List.length_map] at len
  refine sorted_ints pl.isList (Ql r') (by omega) fun out ms a1 a2 a3=>?_
  obtain ⟨e,he⟩:=sortedAll_at s.heap its out
  have hn:H (s.heap.objs.size + 1) = none:=I.hok.fresh (Nat.le_succ _)
  refine ⟨.ref (s.heap.objs.size + 1),_,I.laid (a:=s.heap.objs.size + 1) (o:=.lst (ms.map V.int)) (t':=s.toks) (fun _ _=>sortedAll_old) (Nat.le_succ _) ⟨?_,out.toList,e,yZ a1,?_⟩,rfl,q _ ms hn a2 a3⟩
  · rw [List.length_map,a2.length_eq,sizeLine_eq];omega
  · rw [he]
end
section
variable {prog:Program} {w:World} {κ:Type} [DecidableEq κ] {knd:PySem.KeyKind prog w κ} {A:Around} {E:Value -> Shared -> Prop} {s:Shared}
theorem Xy {d:Addr} {kvs:List (κ × Value)} {k:κ} {key dflt:Value} {Q:Value -> Shared -> Prop} (hkey:knd.is k key = true) (hm:s.heap.DictOf knd d kvs) (hsz:kvs.length <= sizeLine)
    (hthere:∀ v,valueAt kvs k = some v -> Q v { s with toks:=s.toks + 1 })
    (hnew:valueAt kvs k = none -> ∀ h',h'.DictOf knd d (stored kvs k dflt) -> Heap.SameBut d s.heap h' -> Q dflt { s with heap:=h',toks:=s.toks + 1 }) :
    wpAny (model prog w) A (dictSetDefault d key dflt) Q E s:=by
  obtain ⟨o,es,ep,ho,hc,hd,hk,hp,hn⟩:=id hm
  obtain ⟨o',es',ep',ho',-,hd',-,hf⟩:=hm.mapOf
  rw [ho] at ho'
  injection ho' with ho'
  subst ho'
  rw [hd] at hd'
  injection hd' with hd1 hd2
  subst hd1
  have hes:es.size <= sizeLine:=by
    have e1:=hp.length
    have e2:es.toList.length = es.size:=by simp
    omega
  have at_:(es.findIdx? fun en=>knd.is k en.key) = kvs.findIdx? fun p=>decide (p.1 = k):=by
    obtain ⟨l⟩:=es
    rw [<- hp.findIdx k]
    simp
  unfold dictSetDefault
  refine wpAny_holding (wpAny_bind (knd.pyHash hkey (wpAny_bind (wpAny_dictFind_of (s:={ s with toks:=s.toks + 1 }) hkey ho hd hk ?_))))
  cases hi:es.findIdx? fun en=>knd.is k en.key with
  | some i=>
    have hlt:i < es.size:=(Array.findIdx?_eq_some_iff_findIdx_eq.mp hi).1
    have hfk:valueAt kvs k = (es[i]?).map (·.val):=by rw [<- hf k,findBy_of_findIdx?,hi]
    rw [Array.getElem?_eq_getElem hlt] at hfk
    refine wpAny_bind (wpAny_dictEntries (s:={ s with toks:=s.toks + 1 }) ho hd ?_)
    rw [Array.getElem?_eq_getElem hlt]
    exact wpAny_bind (wpAny_rule (wpAny_pure (hthere _ hfk)))
  | none=>
    have fresh:k ∉ kvs.map (·.1):=not_mem_of_findIdx_none (at_ ▸ hi)
    have hany:¬ (kvs.any fun kv=>decide (kv.1 = k)) = true:=fun z=>by
      obtain ⟨kv,h1,h2⟩:=List.any_eq_true.mp z
      exact fresh (List.mem_map.mpr ⟨kv,h1,of_decide_eq_true h2⟩)
    have hfk:valueAt kvs k = none:=by rw [<- hf k,findBy_of_findIdx?,hi]
    have est:stored kvs k dflt = kvs ++ [(k,dflt)]:=by rw [stored,if_neg hany]
    refine wpAny_bind (wpAny_rule (wpAny_bind (wpAny_updateDictKeys (s:={ s with toks:=s.toks + 1 }) (hz:=hes) ho hd (wpAny_pure (hnew hfk _ ?_ (Heap.SameBut.update ..))))))
    rw [est]
    refine ⟨_,_,ep + 1,Heap.get?_update_self _ ho (Obj.isFreed_of_dict (Obj.data_mapDictKeys hd _)),hc.mapDictKeys _,Obj.data_mapDictKeys hd _,hk.push hkey _,?_,?_⟩
    · have z:=hp.append hkey (knd.hash k) dflt
      obtain ⟨l⟩:=es
      simpa using z
    · rw [List.map_append,List.nodup_append]
      refine ⟨hn,by simp,fun a ha b hb z=>fresh ?_⟩
      rw [show List.map (·.1) [(k,dflt)] = [k] from rfl,List.mem_singleton] at hb
      rw [<- hb,<- z]
      exact ha
end
section
variable {prog:Program} {w:World} {κ:Type} [DecidableEq κ] {knd:PySem.KeyKind prog w κ}
theorem Vn {d:Addr} {k:κ} {key x:Value} (hkey:knd.is k key = true) (hs:(d == sysModules) = false) :
    MeetsIn prog w (Builtin.«dict.setdefault» ⟨[.ref d,key,x],[]⟩) (fun _ R s=>∃ kvs,s.heap.DictOf knd d kvs /\ kvs.length <= sizeLine /\ (∀ v,valueAt kvs k = some v -> R (.ok (.ret v)) { s with toks:=s.toks + 1 }) /\
      (valueAt kvs k = none -> ∀ h',h'.DictOf knd d (stored kvs k x) -> Heap.SameBut d s.heap h' -> R (.ok (.ret x)) { s with heap:=h',toks:=s.toks + 1 })):=
  .of_wp fun A R s ⟨kvs,hm,hz,h1,h2⟩=>by
    delta Builtin.«dict.setdefault» Builtin.Dict.keyAndDefault
    refine wpAny_bind (wpAny_bind (wpAny_notOrdered_dict hm.typeIs (wpAny_pure (a:=(d,key,some x)) ?_)))
    have off:¬ (d == sysModules) = true:=by rw [hs];exact Bool.false_ne_true
    refine (show wpAny _ _ (if (d == sysModules) = true then _ else (dictSetDefault d key x >>= _)) _ _ _ from ?_)
    rw [if_neg off]
    exact wpAny_bind (Xy hkey hm hz (fun v hv=>wpAny_pure ⟨v,rfl,h1 v hv⟩) fun hn h' hm' hs'=>wpAny_pure ⟨x,rfl,h2 hn h' hm' hs'⟩)
end
section
variable {X:Cx} {td ty tx:TE} {o e f:Expr} {apos cpos:Pos}
def zbt (td ty tx:TE):TE:=fun σ H Q=>td σ H fun x H1=>∃ a,x = .ref a /\ IsD H1 a /\ ty σ H1 fun y H2=>tx σ H2 fun z H3=>∃ kvs k,H3 a = some (.dK kvs) /\ y = kV k /\ kvs.length < sizeLine /\
  (∀ v,zK kvs k = some v -> Q v H3) /\ (zK kvs k = none -> Q z (upd H3 a (.dK (qq kvs k z))))
theorem YZ (ho:PE X o td) (he:PE X e ty) (hf:PE X f tx) (m:M2 X o "setdefault" apos e f cpos):PE X (.Call (.Attribute o "setdefault" apos) [e,f] [] cpos) (zbt td ty tx):=by
  intro pins s σ H Q I h
  refine wpAny_Call_method m.base m.few m.line PySem.F.plainAttrs_dict PySem.F.slot_dict_setdefault PySem.F.type_dict_setdefault (thn (ho pins s σ H _ I h) fun u s1 ⟨x,H1,I1,rx,a,ex,d,q1⟩=>?_)
  subst ex
  obtain rfl:u = Value.ref a:=rx
  obtain ⟨t1,t2,_⟩:=VB I1 d
  refine ⟨t1,t2,?_⟩
  rw [m.trees]
  refine Calls.callWith_builtin rfl (Calls.evalArgs_plain (Calls.spliced_cons (thn (he pins s1 σ H1 _ I1 q1) fun iv s2 ⟨y,H2,I2,ry,q2⟩=>
    Calls.spliced_cons (thn (hf pins s2 σ H2 _ I2 q2) fun fv s3 ⟨z,H3,I3,rz,kvs,k,ea,ey,l,g1,g2⟩=>Calls.spliced_nil ?_))))
  subst ey
  obtain ⟨zz,hd,vs,rel,dd⟩:=Q7 I3.hok ea
  have hz:vs.length <= sizeLine:=by rw [<- rel.length];exact zz
  refine call_meetsIn PySem.F.slot_dict_setdefault dd.typeIs PySem.F.entry_dict_setdefault (PySem.F.args_dict_setdefault_3 _ _ _) (Vn (knd:=zq X.prog X.w) (jL ry) hd) ⟨vs,dd,hz,fun v hv=>?_,fun hn h' dd' hs=>?_⟩
  · have rv:=rel.val k
    rw [hv] at rv
    cases ev:zK kvs k with
    | none=>rw [ev] at rv;exact rv.elim
    | some v'=>
      rw [ev] at rv
      exact ⟨v',H3,I3.tok _,rv,g1 v' ev⟩
  · have rv:=rel.val k
    rw [hn] at rv
    have ev:zK kvs k = none:=by
      cases ev:zK kvs k with
      | none=>rfl
      | some v'=>rw [ev] at rv;exact rv.elim
    have hl:(qq kvs k z).length <= sizeLine:=by have:=qh kvs k z;omega
    have ee:∃ q,h'.get? a = some q:=let ⟨q,_,_,hq,_⟩:=dd';⟨q,hq⟩
    exact ⟨z,_,jZ I3 (by rw [ea];exact True.intro) hs ee (yL hl hd (rel.put k rz) dd'),rz,g2 ev⟩
end
theorem Yu {P:Program} {w:World} {k:Key} {u:Value} (h:(zq P w).is k u = true):RelV (kV k) u:=by
  rw [Qi] at h
  rcases zH h with ⟨i,t,rfl,rfl⟩ | ⟨x,t,rfl,rfl⟩
  · exact ⟨t,rfl⟩
  · exact ⟨t,rfl⟩
theorem KV.get:∀ {kvs:List (Key × V)} {vs:List (Key × Value)} {j:Nat} {q:Key × Value},KV kvs vs -> vs[j]? = some q -> ∃ p,kvs[j]? = some p /\ p.1 = q.1 /\ RelV p.2 q.2
  | _,_,j,_,.nil,e=>by simp at e
  | _,_,0,_,.cons h _,e=>by simp at e;subst e;exact ⟨_,rfl,h⟩
  | _,_,j + 1,_,.cons _ t,e=>by
    obtain ⟨p,e1,r⟩:=KV.get (j:=j) t (by simpa using e)
    exact ⟨p,by simpa using e1,r⟩
section
variable {X:Cx}
end
section
variable {X:Cx} {td ty:TE} {o e:Expr} {apos cpos:Pos}
end
section
variable {X:Cx}
end
def V0 (d:Addr) (o:Obj) (kvs:List (Key × V)):It:=
  ⟨fun i H=>H d = some (.frz o (.dK kvs)) /\ i < kvs.length,fun i H x H'=>H' = H /\ ∃ k v,kvs[i]? = some (k,v) /\ x = kV k,fun i H=>H d = some (.frz o (.dK kvs)) /\ kvs.length <= i⟩
theorem wY {P:Program} {w:World}:∀ {es:List DictEntry} {vs:List (Key × Value)},Pairs (zq P w) es vs -> ∀ {i:Nat} {q:Key × Value},vs[i]? = some q -> ∃ en,es[i]? = some en /\ (zq P w).is q.1 en.key = true
  | _,_,.nil,_,_,h=>by simp at h
  | _,_,.cons h1 _ t,0,_,h=>by simp at h;subst h;exact ⟨_,rfl,h1⟩
  | _,_,.cons _ _ t,i + 1,_,h=>by
    obtain ⟨en,e,r⟩:=wY t (i:=i) (by simpa using h)
    exact ⟨en,by simpa using e,r⟩
theorem KV.back:∀ {kvs:List (Key × V)} {vs:List (Key × Value)} {j:Nat} {p:Key × V},KV kvs vs -> kvs[j]? = some p -> ∃ q,vs[j]? = some q /\ p.1 = q.1
  | _,_,j,_,.nil,e=>by simp at e
  | _,_,0,_,.cons h _,e=>by simp at e;subst e;exact ⟨_,rfl,h.1⟩
  | _,_,j + 1,_,.cons _ t,e=>by
    obtain ⟨q,e1,r⟩:=KV.back (j:=j) t (by simpa using e)
    exact ⟨q,by simpa using e1,r⟩
theorem ZF {P:Program} {w:World} {H:Hp} {h:Heap} {d:Addr} {o:Obj} {kvs:List (Key × V)} {es:Array DictEntry} {ep:Nat} (ok:HOk P w H h) (e:H d = some (.frz o (.dK kvs))) (he:o.data = .dict es ep):RawD h d es ep /\ es.size = kvs.length /\
    ∀ (i:Nat) (k:Key) (v:V),kvs[i]? = some (k,v) -> ∃ en:DictEntry,es[i]? = some en /\ RelV (kV k) en.key:=by
  obtain ⟨e1,z,y,vs,r,o',es',ep',h1,h2,h3,h4,h5,h6⟩:=(show ObjOk P w H h d (.frz o (.dK kvs)) from ok d _ e)
  rw [e1] at h1
  cases h1
  rw [he] at h3
  cases h3
  have l1:=h5.length
  have l2:=r.length
  have l3:es.toList.length = es.size:=Array.length_toList
  refine ⟨⟨o,e1,h2,he⟩,by omega,fun i k v hk=>?_⟩
  obtain ⟨q,e2,e3⟩:=KV.back r hk
  obtain ⟨en,e4,e5⟩:=wY h5 e2
  have e3:k = q.1:=e3
  exact ⟨en,by rw [<- Array.getElem?_toList];exact e4,by rw [e3];exact Yu e5⟩
theorem ZU {P:Program} {w:World} {K:PySem.W.Frag} {tg:Expr} (d it:Addr) (o:Obj) (kvs:List (Key × V)) (es:Array DictEntry) (ep:Nat) (he:o.data = .dict es ep):wJ P w K tg (V0 d o kvs) [it] it (fun i h=>h.IsKeyIter it d i es.size ep) where
  mem:=by simp
  obj:=fun i h st b hb=>by
    have e:b = it:=by simpa using hb
    subst e
    obtain ⟨o,e,c,d⟩:=st
    exact ⟨o,e,fun v z=>by rw [d] at z;cases z⟩
  keep:=fun i h h' st k=>st.at fun o e=>k it (by simp) o e
  item:=by
    intro X hP hw hK hc i pins s σ H E I hf st hg
    subst hP hw hK
    obtain ⟨hd,hi⟩:=hg
    obtain ⟨rd,sz,all⟩:=ZF I.hok hd he
    obtain ⟨⟨k,v⟩,hx⟩:∃ p,kvs[i]? = some p:=⟨kvs[i],by simp [hi]⟩
    obtain ⟨en,hen,ek⟩:=all i k v hx
    obtain ⟨f0,f1,f2,f3,f4,f5⟩:=hf it (by simp)
    refine XM st rd hen fun h' st' sb=>?_
    have I1:Inv X pins σ H { s with heap:=h' }:=I.turned (t':=s.toks) (fun b o hb e=>(sb.2 b hb).trans e) f0 f1 f3 f4 f5
    obtain ⟨o',e',c',d'⟩:=id st'
    exact ⟨_,rfl,Q5 (s:={ s with heap:=h' }) e' c' d' (by decide) ⟨kV k,H,I1,ek,⟨rfl,k,v,hx,rfl⟩,st',fun b hb=>(hf b hb).1⟩⟩
  done:=by
    intro X hP hw hK hc i pins s σ H E I hf st hg
    subst hP hw hK
    obtain ⟨hd,hi⟩:=hg
    obtain ⟨rd,sz,_⟩:=ZF I.hok hd he
    obtain ⟨f0,f1,f2,f3,f4,f5⟩:=hf it (by simp)
    exact We (I.ok.hd hc) st rd (by omega) fun h' eb=>⟨rfl,I.turned (t':=s.toks) (fun b o hb e=>eb b o hb e) f0 f1 f3 f4 f5⟩
  self:=fun _ _ _ _ _ st h=>wpAny_pyIter_keyiter st h
section
variable {X:Cx} {tg:Expr}
def zam (td:TE):TI:=fun σ H R=>td σ H fun x H1=>∃ d kvs,x = .ref d /\ H1 d = some (.dK kvs) /\ ∀ o,R (V0 d o kvs) (upd H1 d (.frz o (.dK kvs)))
theorem X1 {l:Expr} {tl:TE} (hl:PE X l tl):PI X tg l (zam tl):=by
  intro pins s σ H R I h
  refine thn (hl pins s σ H _ I h) fun v s1 ⟨x,H1,I1,r1,q1⟩=>?_
  obtain ⟨d,kvs,e,hd,q⟩:=q1
  subst e
  cases r1
  obtain ⟨z,y,vs,r,o,es,ep,h1,h2,h3,h4,h5,h6⟩:=(show ObjOk X.prog X.w H1 s1.heap d (.dK kvs) from I1.hok d _ hd)
  refine XL y ⟨o,h1,h2,h3⟩ ?_
  have I2:Inv X pins σ (upd H1 d (.frz o (.dK kvs))) { s1 with heap:=s1.heap.push { cls:=.type "dict_keyiterator",data:=.fields #[.ref d,.int 0 0,.int es.size 0,.int ep 0] },toks:=s1.toks }:=by
    refine I1.write (x:=d) (e:=d) (by rw [hd];exact True.intro) (.inl rfl) (fun b u _ e=>Heap.get?_push_of_some _ e) ⟨o,Heap.get?_push_of_some _ h1⟩ ?_
    exact ⟨Heap.get?_push_of_some _ h1,z,y,vs,r,o,es,ep,Heap.get?_push_of_some _ h1,h2,h3,h4,h5,h6⟩
  refine ⟨s1.heap.objs.size,[s1.heap.objs.size],_,_,_,rfl,I2,ZU d _ o kvs es ep h3,⟨_,Heap.get?_push_size _ rfl,rfl,rfl⟩,fun b hb=>?_,q o⟩
  have e:b = s1.heap.objs.size:=by simpa using hb
  subst e
  refine I1.fpOk (Nat.le_refl _) ?_
  rw [zi (Ne.symm (zg hd (I1.hok.fresh (Nat.le_refl _))))]
  exact I1.hok.fresh (Nat.le_refl _)
end
theorem Vx {d:Addr} {o:Obj} {kvs:List (Key × V)} {n:Nat} {g:TG} {tf:TT} {te:TE} {σ0:St} {R:List V -> Hp -> Prop} {H:Hp} (Pv:Nat -> List V -> Hp -> Prop) (h0:Pv 0 [] H)
    (h1:∀ i zs H,Pv i zs H -> H d = some (.frz o (.dK kvs)))
    (hs:∀ i k v zs H,kvs[i]? = some (k,v) -> Pv i zs H -> g (kV k) σ0 H fun σ4 H4=>σ4.drop n = σ0.drop n /\ tf σ4 H4 fun b H5=>if b = true then te σ4 H5 fun v H6=>zs.length < sizeLine /\ Pv (i + 1) (zs ++ [v]) H6 else Pv (i + 1) zs H5)
    (hd:∀ zs H,Pv kvs.length zs H -> zs.length <= sizeLine /\ R zs H) :
    ∃ W:Nat -> Nat -> List V -> Hp -> Prop,(∃ m,W 0 m [] H) /\ ∀ i m zs H2,W i m zs H2 ->
      ((V0 d o kvs).stop i H2 /\ zs.length <= sizeLine /\ R zs H2) \/
      ((V0 d o kvs).go i H2 /\ ∃ M:List V -> Hp -> Prop,(∀ zs H',M zs H' -> ∃ m',m' < m /\ W (i + 1) m' zs H') /\ ∀ x H3,(V0 d o kvs).yld i H2 x H3 -> g x σ0 H3 fun σ4 H4=>σ4.drop n = σ0.drop n /\ tf σ4 H4 fun b H5=>
        if b = true then te σ4 H5 fun y H6=>zs.length < sizeLine /\ M (zs ++ [y]) H6 else M zs H5):=by
  refine ⟨fun i m zs H2=>m = kvs.length - i /\ i <= kvs.length /\ Pv i zs H2,⟨_,rfl,Nat.zero_le _,h0⟩,?_⟩
  rintro i m zs H2 ⟨rfl,hi,p⟩
  by_cases hlt:i < kvs.length
  · refine .inr ⟨⟨h1 i zs H2 p,hlt⟩,Pv (i + 1),fun zs' H' p'=>⟨_,by omega,rfl,hlt,p'⟩,fun x H3 y=>?_⟩
    obtain ⟨e,k,v,hk,rfl⟩:=y
    subst e
    exact hs i k v zs _ hk p
  · have e:i = kvs.length:=by omega
    subst e
    obtain ⟨z1,z2⟩:=hd zs H2 p
    exact .inl ⟨⟨h1 _ zs H2 p,Nat.le_refl _⟩,z1,z2⟩
section
variable {X:Cx} {tg:Expr}
def zbz (K:PySem.W.Frag) (tl:TE):TI:=fun σ H R=>tl σ H fun x H1=>∃ a,x = .ref a /\ (((∃ xs,SqL K H1 a xs) /\ R (Itl K a) H1) \/ ((∃ xs,SqT K H1 a xs) /\ R (Itt K a) H1))
theorem YU {l:Expr} {tl:TE} (hl:PE X l tl):PI X tg l (zbz X.K tl):=by
  intro pins s σ H R I h
  refine thn (hl pins s σ H _ I h) fun v s1 ⟨x,H1,I1,r1,q1⟩=>?_
  obtain ⟨a,e,q⟩:=q1
  subst e
  cases r1
  have fp:∀ b ∈ [s1.heap.objs.size],_:=fun b hb=>by
    have e:b = s1.heap.objs.size:=by simpa using hb
    subst e
    exact I1.fpOk (Nat.le_refl _) (I1.hok.fresh (Nat.le_refl _))
  rcases q with ⟨⟨xs,hq⟩,q⟩ | ⟨⟨xs,hq⟩,q⟩
  · obtain ⟨its,rv,p,hz⟩:=I1.list hq
    refine wpAny_pyIter_list p.isList ⟨s1.heap.objs.size,[s1.heap.objs.size],_,_,H1,rfl,I1.kept (t':=s1.toks) fun b o e=>Heap.get?_push_of_some _ e,wO a _,⟨_,Heap.get?_push_size _ rfl,rfl,rfl⟩,?_,q⟩
    exact fp
  · obtain ⟨its,rv,p,hz⟩:=I1.tuple hq
    refine wpAny_pyIter_tuple (show s1.heap.IsTuple a its.toArray from p) ⟨s1.heap.objs.size,[s1.heap.objs.size],_,_,H1,rfl,I1.kept (t':=s1.toks) fun b o e=>Heap.get?_push_of_some _ e,vC a _,⟨_,Heap.get?_push_size _ rfl,rfl,rfl⟩,?_,q⟩
    exact fp
end
open Sem (wp)
section
variable {prog:Program} {w:World} {A:Around} {E:Value -> Shared -> Prop} {s:Shared}
end
section
variable {prog:Program} {w:World} {A:Around} {E:Value -> Shared -> Prop} {h:Heap} {g:Array GenState} {d:Drawn} {t:Nat} {os:OsState} {a:Addr} {n:Nat} {its:Array Value}
end
end L2
namespace L2
open PySem PySem.Spec PyProof.Rows
section
variable {prog:Program} {w:World} {K:Type} [DecidableEq K] {knd:KeyKind prog w K} {A:Around} {R:Result -> Shared -> Prop} {it l D:Addr} {items:Array Value} {pairs:List (K × Value)} {res:Value}
end
section
variable {prog:Program} {w:World} {K:Type} [DecidableEq K] {knd:KeyKind prog w K} {A:Around} {E:Value -> Shared -> Prop} {s:Shared}
end
def PrsL (H:Hp) (xs:List V) (kps:List (Key × V)):Prop:=xs.length = kps.length /\ ∀ (j:Nat) (x:V),xs[j]? = some x -> ∃ (T:Addr) (k:Key) (v:V),x = .ref T /\ H T = some (.tup [kV k,v]) /\ kps[j]? = some (k,v)
theorem PrsL.nil {H:Hp}:PrsL H [] []:=⟨rfl,fun j x e=>by simp at e⟩
theorem PrsL.same {H H':Hp} {xs:List V} {kps:List (Key × V)} (h:PrsL H xs kps) (s:Same H H'):PrsL H' xs kps:=⟨h.1,fun j x e=>let ⟨T,k,v,a,b,c⟩:=h.2 j x e;⟨T,k,v,a,s _ _ b,c⟩⟩
theorem PrsL.snoc {H:Hp} {xs:List V} {kps:List (Key × V)} {T:Addr} {k:Key} {v:V} (h:PrsL H xs kps) (e:H T = some (.tup [kV k,v])):PrsL H (xs ++ [.ref T]) (kps ++ [(k,v)]):=by
  refine ⟨by rw [List.length_append,List.length_append,h.1];rfl,fun j x ex=>?_⟩
  have l:=h.1
  by_cases hj:j < xs.length
  · rw [List.getElem?_append_left hj] at ex
    obtain ⟨T',k',v',a,b,c⟩:=h.2 j x ex
    exact ⟨T',k',v',a,b,by rw [List.getElem?_append_left (by omega)];exact c⟩
  · rw [List.getElem?_append_right (by omega)] at ex
    have:j = xs.length:=by
      have:=(List.getElem?_eq_some_iff.mp ex).1
      simp at this;omega
    subst this
    simp at ex
    subst ex
    exact ⟨T,k,v,rfl,e,by rw [l,List.getElem?_append_right (Nat.le_refl _)];simp⟩
theorem Vals.at:∀ {xs:List V} {us:List Value} {i:Nat} {u:Value},Vals xs us -> us[i]? = some u -> ∃ x,xs[i]? = some x /\ RelV x u:=fun {xs us i u} r e=>by
  have l:=Vals.length r
  have h:=(List.getElem?_eq_some_iff.mp e).1
  obtain ⟨v,e1,r1⟩:=r.get (i:=i) (x:=xs[i]'(by omega)) (List.getElem?_eq_getElem _)
  rw [e] at e1
  cases e1
  exact ⟨_,List.getElem?_eq_getElem _,r1⟩
section
variable {X:Cx}
end
section
variable {X:Cx}
end
section
variable {X:Cx} {elt tg iter:Expr} {ifs:List Expr} {scope:Scope} {pos:Pos} {wi:TI} {g:TG} {tf:TT} {te:TE} {x:Str}
variable {y:Str} {px py tp:Pos} {kk:Nat}
end
def Up (xs:Array Nat):Prop:=xs.toList.Pairwise (· < ·)
theorem Up.lt {xs:Array Nat} (h:Up xs) {i j:Nat} {a b:Nat} (hi:xs[i]? = some a) (hj:xs[j]? = some b) (hij:i < j):a < b:=by
  have h1:=Array.getElem?_eq_some_iff.mp hi
  have h2:=Array.getElem?_eq_some_iff.mp hj
  obtain ⟨l1,e1⟩:=h1
  obtain ⟨l2,e2⟩:=h2
  have:=List.pairwise_iff_getElem.mp h i j (by simpa using l1) (by simpa using l2) hij
  simpa [e1,e2] using this
theorem wn (xs:Array Nat) (j:Nat):∀ (fuel lo hi:Nat),hi - lo <= fuel -> lo <= hi -> hi <= xs.size -> Up xs -> (∀ i a,i < lo -> xs[i]? = some a -> a < j) -> (∀ i a,hi <= i -> xs[i]? = some a -> j <= a) ->
    SetTable.below.go xs j fuel lo hi <= xs.size /\ (∀ i a,i < SetTable.below.go xs j fuel lo hi -> xs[i]? = some a -> a < j) /\ ∀ i a,SetTable.below.go xs j fuel lo hi <= i -> xs[i]? = some a -> j <= a
  | 0,lo,hi,h1,h2,h3,u,a1,a2=>by
    have e:hi = lo:=by omega
    subst e
    exact ⟨h3,a1,a2⟩
  | fuel + 1,lo,hi,h1,h2,h3,u,a1,a2=>by
    unfold SetTable.below.go
    by_cases c:lo < hi
    · rw [if_pos c]
      dsimp only
      have hm:(lo + hi) / 2 < xs.size:=by omega
      have em:xs[(lo + hi) / 2]? = some (xs[(lo + hi) / 2]'hm):=Array.getElem?_eq_getElem hm
      have eg:xs.getD ((lo + hi) / 2) j = xs[(lo + hi) / 2]'hm:=by rw [Array.getD_eq_getD_getElem?,em];rfl
      rw [eg]
      by_cases d:xs[(lo + hi) / 2]'hm < j
      · rw [if_pos d]
        refine wn xs j fuel _ hi (by omega) (by omega) h3 u (fun i a hi' e=>?_) a2
        by_cases q:i = (lo + hi) / 2
        · subst q;rw [em] at e;cases e;exact d
        · have:=u.lt e em (by omega)
          omega
      · rw [if_neg d]
        refine wn xs j fuel lo _ (by omega) (by omega) (by omega) u a1 fun i a hi' e=>?_
        by_cases q:i = (lo + hi) / 2
        · subst q;rw [em] at e;cases e;omega
        · have:=u.lt em e (by omega)
          omega
    · rw [if_neg c]
      have e:hi = lo:=by omega
      subst e
      exact ⟨h3,a1,a2⟩
theorem ZM {xs:Array Nat} (u:Up xs) (j:Nat):SetTable.below xs j <= xs.size /\ (∀ i a,i < SetTable.below xs j -> xs[i]? = some a -> a < j) /\ ∀ i a,SetTable.below xs j <= i -> xs[i]? = some a -> j <= a:=by
  unfold SetTable.below
  exact wn xs j xs.size 0 xs.size (by omega) (Nat.zero_le _) (Nat.le_refl _) u (fun i a h=>absurd h (Nat.not_lt_zero _)) fun i a h e=>absurd (Array.getElem?_eq_some_iff.mp e).1 (by omega)
theorem ZN {xs:Array Nat} (u:Up xs) {i:Nat} {j:Nat} (hi:i <= xs.size) (h1:∀ k a,k < i -> xs[k]? = some a -> a < j) (h2:∀ k a,i <= k -> xs[k]? = some a -> j <= a):SetTable.below xs j = i:=by
  obtain ⟨b1,b2,b3⟩:=ZM u j
  by_cases c:SetTable.below xs j < i
  · have hl:SetTable.below xs j < xs.size:=by omega
    have e:=Array.getElem?_eq_getElem hl
    have:=h1 _ _ c e
    have:=b3 _ _ (Nat.le_refl _) e
    omega
  · by_cases d:i < SetTable.below xs j
    · have hl:i < xs.size:=by omega
      have e:=Array.getElem?_eq_getElem hl
      have:=b2 _ _ d e
      have:=h2 _ _ (Nat.le_refl _) e
      omega
    · omega
theorem JA {xs:Array Nat} (u:Up xs) {j:Nat} (hn:xs[SetTable.below xs j]? ≠ some j):Up (SetTable.insertAt xs (SetTable.below xs j) j):=by
  obtain ⟨b1,b2,b3⟩:=ZM u j
  unfold Up SetTable.insertAt
  generalize SetTable.below xs j = p at *
  have el:((xs.extract 0 p).push j ++ xs.extract p xs.size).toList = xs.toList.take p ++ (j :: xs.toList.drop p):=by
    simp [Array.toList_extract,List.extract_eq_drop_take]
    exact List.take_of_length_le (by simp)
  rw [el,List.pairwise_append]
  have u':xs.toList.Pairwise (· < ·):=u
  refine ⟨u'.sublist (List.take_sublist _ _),List.pairwise_cons.mpr ⟨fun a ha=>?_,u'.sublist (List.drop_sublist _ _)⟩,fun a ha b hb=>?_⟩
  · obtain ⟨k,hk,e⟩:=List.mem_drop_iff_getElem.mp ha
    have e':xs[k + p]? = some a:=by rw [<- Array.getElem?_toList,List.getElem?_eq_some_iff];exact ⟨by omega,by rw [<- e];congr 1;omega⟩
    have:=b3 (k + p) a (by omega) e'
    by_cases q:k = 0
    · subst q
      rw [Nat.zero_add] at e'
      exact Nat.lt_of_le_of_ne this fun z=>hn (by rw [e',z])
    · have hp:p < xs.size:=by rw [Array.length_toList] at hk;omega
      have:=b3 p _ (Nat.le_refl _) (Array.getElem?_eq_getElem hp)
      have:=u.lt (Array.getElem?_eq_getElem hp) e' (by omega)
      omega
  · obtain ⟨k,hk,e⟩:=List.mem_take_iff_getElem.mp ha
    have e':xs[k]? = some a:=by rw [<- Array.getElem?_toList,List.getElem?_eq_some_iff];exact ⟨by omega,e⟩
    have ha':=b2 k a (by omega) e'
    rcases List.mem_cons.mp hb with z | z
    · rw [z];exact ha'
    · obtain ⟨k2,hk2,e2⟩:=List.mem_drop_iff_getElem.mp z
      have e2':xs[k2 + p]? = some b:=by rw [<- Array.getElem?_toList,List.getElem?_eq_some_iff];exact ⟨by omega,by rw [<- e2];congr 1;omega⟩
      have:=b3 (k2 + p) b (by omega) e2'
      omega
structure TabOk (b:Bool) (t:SetTable):Prop where
  up:Up t.place
  no:t.dummies = #[]
  led:t.led = b
theorem ZD (j:Nat):SetTable.has #[] j = false:=by
  unfold SetTable.has
  rw [show (#[]:Array Nat)[SetTable.below #[] j]? = none from Array.getElem?_eq_none (by simp)]
  rfl
theorem JG {t:SetTable} (h:t.dummies = #[]) (j:Nat):(t.slot j = .empty /\ t.place[SetTable.below t.place j]? ≠ some j) \/ ∃ i,t.slot j = .live i:=by
  unfold SetTable.slot
  rw [h,ZD]
  dsimp only
  by_cases c:(t.place[SetTable.below t.place j]? == some j) = true
  · rw [if_pos c]
    exact .inr ⟨_,rfl⟩
  · rw [if_neg c,if_neg Bool.false_ne_true]
    exact .inl ⟨rfl,fun z=>c (by rw [z];simp)⟩
theorem wH (t:SetTable) (p:SetTable.Probe):(t.advance p).dummy = p.dummy:=by
  unfold SetTable.advance
  split
  · rfl
  · rfl
theorem xW {t:SetTable} (hd:t.dummies = #[]) {f:Nat -> Int} {h:Int}:∀ (fuel:Nat) (p:SetTable.Probe) (j:Nat) (d:Option Nat),SetTable.probe.go t f h fuel p = some (.empty j d) -> t.place[SetTable.below t.place j]? ≠ some j /\ d = p.dummy
  | 0,p,j,d,e=>by unfold SetTable.probe.go at e;cases e
  | fuel + 1,p,j,d,e=>by
    unfold SetTable.probe.go at e
    rcases JG hd p.j with ⟨c1,c2⟩ | ⟨i,c⟩
    · rw [c1] at e
      cases e
      exact ⟨c2,rfl⟩
    · rw [c] at e
      dsimp only at e
      split at e
      · cases e
      · have:=xW hd fuel _ j d e
        rw [wH] at this
        exact this
theorem WQ {t:SetTable} (hd:t.dummies = #[]) {h:Int} {s:Nat} {w:Bool} (e:t.freeSlot h = some (s,w)):t.place[SetTable.below t.place s]? ≠ some s:=by
  unfold SetTable.freeSlot SetTable.probe at e
  split at e
  · rename_i j d q
    obtain ⟨h1,h2⟩:=xW hd _ _ _ _ q
    cases (show d = none from h2)
    cases e
    exact h1
  · cases e
theorem Xf (n:Nat):Up (Array.range n):=by
  unfold Up
  rw [Array.toList_range]
  exact List.pairwise_lt_range
theorem TabOk.stand {b:Bool} {t:SetTable} (h:TabOk b t) (n:Nat):TabOk b (t.standIn n):=⟨Xf n,rfl,h.led⟩
theorem TabOk.plain {b p:Bool} {t:SetTable} (h:TabOk b t):TabOk b { t with plain:=p }:=⟨h.up,h.no,h.led⟩
theorem TabOk.or {b:Bool} {t:SetTable} (h:TabOk b t) (n:Nat):TabOk b (t.orStandIn n):=by
  unfold SetTable.orStandIn
  split
  · exact h
  · exact h.stand n
theorem TabOk.layNew {b:Bool} {t:SetTable} (h:TabOk b t) (es:Array (Int × Value)) (k:Int) (x:Value):TabOk b (layNew t es k x).2.1:=by
  unfold PySem.layNew
  split
  · rename_i slot w e
    have hp:TabOk b (t.put slot).1:=⟨JA h.up (WQ h.no e),by
      show (if SetTable.has t.dummies slot = true then _ else t.dummies) = #[]
      rw [h.no,ZD]
      rfl,h.led⟩
    exact hp.or _
  · exact h.stand _
theorem V3 {α:Type} (m:Nat) (f:Nat -> Option α):(((List.range m).filterMap fun j=>(f j).map (j,·)).map (·.1)).Pairwise (· < ·):=by
  have hs:∀ l:List Nat,((l.filterMap fun j=>(f j).map (j,·)).map (·.1)).Sublist l:=fun l=>by
    induction l with
    | nil=>exact .slnil
    | cons x l ih=>
      rw [List.filterMap_cons]
      cases f x with
      | none=>exact ih.cons _
      | some y=>exact ih.cons₂ _
  exact List.Pairwise.sublist (hs _) List.pairwise_lt_range
theorem TabOk.relay {b:Bool} {t:SetTable} (h:TabOk b t) (es:Array (Int × Value)) (n:Nat):TabOk b (relayAll t es n).2.1:=by
  unfold relayAll
  split
  · rename_i t' order e
    dsimp only
    split
    · unfold SetTable.relaid SetTable.laid at e
      obtain ⟨owner,_,e2⟩:=Option.bind_eq_some_iff.mp e
      cases e2
      refine ⟨?_,rfl,h.led⟩
      exact V3 _ fun j=>owner.getD j none
    · exact h.stand _
  · exact h.stand _
theorem TabOk.fresh (b:Bool):TabOk b (.fresh 0 0 b):=⟨List.Pairwise.nil,rfl,rfl⟩
theorem JP {α:Type} {l:List α} {x:α} (h:l.Nodup) (hx:x ∉ l):(l ++ [x]).Nodup:=by
  rw [List.nodup_append]
  exact ⟨h,by simp,fun a ha b hb e=>hx (by rw [List.mem_singleton] at hb;rw [<- hb,<- e];exact ha)⟩
theorem xX {α β:Type} {R:α -> β -> Prop} {ys ys':List β} (p:ys'.Perm ys):∀ {xs:List α},Paired R xs ys -> ∃ xs',xs'.Perm xs /\ Paired R xs' ys':=by
  induction p with
  | nil=>intro xs h;exact ⟨xs,.refl _,h⟩
  | cons y _ ih=>
    intro xs h
    cases h with
    | cons r t=>
      obtain ⟨xs',p',h'⟩:=ih t
      exact ⟨_ :: xs',p'.cons _,.cons r h'⟩
  | swap y z l=>
    intro xs h
    cases h with
    | cons r t=>
      cases t with
      | cons r2 t2=>exact ⟨_,.swap _ _ _,.cons r2 (.cons r t2)⟩
  | trans _ _ ih1 ih2=>
    intro xs h
    obtain ⟨x1,p1,h1⟩:=ih2 h
    obtain ⟨x2,p2,h2⟩:=ih1 h1
    exact ⟨x2,p2.trans p1,h2⟩
theorem vP {α β:Type} {R:α -> β -> Prop} {x:α} {y:β} (r:R x y):∀ {xs:List α} {ys:List β},Paired R xs ys -> Paired R (xs ++ [x]) (ys ++ [y])
  | _,_,.nil=>.cons r .nil
  | _,_,.cons h t=>.cons h (vP r t)
theorem vN {α β:Type} {R:α -> β -> Prop}:∀ {xs:List α} {ys:List β},Paired R xs ys -> (∀ x ∈ xs,∃ y ∈ ys,R x y) /\ ∀ y ∈ ys,∃ x ∈ xs,R x y
  | _,_,.nil=>⟨fun x h=>(nomatch h),fun y h=>(nomatch h)⟩
  | _,_,.cons h t=>by
    obtain ⟨a,b⟩:=vN t
    refine ⟨fun x hx=>?_,fun y hy=>?_⟩
    · rcases List.mem_cons.mp hx with z | z
      · rw [z];exact ⟨_,List.mem_cons_self,h⟩
      · obtain ⟨y,hy,r⟩:=a x z
        exact ⟨y,List.mem_cons_of_mem _ hy,r⟩
    · rcases List.mem_cons.mp hy with z | z
      · rw [z];exact ⟨_,List.mem_cons_self,h⟩
      · obtain ⟨x,hx,r⟩:=b y z
        exact ⟨x,List.mem_cons_of_mem _ hx,r⟩
section
variable {prog:Program} {w:World} {K:Type} [DecidableEq K] (knd:KeyKind prog w K)
def ElX (es:List (Int × Value)) (ks:List K):Prop:=ElemsOf knd es /\ ∃ ks',ks'.Perm ks /\ Paired (fun k (e:Int × Value)=>knd.is k e.2 = true) ks' es
def ObX (b:Bool) (o:Obj) (ks:List K):Prop:=∃ es ep t,o.ExactSet /\ o.data = .set es ep t /\ ElX knd es.toList ks /\ ks.Nodup /\ es.size < scanBound /\ t.fits es.size = true /\ TabOk b t
def SetX (b:Bool) (h:Heap) (a:Addr) (ks:List K):Prop:=∃ o,h.get? a = some o /\ ObX knd b o ks
variable {knd}
theorem ElX.perm {es es':List (Int × Value)} {ks:List K} (h:ElX knd es ks) (p:es'.Perm es):ElX knd es' ks:=by
  obtain ⟨h1,ks',p',pr⟩:=h
  obtain ⟨ks2,p2,pr2⟩:=xX p pr
  exact ⟨h1.perm p,ks2,p2.trans p',pr2⟩
theorem ElX.len {es:List (Int × Value)} {ks:List K} (h:ElX knd es ks):es.length = ks.length:=by
  obtain ⟨_,ks',p',pr⟩:=h
  rw [<- p'.length_eq]
  exact (Paired.length pr).symm
theorem ElX.mem {es:List (Int × Value)} {ks:List K} (h:ElX knd es ks) (k:K):k ∈ ks ↔ ∃ e ∈ es,knd.is k e.2 = true:=by
  obtain ⟨_,ks',p',pr⟩:=h
  obtain ⟨a,b⟩:=vN pr
  rw [<- p'.mem_iff]
  refine ⟨a k,fun ⟨e,he,r⟩=>?_⟩
  obtain ⟨k',hk,r'⟩:=b e he
  rwa [knd.inj _ _ _ r r']
theorem ElX.snoc {es:List (Int × Value)} {ks:List K} (h:ElX knd es ks) {k:K} {x:Value} (hk:knd.is k x = true) (hx:x.scannable = true):ElX knd (es ++ [(knd.hash k,x)]) (ks ++ [k]):=by
  obtain ⟨h1,ks',p',pr⟩:=h
  exact ⟨h1.push hk hx,ks' ++ [k],p'.append_right _,vP (R:=fun k (e:Int × Value)=>knd.is k e.2 = true) hk pr⟩
theorem SetX.at {b:Bool} {h h':Heap} {a:Addr} {ks:List K} (x:SetX knd b h a ks) (k:∀ o,h.get? a = some o -> h'.get? a = some o):SetX knd b h' a ks:=let ⟨o,e,r⟩:=x;⟨o,k o e,r⟩
variable {A:Around} {E:Value -> Shared -> Prop} {s:Shared}
theorem zaW {b:Bool} {h:Heap} {a:Addr} {o:Obj} {es:Array (Int × Value)} {ep:Nat} {t:SetTable} (ho:h.get? a = some o) (hex:o.ExactSet) (hd:o.data = .set es ep t) {es':Array (Int × Value)} {t':SetTable} {ks:List K} (el:ElX knd es'.toList ks) (nd:ks.Nodup)
    (hb:es'.size < scanBound) (hf:t'.fits es'.size = true) (tb:TabOk b t'):∃ o',(h.update a (Obj.putSet es' t')).get? a = some o' /\ o'.ExactSet /\ o'.data = .set es' (ep + 1) t' /\ ObX knd b o' ks:=by
  have g:=Heap.get?_update_self (Obj.putSet es' t') ho (by rw [putSet_of es' t' hd];rfl)
  rw [putSet_of es' t' hd] at g
  exact ⟨_,g,hex,rfl,es',ep + 1,t',hex,rfl,el,nd,hb,hf,tb⟩
theorem W7 {b:Bool} {g:Bool -> Sem Unit} (hg:∀ (c:Bool) (s1:Shared) (Q':Unit -> Shared -> Prop),Q' () s1 -> wpAny (model prog w) A (g c) Q' E s1) {a:Addr} {o:Obj} {es:Array (Int × Value)} {ep:Nat} {t:SetTable} (ho:s.heap.get? a = some o) (hex:o.ExactSet)
    (hd:o.data = .set es ep t) {es1:Array (Int × Value)} {t2:SetTable} {ks:List K} (el:ElX knd es1.toList ks) (nd:ks.Nodup) (hb:es1.size < scanBound) (hf:t2.fits es1.size = true) (tb:TabOk b t2) {wasDummy:Bool} {R:Option Bool -> Shared -> Prop}
    (h:∀ h',Heap.SameBut a s.heap h' -> SetX knd b h' a ks -> R (some true) { s with heap:=h' }) :
    wpAny (model prog w) A (storeSet a es1 t2 >>= fun _=>if (!wasDummy && t2.tooFull) = true then g (relayAll t2 es1 (SetTable.grown es1.size)).2.2 >>= fun _=>storeSet a (relayAll t2 es1 (SetTable.grown es1.size)).1 (relayAll t2 es1 (SetTable.grown es1.size)).2.1 >>= fun _=>pure (some true) else pure (some true)) R E s:=by
  obtain ⟨o1,g1,x1,d1,ob1⟩:=zaW ho hex hd el nd hb hf tb
  have sb:=Heap.SameBut.update s.heap a (Obj.putSet es1 t2)
  refine wpAny_bind (wpAny_storeSet_of ho hd ?_ (fits_of_scanBound hb))
  split
  · have pm:=relayAll_perm t2 es1 (SetTable.grown es1.size)
    have ft:=relayAll_fits t2 es1 (SetTable.grown es1.size)
    have tr:=tb.relay es1 (SetTable.grown es1.size)
    have sz:(relayAll t2 es1 (SetTable.grown es1.size)).1.size = es1.size:=by have:=pm.length_eq;rwa [Array.length_toList,Array.length_toList] at this
    obtain ⟨o2,g2,x2,d2,ob2⟩:=zaW g1 x1 d1 (el.perm pm) nd (by rw [sz];exact hb) ft tr
    exact wpAny_bind (hg _ _ _ (wpAny_bind (wpAny_storeSet_of g1 d1 (wpAny_pure (h _ (sb.trans (Heap.SameBut.update _ a _)) ⟨o2,g2,ob2⟩)) (fits_of_scanBound (by rw [sz];exact hb)))))
  · exact wpAny_pure (h _ sb ⟨o1,g1,ob1⟩)
theorem zbC {b:Bool} {a:Addr} {ks:List K} {k:K} {x:Value} {Q:Bool -> Shared -> Prop} (hkey:knd.is k x = true) (hsc:x.scannable = true) (hS:SetX knd b s.heap a ks) (hroom:ks.length + 1 < scanBound)
    (h:∀ h' c,Heap.SameBut a s.heap h' -> SetX knd b h' a (if k ∈ ks then ks else ks ++ [k]) -> Q c { s with heap:=h' }):wpAny (model prog w) A (setAddHashed a x (knd.hash k)) Q E s:=by
  obtain ⟨o,ho,es,ep,t,hex,hd,el,nd,hb,hf,tb⟩:=hS
  have ln:=el.len
  rw [Array.length_toList] at ln
  unfold setAddHashed setAddHashedIn;refine wpAny_holding (wpAny_bind (wpAny_setState_of ho hd hf ?_));dsimp only
  rw [byScan_of hsc hb el.1,if_pos rfl]
  unfold setAddByScan
  refine wpAny_bind (wpAny_bind (wpAny_rule (wpAny_bind (wpAny_setScan_of hkey ho hd hf el.1 ?_))))
  cases hr:List.findIdx? (fun e=>knd.is k e.2) es.toList with
  | some j=>
    obtain ⟨hj,hpj,_⟩:=List.findIdx?_eq_some_iff_getElem.mp hr
    have hk:k ∈ ks:=(el.mem k).mpr ⟨_,List.getElem_mem hj,hpj⟩
    have:=h s.heap false (Heap.SameBut.refl a s.heap) (by rw [if_pos hk];exact ⟨o,ho,es,ep,t,hex,hd,el,nd,hb,hf,tb⟩)
    exact wpAny_pure (wpAny_pure this)
  | none=>
    have hk:k ∉ ks:=fun z=>by
      obtain ⟨e,he,r⟩:=(el.mem k).mp z
      have:=List.findIdx?_eq_none_iff.mp hr e he
      rw [r] at this
      cases this
    rw [if_neg hk] at h
    have gw:∀ (c:Bool) (s1:Shared) (Q':Unit -> Shared -> Prop),Q' () s1 -> wpAny (model prog w) A (match c with | true=>rule "set.scan.the-table-gave-way" | false=>pure ()) Q' E s1:=fun c s1 Q' hq=>by
      cases c
      · exact wpAny_pure hq
      · exact wpAny_rule hq
    have pm:=layNew_perm t es (knd.hash k) x
    have ft:=layNew_fits t es (knd.hash k) x
    have tn:=tb.layNew es (knd.hash k) x
    generalize layNew t es (knd.hash k) x = L at pm ft tn
    obtain ⟨es1,t1,wd,gave⟩:=L
    dsimp only at pm ft tn ⊢
    rw [Array.toList_push] at pm
    have el1:ElX knd es1.toList (ks ++ [k]):=(el.snoc hkey hsc).perm pm
    have l1:=el1.len
    rw [Array.length_toList,List.length_append] at l1
    have hb1:es1.size < scanBound:=by rw [l1];exact hroom
    have nd1:(ks ++ [k]).Nodup:=JP nd hk
    refine wpAny_bind (gw _ _ _ ?_)
    split
    · rw [hashByValue_scannable 8 hsc]
      refine wpAny_bind (wpAny_pure (W7 gw ho hex hd el1 nd1 hb1 ?_ ?_ fun h' sb sx=>wpAny_pure (h h' true sb sx)))
      · split
        · exact ft
        · exact SetTable.fits_plain_off ft
      · split
        · exact tn
        · exact tn.plain
    · exact wpAny_bind (wpAny_pure (W7 gw ho hex hd el1 nd1 hb1 ft tn fun h' sb sx=>wpAny_pure (h h' true sb sx)))
end
def wD (w:World):Bool:=!w.params.followText "set-order"
def Xx (w:World):Obj:={ cls:=.type "set",dict:=none,data:=.set #[] 0 (.fresh 0 0 (wD w)) }
section
variable {K:Type} [DecidableEq K]
def jm (ks:List K) (k:K):List K:=if k ∈ ks then ks else ks ++ [k]
def wx (ks js:List K):List K:=js.foldl jm ks
theorem Xa (ks:List K) (k:K):(jm ks k).length <= ks.length + 1:=by
  unfold jm
  split
  · omega
  · rw [List.length_append];exact Nat.le_refl _
theorem y6:∀ (js ks:List K),(wx ks js).length <= ks.length + js.length
  | [],ks=>Nat.le_refl _
  | j :: js,ks=>by
    have h1:=y6 js (jm ks j)
    have h2:=Xa ks j
    show (wx (jm ks j) js).length <= _
    rw [List.length_cons]
    omega
theorem y4:∀ {js ks:List K} {x:K},x ∈ wx ks js ↔ x ∈ ks \/ x ∈ js
  | [],ks,x=>by simp [wx]
  | j :: js,ks,x=>by
    show x ∈ wx (jm ks j) js ↔ _
    rw [y4,List.mem_cons]
    unfold jm
    split
    · rename_i h
      constructor
      · rintro (z | z)
        · exact .inl z
        · exact .inr (.inr z)
      · rintro (z | z | z)
        · exact .inl z
        · rw [z];exact .inl h
        · exact .inr z
    · rw [List.mem_append,List.mem_singleton,or_assoc]
variable {prog:Program} {w:World} {knd:KeyKind prog w K} {A:Around} {R:Result -> Shared -> Prop} {it l S:Addr} {items:Array Value} {keys:List K} {b:Bool}
end
section
variable {prog:Program} {w:World} {A:Around} {E:Value -> Shared -> Prop} {s:Shared}
end
section
variable {prog:Program} {w:World} {K:Type} [DecidableEq K] {knd:KeyKind prog w K} {A:Around} {E:Value -> Shared -> Prop} {s:Shared}
theorem Xw (h:Heap):SetX knd (wD w) (h.push (Xx w)) h.objs.size []:=
  ⟨Xx w,Heap.get?_push_size _ rfl,#[],0,_,⟨rfl,rfl,rfl⟩,rfl,⟨fun e he=>by simp at he,[],.refl _,.nil⟩,List.nodup_nil,by decide,rfl,TabOk.fresh _⟩
end
theorem zN:Slot "set_iterator" "__next__" "set_iterator.__next__" :=
  .of (owner:= "set_iterator") (n:= "__next__") (by rw [typeLookup_type,builtinLookup_eq_fast];kernel_rfl) (by decide +kernel) (by decide +kernel) (by decide +kernel)
    (by first | exact .inl (by decide +kernel) | exact .inr (by decide +kernel)) (by rw [isSubtype_type];kernel_rfl)
theorem j7:entryFor table "set_iterator.__next__" = some Builtin.«set_iterator.__next__»:=entryFor_of_tree (by kernel_rfl)
theorem xG (x:Value):argsOk "set_iterator.__next__" ⟨[x],[]⟩:=by unfold argsOk;kernel_rfl
theorem slot_set_iter:Slot "set" (Str.ofString "__iter__") "set.__iter__" :=PySem.F.slot_set_iter
theorem vW:entryFor table "set.__iter__" = some Builtin.«frozenset.__iter__»:=
  entryFor_alias (id':= "frozenset.__iter__") (by kernel_rfl) (by first | rfl | decide +kernel) (by decide +kernel) (by kernel_rfl)
theorem wG (x:Value):argsOk "set.__iter__" ⟨[x],[]⟩:=by unfold argsOk;kernel_rfl
theorem xh {α:Type}:∀ (l:List α) (i:Nat) (h:i < l.length),(l[i] :: l.eraseIdx i).Perm l
  | x :: l,0,_=>.refl _
  | x :: l,i + 1,h=>by
    have:=xh l i (by simpa using h)
    exact (List.Perm.swap _ _ _).trans (this.cons x)
section
variable {M:Model} {A:Around} {E:Value -> Shared -> Prop} {s:Shared}
theorem Ji {src:Source} {n:Nat} {Q:Nat -> Shared -> Prop} (hn:0 < n) (h:∀ i,i < n -> Q i { s with drawn:=s.drawn.bump src }):wpAny M A (choose src n) Q E s:=fun Γ p hΓ=>
  ⟨Nat.ne_of_gt hn,h _ (Nat.mod_lt _ hn)⟩
theorem yX {α:Type}:∀ (n:Nat) (xs:List α) (s:Shared) {Q:List α -> Shared -> Prop},xs.length <= n -> (∀ d ys,ys.Perm xs -> Q ys { s with drawn:=d }) -> wpAny M A (drawOrder n xs) Q E s
  | 0,xs,s,Q,hl,h=>by
    cases xs with
    | nil=>exact wpAny_pure (h s.drawn [] (.refl _))
    | cons x xs=>simp at hl
  | n + 1,[],s,Q,hl,h=>wpAny_pure (h s.drawn [] (.refl _))
  | n + 1,x :: xs,s,Q,hl,h=>by
    unfold drawOrder
    refine wpAny_bind (Ji (by simp) fun i hi=>?_)
    rw [List.getElem?_eq_getElem hi]
    dsimp only
    refine wpAny_bind (yX n ((x :: xs).eraseIdx i) _ ?_ fun d ys p=>wpAny_pure (h d _ ?_))
    · rw [List.length_eraseIdx]
      split <;> simp at * <;> omega
    · exact (p.cons _).trans (xh _ _ hi)
end
theorem QT {α:Type} (next:Nat -> Nat):∀ (fuel k:Nat) (left:List α) (out:Array α),left.length <= fuel -> (pickOrder.go next fuel k left out).toList.Perm (out.toList ++ left)
  | 0,k,left,out,h=>by
    cases left with
    | nil=>unfold pickOrder.go;simp
    | cons x xs=>simp at h
  | fuel + 1,k,left,out,h=>by
    unfold pickOrder.go
    cases left with
    | nil=>simp
    | cons x xs=>
      have hi:next k % (x :: xs).length < (x :: xs).length:=Nat.mod_lt _ (by simp)
      rw [List.getElem?_eq_getElem hi]
      dsimp only
      have h1:=QT next fuel (k + 1) ((x :: xs).eraseIdx (next k % (x :: xs).length)) (out.push ((x :: xs)[next k % (x :: xs).length]'hi)) (by rw [List.length_eraseIdx,if_pos hi];simp at h ⊢;omega)
      refine h1.trans ?_
      rw [Array.toList_push,List.append_assoc]
      exact List.Perm.append_left _ (xh _ _ hi)
theorem wX {α:Type} (next:Nat -> Nat) (xs:Array α):(pickOrder next xs).toList.Perm xs.toList:=by
  unfold pickOrder
  have:=QT next xs.size 0 xs.toList #[] (by simp)
  simpa using this
def siO (first:Value) (i:Nat) (src:Value) (n ep:Nat):Obj:={ cls:=.type "set_iterator",data:=.fields #[first,.int i 0,src,.int n 0,.int ep 0] }
section
variable {prog:Program} {w:World} {A:Around} {E:Value -> Shared -> Prop} {h:Heap} {g:Array GenState} {d:Drawn} {tk:Nat} {os:OsState} {it a:Addr} {o:Obj} {es:Array (Int × Value)} {ep:Nat} {t:SetTable} {i:Nat}
theorem Zh {sl:Nat} {x:Value} {nx:Nat} {Q:Fin -> Shared -> Prop} (hi:h.get? it = some (siO (.int sl 0) i (.ref a) es.size ep)) (ho:h.get? a = some o) (hd:o.data = .set es ep t) (hf:t.fits es.size = true)
    (hN:∀ (Q':Option (Value × Nat) -> Shared -> Prop),Q' (some (x,nx)) ⟨h,g,d,tk,os⟩ -> wpAny (model prog w) A (setNext a sl i ep) Q' E ⟨h,g,d,tk,os⟩)
    (hq:∀ h',h'.get? it = some (siO (.int nx 0) (i + 1) (.ref a) es.size ep) -> Heap.SameBut it h h' -> Q (.done (.ret x)) ⟨h',g,d,tk,os⟩) :
    wpAny (model prog w) A (Builtin.«set_iterator.__next__» ⟨[.ref it],[]⟩) Q E ⟨h,g,d,tk,os⟩:=by
  unfold siO at hi
  have hE:∀ {Q':Array (Int × Value) -> Shared -> Prop},Q' es ⟨h,g,d,tk,os⟩ -> wpAny (model prog w) A (setEntries a) Q' E ⟨h,g,d,tk,os⟩:=fun q=>wpAny_setEntries_of (s:=⟨h,g,d,tk,os⟩) ho hd hf q
  unfold Builtin.«set_iterator.__next__»
  generalize hSN:setNext = SN at hN
  generalize hSF:setField = SF
  repeat (any_goals (first | assumption | (with_reducible refine hE ?_) | wp_step))
  subst hSF
  have z1:((sl:Int)).toNat = sl:=Int.toNat_natCast _
  have z2:((i:Int)).toNat = i:=Int.toNat_natCast _
  have z3:((ep:Int)).toNat = ep:=Int.toNat_natCast _
  rw [z1,z2,z3]
  refine hN _ ?_
  refine wpAny_bind (wpAny_setField hi rfl (by show 0 < 5;decide) ?_)
  have g1:=Heap.get?_update_self (Obj.mapFields (·.setIfInBounds 0 (rawInt nx))) hi rfl
  refine wpAny_bind (wpAny_setField g1 rfl (by show 1 < 5;decide) (wpAny_pure (hq _ ?_ ?_)))
  · exact Heap.get?_update_self (Obj.mapFields (·.setIfInBounds 1 (rawInt ((i:Int) + 1)))) g1 rfl
  · exact (Heap.SameBut.update _ _ _).trans (Heap.SameBut.update _ _ _)
theorem xr {sl:Nat} {Q:Fin -> Shared -> Prop} (hh:A.handled = none) (hi:h.get? it = some (siO (.int sl 0) i (.ref a) es.size ep)) (ho:h.get? a = some o) (hd:o.data = .set es ep t) (hf:t.fits es.size = true)
    (hN:∀ (Q':Option (Value × Nat) -> Shared -> Prop),Q' none ⟨h,g,d,tk,os⟩ -> wpAny (model prog w) A (setNext a sl i ep) Q' E ⟨h,g,d,tk,os⟩)
    (hq:∀ h' e,Heap.ExtBut it h h' -> (∃ ob,h'.get? e = some ob /\ ob.cls = .type "StopIteration") -> E (.ref e) ⟨h',g,d,tk,os⟩) :
    wpAny (model prog w) A (Builtin.«set_iterator.__next__» ⟨[.ref it],[]⟩) Q E ⟨h,g,d,tk,os⟩:=by
  unfold siO at hi
  have hE:∀ {Q':Array (Int × Value) -> Shared -> Prop},Q' es ⟨h,g,d,tk,os⟩ -> wpAny (model prog w) A (setEntries a) Q' E ⟨h,g,d,tk,os⟩:=fun q=>wpAny_setEntries_of (s:=⟨h,g,d,tk,os⟩) ho hd hf q
  unfold Builtin.«set_iterator.__next__»
  generalize hSN:setNext = SN at hN
  generalize hSF:setField = SF
  repeat (any_goals (first | assumption | (with_reducible refine hE ?_) | wp_step))
  subst hSF
  have z1:((sl:Int)).toNat = sl:=Int.toNat_natCast _
  have z2:((i:Int)).toNat = i:=Int.toNat_natCast _
  have z3:((ep:Int)).toNat = ep:=Int.toNat_natCast _
  rw [z1,z2,z3]
  refine hN _ (wpAny_bind (wpAny_setField hi rfl (by show 2 < 5;decide) ?_))
  refine wpAny_bind (show wpAny _ _ (newExc (.type "StopIteration") []) _ _ _ from ?_)
  unfold newExc newTuple
  refine wpAny_bind (wpAny_newObj_type (wpAny_bind (m:=firstArgMember _ _) (wpAny_of_eq (a:=Value.none) (by first | rfl | (simp only [firstArgMember];rfl)) (wpAny_newObj_type ?_))))
  unfold raiseNew
  refine wpAny_bind (wpAny_handled ?_)
  rw [hh]
  refine wpAny_bind (wpAny_pure (wpAny_throw (hq _ _ (fun b p hb e=>?_) ⟨_,Heap.get?_push_size _ rfl,rfl⟩)))
  exact Heap.get?_push_of_some _ (Heap.get?_push_of_some _ ((Heap.get?_update_other _ _ (Ne.symm hb)).trans e))
end
section
variable {prog:Program} {w:World} {A:Around} {E:Value -> Shared -> Prop} {s:Shared} {a:Addr} {o:Obj} {es:Array (Int × Value)} {ep:Nat} {t:SetTable} {i sl:Nat}
theorem vt {Q:Bool -> Shared -> Prop} (h:Q (w.params.followText "set-order") s):wpAny (model prog w) A setsByText Q E s:=wpAny_bind (wpAny_askSetting (wpAny_pure h))
theorem w6 {Q:Option (Value × Nat) -> Shared -> Prop} (hT:w.params.followText "set-order" = true) (ho:s.heap.get? a = some o) (hd:o.data = .set es ep t) (hf:t.fits es.size = true)
    (h:Q (((pickOrder (w.params.setOrder a ep) es)[i]?).map fun e=>(e.2,sl)) s):wpAny (model prog w) A (setNext a sl i ep) Q E s:=by
  unfold setNext
  refine wpAny_bind (wpAny_setState_of ho hd hf (wpAny_bind (vt ?_)))
  rw [hT,if_pos rfl,if_neg (by simp)]
  refine wpAny_bind ?_
  unfold setWalk
  refine wpAny_bind (wpAny_setState_of ho hd hf (wpAny_bind (vt ?_)))
  rw [hT,if_pos rfl]
  exact wpAny_bind (wpAny_askSetting (wpAny_pure (wpAny_pure h)))
theorem Zq {Q:Option (Value × Nat) -> Shared -> Prop} (hT:w.params.followText "set-order" = false) (hp:(!t.plain && decide (es.size > 1)) = false) (hl:t.led = true) (ho:s.heap.get? a = some o) (hd:o.data = .set es ep t) (hf:t.fits es.size = true)
    (h:Q (match es[SetTable.below t.place sl]?,t.place[SetTable.below t.place sl]? with | some (_,x),some j=>some (x,j + 1) | _,_=>none) s):wpAny (model prog w) A (setNext a sl i ep) Q E s:=by
  unfold setNext
  refine wpAny_bind (wpAny_setState_of ho hd hf (wpAny_bind (vt ?_)))
  rw [hT,if_neg Bool.false_ne_true]
  refine (show wpAny _ _ (if (!t.plain && decide (es.size > 1)) = true then _ else _) _ _ _ from ?_)
  rw [hp,if_neg Bool.false_ne_true]
  refine wpAny_bind (show wpAny _ _ (if (!t.led && !es.isEmpty) = true then unsupported "set:maker-not-led" else pure ()) _ _ _ from ?_)
  rw [hl]
  exact wpAny_pure (wpAny_pure h)
theorem Qg {x:Value} {hs:Int} {p:Nat} {Q:Value -> Shared -> Prop} (ho:s.heap.get? a = some o) (hd:o.data = .set es ep t) (hf:t.fits es.size = true) (hx:es[p]? = some (hs,x)) (h:Q x s):wpAny (model prog w) A (setNextDrawn a p ep) Q E s:=by
  unfold setNextDrawn
  refine wpAny_bind (wpAny_setState_of ho hd hf ?_)
  dsimp only
  rw [if_neg (by simp),hx]
  exact wpAny_pure h
theorem VA {Q:Bool -> Shared -> Prop} (ho:s.heap.get? a = some o) (hd:o.data = .set es ep t) (hf:t.fits es.size = true) (h:Q (!w.params.followText "set-order" && (!t.plain && decide (es.size > 1))) s):wpAny (model prog w) A (setDrawn a) Q E s:=by
  unfold setDrawn
  exact wpAny_bind (wpAny_setState_of ho hd hf (wpAny_bind (vt (wpAny_pure h))))
end
section
variable {prog:Program} {w:World} {A:Around} {E:Value -> Shared -> Prop} {h:Heap} {g:Array GenState} {d:Drawn} {tk:Nat} {os:OsState} {it a T:Addr} {o oT:Obj} {es:Array (Int × Value)} {ep:Nat} {t:SetTable} {i n c:Nat} {ps:Array Value}
theorem JH {x:Value} {hs:Int} {p:Nat} {Q:Fin -> Shared -> Prop} (hi:h.get? it = some (siO (.ref T) i (.ref a) es.size ep)) (ho:h.get? a = some o) (hd:o.data = .set es ep t) (hf:t.fits es.size = true) (hT:h.get? T = some oT) (hdT:oT.data = .seq ps c)
    (hp:ps[i]? = some (.int p 0)) (hx:es[p]? = some (hs,x)) (hq:∀ h',h'.get? it = some (siO (.ref T) (i + 1) (.ref a) es.size ep) -> Heap.SameBut it h h' -> Q (.done (.ret x)) ⟨h',g,d,tk,os⟩) :
    wpAny (model prog w) A (Builtin.«set_iterator.__next__» ⟨[.ref it],[]⟩) Q E ⟨h,g,d,tk,os⟩:=by
  unfold siO at hi
  have hE:∀ {Q':Array (Int × Value) -> Shared -> Prop},Q' es ⟨h,g,d,tk,os⟩ -> wpAny (model prog w) A (setEntries a) Q' E ⟨h,g,d,tk,os⟩:=fun q=>wpAny_setEntries_of (s:=⟨h,g,d,tk,os⟩) ho hd hf q
  have hS:∀ {Q':Option (Array Value) -> Shared -> Prop},Q' (some ps) ⟨h,g,d,tk,os⟩ -> wpAny (model prog w) A (seqItems? (.ref T)) Q' E ⟨h,g,d,tk,os⟩:=fun q=>wpAny_seqItems (s:=⟨h,g,d,tk,os⟩) hT hdT q
  unfold Builtin.«set_iterator.__next__»
  generalize hSN:setNextDrawn = SN
  generalize hSF:setField = SF
  repeat (any_goals (first | assumption | (with_reducible refine hE ?_) | (with_reducible refine hS ?_) | wp_step))
  subst hSF hSN
  have z2:((i:Int)).toNat = i:=Int.toNat_natCast _
  have z3:((ep:Int)).toNat = ep:=Int.toNat_natCast _
  rw [z2,z3,hp]
  refine wpAny_bind (show wpAny _ _ (setNextDrawn a ((p:Int)).toNat ep) _ _ _ from ?_)
  rw [Int.toNat_natCast]
  refine Qg (s:=⟨h,g,d,tk,os⟩) ho hd hf hx (wpAny_bind (wpAny_setField hi rfl (by show 1 < 5;decide) (wpAny_pure (hq _ ?_ (Heap.SameBut.update _ _ _)))))
  exact Heap.get?_update_self (Obj.mapFields (·.setIfInBounds 1 (rawInt ((i:Int) + 1)))) hi rfl
theorem wB {Q:Fin -> Shared -> Prop} (hh:A.handled = none) (hi:h.get? it = some (siO (.ref T) i (.ref a) es.size ep)) (ho:h.get? a = some o) (hd:o.data = .set es ep t) (hf:t.fits es.size = true) (hT:h.get? T = some oT) (hdT:oT.data = .seq ps c)
    (hp:ps[i]? = none) (hq:∀ h' e,Heap.ExtBut it h h' -> (∃ ob,h'.get? e = some ob /\ ob.cls = .type "StopIteration") -> E (.ref e) ⟨h',g,d,tk,os⟩) :
    wpAny (model prog w) A (Builtin.«set_iterator.__next__» ⟨[.ref it],[]⟩) Q E ⟨h,g,d,tk,os⟩:=by
  unfold siO at hi
  have hE:∀ {Q':Array (Int × Value) -> Shared -> Prop},Q' es ⟨h,g,d,tk,os⟩ -> wpAny (model prog w) A (setEntries a) Q' E ⟨h,g,d,tk,os⟩:=fun q=>wpAny_setEntries_of (s:=⟨h,g,d,tk,os⟩) ho hd hf q
  have hS:∀ {Q':Option (Array Value) -> Shared -> Prop},Q' (some ps) ⟨h,g,d,tk,os⟩ -> wpAny (model prog w) A (seqItems? (.ref T)) Q' E ⟨h,g,d,tk,os⟩:=fun q=>wpAny_seqItems (s:=⟨h,g,d,tk,os⟩) hT hdT q
  unfold Builtin.«set_iterator.__next__»
  generalize hSN:setNextDrawn = SN
  generalize hSF:setField = SF
  repeat (any_goals (first | assumption | (with_reducible refine hE ?_) | (with_reducible refine hS ?_) | wp_step))
  subst hSF hSN
  have z2:((i:Int)).toNat = i:=Int.toNat_natCast _
  rw [z2,hp]
  refine wpAny_bind (wpAny_setField hi rfl (by show 0 < 5;decide) ?_)
  have g1:=Heap.get?_update_self (Obj.mapFields (·.setIfInBounds 0 (rawInt 0))) hi rfl
  refine wpAny_bind (wpAny_setField g1 rfl (by show 2 < 5;decide) ?_)
  refine wpAny_bind (show wpAny _ _ (newExc (.type "StopIteration") []) _ _ _ from ?_)
  unfold newExc newTuple
  refine wpAny_bind (wpAny_newObj_type (wpAny_bind (m:=firstArgMember _ _) (wpAny_of_eq (a:=Value.none) (by first | rfl | (simp only [firstArgMember];rfl)) (wpAny_newObj_type ?_))))
  unfold raiseNew
  refine wpAny_bind (wpAny_handled ?_)
  rw [hh]
  refine wpAny_bind (wpAny_pure (wpAny_throw (hq _ _ (fun b p hb e=>?_) ⟨_,Heap.get?_push_size _ rfl,rfl⟩)))
  exact Heap.get?_push_of_some _ (Heap.get?_push_of_some _ ((Heap.get?_update_other _ _ (Ne.symm hb)).trans ((Heap.get?_update_other _ _ (Ne.symm hb)).trans e)))
end
section
variable {prog:Program} {w:World} {A:Around} {E:Value -> Shared -> Prop} {s:Shared} {it:Addr} {oi:Obj}
theorem Wc {x:Value} {Q:Option Value -> Shared -> Prop} {N:Heap -> Prop} (hi:s.heap.get? it = some oi) (hc:oi.cls = .type "set_iterator")
    (he:∀ (Q':Fin -> Shared -> Prop) (E':Value -> Shared -> Prop),(∀ h',N h' -> Heap.SameBut it s.heap h' -> Q' (.done (.ret x)) { s with heap:=h' }) -> wpAny (model prog w) A.in1 (Builtin.«set_iterator.__next__» ⟨[.ref it],[]⟩) Q' E' s)
    (hq:∀ h',N h' -> Heap.SameBut it s.heap h' -> Q (some x) { s with heap:=h' }):wpAny (model prog w) A (pyNext (.ref it)) Q E s:=by
  unfold pyNext
  refine wpAny_bind (wpAny_attempt (wpAny_callSpecial?_slot (name:=Str.ofString "__next__") (T:= "set_iterator") ⟨_,hi,hc⟩ zN (wpAny_call_entry zN (T:= "set_iterator") ⟨_,hi,hc⟩ j7 (he _ _ fun h' n sb=>⟨x,rfl,wpAny_pure (hq h' n sb)⟩) (xG _))))
theorem Wb {Q:Option Value -> Shared -> Prop} (hi:s.heap.get? it = some oi) (hc:oi.cls = .type "set_iterator")
    (he:∀ (Q':Fin -> Shared -> Prop) (E':Value -> Shared -> Prop),(∀ h' e,Heap.ExtBut it s.heap h' -> (∃ ob,h'.get? e = some ob /\ ob.cls = .type "StopIteration") -> E' (.ref e) { s with heap:=h' }) -> wpAny (model prog w) A.in1 (Builtin.«set_iterator.__next__» ⟨[.ref it],[]⟩) Q' E' s)
    (hq:∀ h',Heap.ExtBut it s.heap h' -> Q none { s with heap:=h' }):wpAny (model prog w) A (pyNext (.ref it)) Q E s:=by
  unfold pyNext
  refine wpAny_bind (wpAny_attempt (wpAny_callSpecial?_slot (name:=Str.ofString "__next__") (T:= "set_iterator") ⟨_,hi,hc⟩ zN (wpAny_call_entry zN (T:= "set_iterator") ⟨_,hi,hc⟩ j7 (he _ _ fun h' e xb ob=>?_) (xG _))))
  obtain ⟨ob,e1,e2⟩:=ob
  refine wpAny_bind (wpAny_isInstance (T:= "StopIteration") (b:=true) ⟨_,e1,e2⟩ isSubtype_stop ?_)
  exact wpAny_pure (hq h' xb)
end
theorem xp:Slot "set_iterator" "__iter__" "set_iterator.__iter__" :=
  .of (owner:= "set_iterator") (n:= "__iter__") (by rw [typeLookup_type,builtinLookup_eq_fast];kernel_rfl) (by decide +kernel) (by decide +kernel) (by decide +kernel)
    (by first | exact .inl (by decide +kernel) | exact .inr (by decide +kernel)) (by rw [isSubtype_type];kernel_rfl)
theorem wE:entryFor table "set_iterator.__iter__" = some Builtin.«dict_keyiterator.__iter__»:=
  entryFor_alias (id':= "dict_keyiterator.__iter__") (by kernel_rfl) (by first | rfl | decide +kernel) (by decide +kernel) (by kernel_rfl)
theorem yU (x:Value):argsOk "set_iterator.__iter__" ⟨[x],[]⟩:=by unfold argsOk;kernel_rfl
section
variable {prog:Program} {w:World} {A:Around}
theorem vK {it:Addr} {fp:List Addr} {n:Nat} {P:Nat -> Value -> Prop} {St:Nat -> Heap -> Prop} (hf:it ∈ fp) (ho:∀ i h,St i h -> ∃ oi,h.get? it = some oi /\ oi.cls = .type "set_iterator")
    (hfr:∀ i h h',St i h -> (∀ b ∈ fp,∀ o,h.get? b = some o -> h'.get? b = some o) -> St i h')
    (hit:∀ i (s:Shared),i < n -> St i s.heap -> ∃ x,P i x /\ ∀ (Q':Fin -> Shared -> Prop) (E':Value -> Shared -> Prop),(∀ h',St (i + 1) h' -> Heap.SameBut it s.heap h' -> Q' (.done (.ret x)) { s with heap:=h' }) -> wpAny (model prog w) A.in1 (Builtin.«set_iterator.__next__» ⟨[.ref it],[]⟩) Q' E' s)
    (hen:∀ (s:Shared),St n s.heap -> ∀ (Q':Fin -> Shared -> Prop) (E':Value -> Shared -> Prop),(∀ h' e,Heap.ExtBut it s.heap h' -> (∃ ob,h'.get? e = some ob /\ ob.cls = .type "StopIteration") -> E' (.ref e) { s with heap:=h' }) -> wpAny (model prog w) A.in1 (Builtin.«set_iterator.__next__» ⟨[.ref it],[]⟩) Q' E' s) :
    Walks prog w A it fp [it] n P St where
  sub:=fun b hb=>by rw [List.mem_singleton.mp hb];exact hf
  frame:=hfr
  item:=fun i s Q E hi st hQ=>by
    obtain ⟨oi,e,c⟩:=ho i _ st
    obtain ⟨x,px,hx⟩:=hit i s hi st
    exact Wc e c hx fun h' st' sb=>hQ x h' s.toks px st' fun b o hb e=>(sb.2 b fun z=>hb (by rw [z];exact List.mem_singleton.mpr rfl)).trans e
  done:=fun s Q E st hQ=>by
    obtain ⟨oi,e,c⟩:=ho n _ st
    exact Wb e c (hen s st) fun h' xb=>hQ h' s.toks fun b o hb e=>xb b o (fun z=>hb (by rw [z];exact List.mem_singleton.mpr rfl)) e
  self:=fun i s Q E st hQ=>by
    obtain ⟨oi,e,c⟩:=ho i _ st
    refine wpAny_pyIter_slot (T:= "set_iterator") ⟨_,e,c⟩ xp (wpAny_call_entry xp (T:= "set_iterator") ⟨_,e,c⟩ wE ?_ (yU _))
    exact wpAny_pure ⟨_,rfl, "set_iterator",_,⟨_,e,c⟩,zN.lookup,hQ⟩
def xa (pl:Array Nat):Nat -> Nat
  | 0=>0
  | i + 1=>pl.getD i 0 + 1
theorem wm {pl:Array Nat} (u:Up pl) {i:Nat} (h:i <= pl.size):SetTable.below pl (xa pl i) = i:=by
  cases i with
  | zero=>exact ZN u (Nat.zero_le _) (fun k a hk=>absurd hk (Nat.not_lt_zero _)) fun k a _ _=>Nat.zero_le _
  | succ i=>
    have e:pl[i]? = some (pl[i]'(by omega)):=Array.getElem?_eq_getElem _
    have es:xa pl (i + 1) = pl[i]'(by omega) + 1:=by show pl.getD i 0 + 1 = _;rw [Array.getD_eq_getD_getElem?,e];rfl
    rw [es]
    refine ZN u h (fun k a hk ek=>?_) fun k a hk ek=>?_
    · by_cases q:k = i
      · subst q;rw [e] at ek;cases ek;omega
      · have:=u.lt ek e (by omega);omega
    · have:=u.lt e ek (by omega);omega
variable {it a T:Addr} {o oT:Obj} {es:Array (Int × Value)} {ep c:Nat} {t:SetTable}
theorem Jz (hh:A.handled = none) (hT:w.params.followText "set-order" = true) (hd:o.data = .set es ep t) (hf:t.fits es.size = true) :
    Walks prog w A it [it,a] [it] es.size (fun i v=>((pickOrder (w.params.setOrder a ep) es).toList.map (·.2))[i]? = some v) (fun i h=>h.get? it = some (siO (.int 0 0) i (.ref a) es.size ep) /\ h.get? a = some o):=by
  have ln:(pickOrder (w.params.setOrder a ep) es).size = es.size:=by have:=(wX (w.params.setOrder a ep) es).length_eq;rwa [Array.length_toList,Array.length_toList] at this
  refine vK (by simp) (fun i h st=>⟨_,st.1,rfl⟩) (fun i h h' st k=>⟨k it (by simp) _ st.1,k a (by simp) _ st.2⟩) (fun i s hi st=>?_) fun s st Q' E' hq=>?_
  · have e:(pickOrder (w.params.setOrder a ep) es)[i]? = some ((pickOrder (w.params.setOrder a ep) es)[i]'(by omega)):=Array.getElem?_eq_getElem _
    refine ⟨((pickOrder (w.params.setOrder a ep) es)[i]'(by omega)).2,by rw [List.getElem?_map,Array.getElem?_toList,e];rfl,fun Q' E' hq=>?_⟩
    obtain ⟨h,g,d,tk,os⟩:=s
    refine Zh (sl:=0) (nx:=0) st.1 st.2 hd hf (fun Q2 q2=>w6 (s:=⟨h,g,d,tk,os⟩) hT st.2 hd hf (by rw [e];exact q2)) fun h' g1 sb=>hq h' ⟨g1,?_⟩ sb
    have ne:a ≠ it:=fun z=>by
      have h1:=st.1
      have h2:=st.2
      rw [z,h1] at h2
      cases h2
      cases hd
    exact (sb.2 a ne).trans st.2
  · have e:(pickOrder (w.params.setOrder a ep) es)[es.size]? = none:=Array.getElem?_eq_none (by omega)
    obtain ⟨h,g,d,tk,os⟩:=s
    exact xr (sl:=0) hh st.1 st.2 hd hf (fun Q2 q2=>w6 (s:=⟨h,g,d,tk,os⟩) hT st.2 hd hf (by rw [e];exact q2)) fun h' e xb ob=>hq h' e xb ob
theorem Xe (hh:A.handled = none) (hT:w.params.followText "set-order" = false) (hp:(!t.plain && decide (es.size > 1)) = false) (hl:t.led = true) (u:Up t.place) (hd:o.data = .set es ep t) (hf:t.fits es.size = true) :
    Walks prog w A it [it,a] [it] es.size (fun i v=>(es.toList.map (·.2))[i]? = some v) (fun i h=>h.get? it = some (siO (.int (xa t.place i:Nat) 0) i (.ref a) es.size ep) /\ h.get? a = some o):=by
  have sz:t.place.size = es.size:=by
    simp only [SetTable.fits,Bool.and_eq_true,beq_iff_eq] at hf
    exact hf.1
  refine vK (by simp) (fun i h st=>⟨_,st.1,rfl⟩) (fun i h h' st k=>⟨k it (by simp) _ st.1,k a (by simp) _ st.2⟩) (fun i s hi st=>?_) fun s st Q' E' hq=>?_
  · have e:es[i]? = some (es[i]'hi):=Array.getElem?_eq_getElem _
    have ep':t.place[i]? = some (t.place[i]'(by omega)):=Array.getElem?_eq_getElem _
    have es1:xa t.place (i + 1) = t.place[i]'(by omega) + 1:=by show t.place.getD i 0 + 1 = _;rw [Array.getD_eq_getD_getElem?,ep'];rfl
    refine ⟨(es[i]'hi).2,by rw [List.getElem?_map,Array.getElem?_toList,e];rfl,fun Q' E' hq=>?_⟩
    obtain ⟨h,g,d,tk,os⟩:=s
    refine Zh (sl:=xa t.place i) (nx:=xa t.place (i + 1)) st.1 st.2 hd hf (fun Q2 q2=>Zq (s:=⟨h,g,d,tk,os⟩) hT hp hl st.2 hd hf ?_) fun h' g1 sb=>hq h' ⟨g1,?_⟩ sb
    · rw [wm u (by omega),e,ep']
      rw [es1] at q2
      exact q2
    · have ne:a ≠ it:=fun z=>by
        have h1:=st.1
        have h2:=st.2
        rw [z,h1] at h2
        cases h2
        cases hd
      exact (sb.2 a ne).trans st.2
  · obtain ⟨h,g,d,tk,os⟩:=s
    refine xr (sl:=xa t.place es.size) hh st.1 st.2 hd hf (fun Q2 q2=>Zq (s:=⟨h,g,d,tk,os⟩) hT hp hl st.2 hd hf ?_) fun h' e xb ob=>hq h' e xb ob
    rw [wm u (by omega),Array.getElem?_eq_none (xs:=es) (by omega)]
    exact q2
theorem ZP {ps:List Nat} (hh:A.handled = none) (hd:o.data = .set es ep t) (hf:t.fits es.size = true) (hT:oT.data = .seq (ps.map fun i:Nat=>Value.int i 0).toArray c) (pm:ps.Perm (List.range es.size)) :
    Walks prog w A it [it,a,T] [it] es.size (fun i v=>(ps.map fun j=>(es.getD j (0,.none)).2)[i]? = some v) (fun i h=>h.get? it = some (siO (.ref T) i (.ref a) es.size ep) /\ h.get? a = some o /\ h.get? T = some oT):=by
  have ln:ps.length = es.size:=by have:=pm.length_eq;rwa [List.length_range] at this
  have lt:∀ j ∈ ps,j < es.size:=fun j hj=>List.mem_range.mp (pm.mem_iff.mp hj)
  have ne:∀ (h:Heap) (i:Nat),h.get? it = some (siO (.ref T) i (.ref a) es.size ep) -> h.get? a = some o -> h.get? T = some oT -> a ≠ it /\ T ≠ it:=fun h i h1 h2 h3=>by
    refine ⟨fun z=>?_,fun z=>?_⟩
    · rw [z,h1] at h2;cases h2;cases hd
    · rw [z,h1] at h3;cases h3;cases hT
  refine vK (by simp) (fun i h st=>⟨_,st.1,rfl⟩) (fun i h h' st k=>⟨k it (by simp) _ st.1,k a (by simp) _ st.2.1,k T (by simp) _ st.2.2⟩) (fun i s hi st=>?_) fun s st Q' E' hq=>?_
  · have hi':i < ps.length:=by omega
    have hj:=lt _ (List.getElem_mem hi')
    have e:es[ps[i]]? = some (es[ps[i]]'hj):=Array.getElem?_eq_getElem _
    refine ⟨(es[ps[i]]'hj).2,?_,fun Q' E' hq=>?_⟩
    · rw [List.getElem?_map,List.getElem?_eq_getElem hi']
      show some (es.getD ps[i] (0,.none)).2 = some _
      rw [Array.getD_eq_getD_getElem?,e]
      rfl
    obtain ⟨h,g,d,tk,os⟩:=s
    obtain ⟨n1,n2⟩:=ne h i st.1 st.2.1 st.2.2
    refine JH (p:=ps[i]) st.1 st.2.1 hd hf st.2.2 hT (by simp [hi']) (hs:=(es[ps[i]]'hj).1) e fun h' g1 sb=>hq h' ⟨g1,(sb.2 a n1).trans st.2.1,(sb.2 T n2).trans st.2.2⟩ sb
  · obtain ⟨h,g,d,tk,os⟩:=s
    exact wB hh st.1 st.2.1 hd hf st.2.2 hT (by simp;omega) fun h' e xb ob=>hq h' e xb ob
end
section
variable {prog:Program} {w:World} {A:Around} {E:Value -> Shared -> Prop} {s:Shared} {a:Addr} {o:Obj} {es:Array (Int × Value)} {ep:Nat} {t:SetTable}
def zbj (prog:Program) (w:World) (s:Shared) (a:Addr) (es:Array (Int × Value)) (Q:Value -> Shared -> Prop):Prop:=
  ∀ (it:Addr) (fp:List Addr) (h':Heap) (d':Drawn) (ord:List Value) (St:Nat -> Heap -> Prop),s.heap.objs.size <= it -> (∀ A':Around,A'.handled = none -> Walks prog w A' it fp [it] es.size (fun i v=>ord[i]? = some v) St) -> St 0 h' ->
    (∀ c u,s.heap.get? c = some u -> h'.get? c = some u) -> (∀ c ∈ fp,c = a \/ s.heap.objs.size <= c) -> ord.Perm (es.toList.map (·.2)) -> Q (.ref it) { s with heap:=h',drawn:=d' }
theorem JV {Q:Value -> Shared -> Prop} (ho:s.heap.get? a = some o) (hex:o.ExactSet) (hd:o.data = .set es ep t) (hf:t.fits es.size = true) (hb:es.size < scanBound) (tb:TabOk (wD w) t) (h:zbj prog w s a es Q):wpAny (model prog w) A (pyIter (.ref a)) Q E s:=by
  have hT:s.TypeIs (.ref a) "set" :=⟨_,ho,hex.1⟩
  refine wpAny_pyIter_slot hT slot_set_iter (wpAny_call_entry slot_set_iter hT vW ?_ (wG _))
  have lt:=Heap.lt_size ho
  unfold Builtin.«frozenset.__iter__»
  refine wpAny_bind (show wpAny _ _ (pure a) _ _ _ from wpAny_pure ?_)
  refine wpAny_bind (show wpAny _ _ (setEntries a >>= fun x=>pure x.size) _ _ _ from wpAny_bind (wpAny_setEntries_of ho hd hf (wpAny_pure ?_)))
  refine wpAny_bind (VA ho hd hf ?_)
  cases ft:w.params.followText "set-order" with
  | true=>
    refine wpAny_bind (wpAny_pure (wpAny_bind (wpAny_setEpoch_of ho hd hf (wpAny_bind (wpAny_newObj_type (wpAny_pure ⟨_,rfl, "set_iterator",_,⟨_,Heap.get?_push_size _ rfl,rfl⟩,zN.lookup,?_⟩))))))
    refine h s.heap.objs.size [s.heap.objs.size,a] _ s.drawn _ _ (Nat.le_refl _) (fun A' hh=>Jz hh ft hd hf) ⟨Heap.get?_push_size _ rfl,Heap.get?_push_of_some _ ho⟩ (fun c u e=>Heap.get?_push_of_some _ e) (fun c hc=>?_) ((wX _ es).map _)
    rcases List.mem_cons.mp hc with z | z
    · rw [z];exact .inr (Nat.le_refl _)
    · exact .inl (List.mem_singleton.mp z)
  | false=>
    have hl:t.led = true:=by rw [tb.led];unfold wD;rw [ft];rfl
    cases hp:(!t.plain && decide (es.size > 1)) with
    | false=>
      refine wpAny_bind (wpAny_pure (wpAny_bind (wpAny_setEpoch_of ho hd hf (wpAny_bind (wpAny_newObj_type (wpAny_pure ⟨_,rfl, "set_iterator",_,⟨_,Heap.get?_push_size _ rfl,rfl⟩,zN.lookup,?_⟩))))))
      refine h s.heap.objs.size [s.heap.objs.size,a] _ s.drawn _ _ (Nat.le_refl _) (fun A' hh=>Xe hh ft hp hl tb.up hd hf) ⟨Heap.get?_push_size _ rfl,Heap.get?_push_of_some _ ho⟩ (fun c u e=>Heap.get?_push_of_some _ e) (fun c hc=>?_) (.refl _)
      rcases List.mem_cons.mp hc with z | z
      · rw [z];exact .inr (Nat.le_refl _)
      · exact .inl (List.mem_singleton.mp z)
    | true=>
      refine wpAny_bind (yX _ _ s (by simp) fun d' ps pm=>?_)
      have ln:ps.length = es.size:=by have:=pm.length_eq;rwa [List.length_range] at this
      refine wpAny_bind (show wpAny _ _ (newObj (.type "tuple") (.seq (ps.map fun (i:Nat)=>rawInt i).toArray)) _ _ _ from wpAny_newObj_type ?_ (by show (ps.map fun (i:Nat)=>rawInt i).toArray.size <= sizeLine;rw [List.size_toArray,List.length_map,ln];exact fits_of_scanBound hb))
      have ho1:=Heap.get?_push_of_some { cls:=.type "tuple",data:=.seq (ps.map fun (i:Nat)=>rawInt i).toArray } ho
      refine wpAny_bind (wpAny_setEpoch_of ho1 hd hf (wpAny_bind (wpAny_newObj_type (wpAny_pure ⟨_,rfl, "set_iterator",_,⟨_,Heap.get?_push_size _ rfl,rfl⟩,zN.lookup,?_⟩))))
      refine h _ [_,a,s.heap.objs.size] _ d' _ _ ?_ (fun A' hh=>ZP (T:=s.heap.objs.size) (ps:=ps) hh hd hf (c:=0) (oT:={ cls:=.type "tuple",data:=.seq (ps.map fun (i:Nat)=>rawInt i).toArray }) rfl pm) ⟨Heap.get?_push_size _ rfl,Heap.get?_push_of_some _ ho1,Heap.get?_push_of_some _ (Heap.get?_push_size _ rfl)⟩ (fun c u e=>Heap.get?_push_of_some _ (Heap.get?_push_of_some _ e)) (fun c hc=>?_) ?_
      · rw [Heap.size_push];exact Nat.le_succ _
      · rcases List.mem_cons.mp hc with z | z
        · rw [z,Heap.size_push];exact .inr (Nat.le_succ _)
        · rcases List.mem_cons.mp z with z | z
          · exact .inl z
          · rw [List.mem_singleton.mp z];exact .inr (Nat.le_refl _)
      · have e:es.toList.map (·.2) = (List.range es.size).map fun j=>(es.getD j (0,.none)).2:=by
          refine List.ext_getElem (by simp) fun j h1 h2=>?_
          simp only [List.length_map,List.length_range,Array.length_toList] at h1
          simp [Array.getD_eq_getD_getElem?,h1]
        rw [e]
        exact pm.map _
end
section
variable {prog:Program} {w:World} {A:Around} {E:Value -> Shared -> Prop} {s:Shared} {a:Addr} {o:Obj} {es:Array (Int × Value)} {ep:Nat} {t:SetTable}
theorem VC {Q:Bool -> Shared -> Prop} (hT:s.TypeIs (.ref a) "set") (h:Q false s):wpAny (model prog w) A (Builtin.List.listLengthHint (.ref a)) Q E s:=by
  unfold Builtin.List.listLengthHint
  refine wpAny_bind (wpAny_specialOf hT PySem.F.slot_set_len.lookup ?_)
  generalize e0:("set.__len__" : String) = id0
  wp_delta
  rw [show splitId id0 = some ("set", "__len__") from by subst e0;decide +kernel]
  subst e0
  refine wpAny_bind (wpAny_isInstance (T:= "set") (b:=true) hT (by rw [isSubtype_type];kernel_rfl) ?_)
  refine wpAny_ite_split (fun z=>absurd z (by decide)) fun _=>wpAny_ite_split (fun _=>wpAny_bind (wpAny_typeOf hT (wpAny_pure h))) fun z=>absurd (by decide +kernel) z
theorem W3 {acc:Array Value} {ord:List Value} {n:Nat} (h:ItemsOf (fun i v=>ord[i]? = some v) acc n) (l:ord.length = n):acc.toList = ord:=by
  refine List.ext_getElem? fun i=>?_
  by_cases hi:i < acc.size
  · have e:=Array.getElem?_eq_getElem hi
    rw [Array.getElem?_toList,e]
    exact (h.2 i _ e).symm
  · rw [List.getElem?_eq_none (by rw [Array.length_toList];omega),List.getElem?_eq_none (by have:=h.1;omega)]
theorem VI {R:Result -> Shared -> Prop} (hh:A.handled = none) (ho:s.heap.get? a = some o) (hex:o.ExactSet) (hd:o.data = .set es ep t) (hf:t.fits es.size = true) (hb:es.size < scanBound) (tb:TabOk (wD w) t) (S:Addr) (hSa:S ≠ a) (res:Value) (c0:Nat)
    (hS:s.heap.get? S = some { cls:=.type "list",data:=.seq #[] c0 })
    (hR:∀ h' tk d' acc c',(∀ b u,b ≠ S -> s.heap.get? b = some u -> h'.get? b = some u) -> h'.get? S = some { cls:=.type "list",dict:=none,data:=.seq acc c',slots:=#[] } -> acc.toList.Perm (es.toList.map (·.2)) -> R (.ok (.ret res)) { s with heap:=h',toks:=tk,drawn:=d' }) :
    wpAny (model prog w) A.in1 (Builtin.List.listExtendWith (.ref S) (.ref a) res) (fun fin s'=>match fin with | .done f=>R (.ok f) s' | .again c'=>c'.quiet = true /\ codeAny (model prog w) A c' R s') (fun e s'=>R (.error e) s') s:=by
  have hn:=fits_of_scanBound hb
  have hT:s.TypeIs (.ref a) "set" :=⟨_,ho,hex.1⟩
  have ltS:=Heap.lt_size hS
  have nsr:Builtin.List.listSameRef (.ref S) (.ref a) = false:=by simp [Builtin.List.listSameRef,hSa]
  have nl:(Value.type "set" == Value.type "list") = false:=by decide
  have nt:(Value.type "set" == Value.type "tuple") = false:=by decide
  unfold Builtin.List.listExtendWith
  refine wpAny_bind (wpAny_typeOf hT ?_)
  simp only [nsr,nl,nt,Bool.or_false,Bool.false_eq_true,if_false]
  refine wpAny_bind (JV ho hex hd hf hb tb fun it fp h1 d1 ord St hit W st k1 fpn pm=>?_)
  have lo:ord.length = es.size:=by have:=pm.length_eq;rwa [List.length_map,Array.length_toList] at this
  have hSf:S ∉ fp:=fun z=>by
    rcases fpn S z with q | q
    · exact hSa q
    · exact absurd ltS (Nat.not_lt.mpr q)
  have loop:∀ (h2:Heap) (c1 tk:Nat),St 0 h2 -> (∀ b u,b ≠ S -> s.heap.get? b = some u -> h2.get? b = some u) -> h2.get? S = some { cls:=.type "list",data:=.seq #[] c1 } ->
      codeAny (model prog w) A (.builtin "list.extend.loop" ⟨[.ref S,.ref it,res],[]⟩) R ⟨h2,s.gens,d1,tk,s.os⟩:=by
    intro h2 c1 tk st2 k2 hS2
    refine codeAny_extend_loopS (W A.in1 hh).toS hn S hSf res es.size 0 _ #[] c1 rfl (Nat.zero_le _) st2 hS2 (ItemsOf.nil _) fun s' acc c' hm hS' it'=>?_
    rw [Moved.eq_with hm]
    refine hR s'.heap s'.toks d1 acc c' (fun b u hb e=>hm.heap b u (fun z=>?_) (k2 b u hb e)) hS' (by rw [W3 it' lo];exact pm)
    rcases List.mem_cons.mp z with q | q
    · exact hb q
    · rw [List.mem_singleton.mp q] at e
      exact absurd (Heap.lt_size e) (Nat.not_lt.mpr hit)
  have hS1:=k1 S _ hS
  have hT1:Shared.TypeIs ⟨h1,s.gens,d1,s.toks,s.os⟩ (.ref a) "set" :=⟨_,k1 a _ ho,hex.1⟩
  refine wpAny_bind (wpAny_holding (VC hT1 ?_))
  refine wpAny_ite_split (fun _=>?_) (fun _=>wpAny_pure ⟨plainId_quiet PySem.F.plain_extend_loop _,loop h1 c0 _ st (fun b u _ e=>k1 b u e) hS1⟩)
  refine wpAny_bind (wpAny_rule (wpAny_bind (show wpAny _ _ (updateSeq S (·.push .none) >>= fun _=>updateSeq S (·.pop)) _ _ _ from wpAny_bind (wpAny_updateSeq hS1 rfl ?_))))
  have hS2:=Heap.get?_update_self (Obj.mapSeq (·.push Value.none)) hS1 rfl
  refine wpAny_updateSeq (hz:=by seq_fits) hS2 rfl ?_
  have hS3:=Heap.get?_update_self (Obj.mapSeq (·.pop)) hS2 rfl
  have oth:∀ b u,b ≠ S -> h1.get? b = some u -> ((h1.update S (Obj.mapSeq (·.push Value.none))).update S (Obj.mapSeq (·.pop))).get? b = some u:=fun b u hb e=>(Heap.get?_update_other _ _ (Ne.symm hb)).trans ((Heap.get?_update_other _ _ (Ne.symm hb)).trans e)
  refine wpAny_pure ⟨plainId_quiet PySem.F.plain_extend_loop _,loop _ _ _ ((W A.in1 hh).frame 0 _ _ st fun b hb u e=>oth b u (fun z=>hSf (z ▸ hb)) e) (fun b u hb e=>oth b u hb (k1 b u e)) hS3⟩
end
section
variable {prog:Program} {w:World} {A:Around} {E:Value -> Shared -> Prop} {s:Shared} {a:Addr} {o:Obj} {es:Array (Int × Value)} {ep:Nat} {t:SetTable}
theorem J5 {R:List Value -> Shared -> Prop} (hh:A.handled = none) (ho:s.heap.get? a = some o) (hex:o.ExactSet) (hd:o.data = .set es ep t) (hf:t.fits es.size = true) (hb:es.size < scanBound) (tb:TabOk (wD w) t)
    (h:∀ h' tk d' vs,(∀ b u,s.heap.get? b = some u -> h'.get? b = some u) -> vs.Perm (es.toList.map (·.2)) -> R vs { s with heap:=h',toks:=tk,drawn:=d' }):wpAny (model prog w) A (collect (.ref a)) R E s:=by
  have lt:=Heap.lt_size ho
  unfold collect
  refine wpAny_bind (wpAny_runValue (codeAny_builtin PySem.F.entry_proto_collect ?_))
  rw [Around.under_plainId PySem.F.plain_proto_collect _]
  refine (show wpAny _ A.in1 (newList [] >>= fun l=>again (.builtin "list.__iadd__" ⟨[l,.ref a],[]⟩)) _ _ s from wpAny_bind (wpAny_newObj_type (wpAny_pure ⟨plainId_quiet PySem.F.plain_list_iadd _,codeAny_builtin PySem.F.entry_list_iadd ?_⟩)))
  rw [Around.under_plainId PySem.F.plain_list_iadd _]
  have hS:(s.heap.push { cls:=.type "list",data:=.seq ([]:List Value).toArray }).get? s.heap.objs.size = some { cls:=.type "list",data:=.seq #[] }:=Heap.get?_push_size _ rfl
  have key:=VI (A:=A) (w:=w) (prog:=prog) (s:={ s with heap:=s.heap.push { cls:=.type "list",data:=.seq ([]:List Value).toArray } }) (a:=a)
    (R:=fun q s'=>∃ (h':Heap) (tk:Nat) (d':Drawn) (acc:Array Value) (c':Nat),q = .ok (.ret (.ref s.heap.objs.size)) /\ s' = { s with heap:=h',toks:=tk,drawn:=d' } /\ (∀ b u,s.heap.get? b = some u -> h'.get? b = some u) /\
      h'.get? s.heap.objs.size = some { cls:=.type "list",dict:=none,data:=.seq acc c',slots:=#[] } /\ acc.toList.Perm (es.toList.map (·.2)))
    hh (Heap.get?_push_of_some _ ho) hex hd hf hb tb s.heap.objs.size (Nat.ne_of_gt lt) (.ref s.heap.objs.size) 0 hS fun h' tk d' acc c' k e p=>⟨h',tk,d',acc,c',rfl,rfl,fun b u eb=>k b u (Nat.ne_of_lt (Heap.lt_size eb)) (Heap.get?_push_of_some _ eb),e,p⟩
  refine wpAny_mono key (fun fin s' x=>?_) fun e s' x=>?_
  · cases fin with
    | done f=>
      obtain ⟨h',tk,d',acc,c',e,rfl,k,eS,p⟩:=x
      cases e
      exact wpAny_bind (wpAny_load eS (wpAny_pure (h h' tk d' _ k p)))
    | again c1=>
      refine ⟨x.1,codeAny_mono x.2 fun q s2 y=>?_⟩
      obtain ⟨h',tk,d',acc,c',rfl,rfl,k,eS,p⟩:=y
      exact wpAny_bind (wpAny_load eS (wpAny_pure (h h' tk d' _ k p)))
  · obtain ⟨_,_,_,_,_,e',_⟩:=x
    cases e'
end
section
variable {X:Cx}
def yw (P:Program) (w:World) (p:Addr) (ks:List Key):HO:=.ext fun h=>SetX (zq P w) (wD w) h p ks
end
theorem Inv.drawn {X:Cx} {pins:List (Addr × Obj)} {σ:St} {H:Hp} {s:Shared} (I:Inv X pins σ H s) (d:Drawn):Inv X pins σ H { s with drawn:=d }:=
  I.call' (s':={ s with drawn:=d }) (ch:=[]) rfl Un.refl I.hok I.bare fun b hb=>(nomatch hb)
theorem vO {α β γ:Type} {R:α -> γ -> Prop} {f:β -> γ}:∀ {xs:List α} {ys:List β},Paired (fun x y=>R x (f y)) xs ys -> Paired R xs (ys.map f)
  | _,_,.nil=>.nil
  | _,_,.cons h t=>.cons h (vO t)
theorem XH:∀ {ks:List Key},(∀ k ∈ ks,∃ i,k = Sum.inr i) -> ∃ zs:List Str,ks = zs.map Sum.inr
  | [],_=>⟨[],rfl⟩
  | k :: ks,h=>by
    obtain ⟨i,e⟩:=h k (by simp)
    obtain ⟨zs,e2⟩:=XH (ks:=ks) fun k' hk=>h k' (List.mem_cons_of_mem _ hk)
    exact ⟨i :: zs,by rw [e,e2];rfl⟩
theorem xU {P:Program} {w:World}:∀ {zs:List Str} {vs:List Value},Paired (fun k v=>(zq P w).is k v = true) (zs.map Sum.inr) vs -> StrsAre vs zs
  | [],vs,h=>by cases h;exact .nil
  | z :: zs,vs,h=>by
    cases h with
    | cons r t=>
      obtain ⟨tk,rfl⟩:=Yu r
      exact .cons z tk (xU t)
theorem yE {α β:Type} {f:α -> β} {l:List α} (h:(l.map f).Nodup):l.Nodup:=by
  have h':l.Pairwise fun a b=>f a ≠ f b:=List.pairwise_map.mp h
  exact h'.imp fun n e=>n (by rw [e])
section
variable {X:Cx}
theorem JF {pins:List (Addr × Obj)} {σ:St} {H:Hp} {s:Shared} {a:Addr} {ks:List Key} {E:Value -> Shared -> Prop} {Q:Value -> Shared -> Prop} (hh:X.A.handled = none) (I:Inv X pins σ H s) (hx:H a = some (yw X.prog X.w a ks))
    (h:∀ (h':Heap) (tk:Nat) (d':Drawn) (vs:List Value) (ks':List Key),ks'.Perm ks -> ks.Nodup -> Paired (fun k v=>(zq X.prog X.w).is k v = true) ks' vs -> (∀ b u,s.heap.get? b = some u -> h'.get? b = some u) ->
      wpAny (model X.prog X.w) X.A.in1.in1 (Builtin.«list.sort» ⟨[.ref h'.objs.size],[]⟩) (fun fin s'=>∃ v,fin = .done (.ret v) /\ Q (.ref h'.objs.size) s') E { s with heap:=h'.push (seqObj "list" vs.toArray 0),toks:=tk,drawn:=d' }) (h64:ks.length < 64) :
    wpAny (model X.prog X.w) X.A (call (.builtin "sorted") [.ref a]) Q E s:=by
  obtain ⟨sx,_,_⟩:=(show ObjOk X.prog X.w H s.heap a (yw X.prog X.w a ks) from I.hok a _ hx)
  obtain ⟨o,ho,es,ep,t,hex,hd,el,nd,hb,hf,tb⟩:=sx
  have le:=el.len
  rw [Array.length_toList] at le
  obtain ⟨_,ks1,p1,pr⟩:=el
  have sz:sizeLine = 16777216:=sizeLine_eq
  refine Calls.call_function_entry kind_sorted plain_sorted entry_sorted (args_sorted1 _) ?_
  delta Builtin.«sorted»
  refine wpAny_bind (m:=checkCount "sorted" 1 1 _) (wpAny_pure (wpAny_bind (J5 hh ho hex hd hf hb tb fun h' tk d' vs keep pm=>?_)))
  obtain ⟨ks2,p2,pr2⟩:=xX pm (vO (R:=fun k v=>(zq X.prog X.w).is k v = true) (f:=Prod.snd) pr)
  have lv:vs.length = es.size:=by have:=pm.length_eq;rwa [List.length_map,Array.length_toList] at this
  refine wpAny_bind (wpAny_newList ?_ (by omega))
  have at_:(h'.push (seqObj "list" vs.toArray 0)).get? h'.objs.size = some (seqObj "list" vs.toArray 0):=Heap.get?_push_size _ rfl
  refine wpAny_bind (wpAny_holding (wpAny_call_entry slot_list_sort ⟨_,at_,rfl⟩ entry_list_sort (wpAny_mono (h h' tk d' vs ks2 (p2.trans p1) nd pr2 keep) (fun fin s' x=>?_) fun _ _ e=>e) (args_list_sort _)))
  obtain ⟨v,ev,q⟩:=x
  exact ⟨v,ev,wpAny_pure ⟨_,rfl,q⟩⟩
theorem Zy {pins:List (Addr × Obj)} {σ:St} {H:Hp} {s:Shared} {h':Heap} {vs:List Value} {out:Array Value} {zs:List V} {tk:Nat} {d':Drawn} (I:Inv X pins σ H s) (keep:∀ b u,s.heap.get? b = some u -> h'.get? b = some u) (rel:Vals zs out.toList) (hz:zs.length <= sizeLine) :
    Inv X pins σ (upd H h'.objs.size (.lst zs)) { s with heap:=sortedHeap (h'.push (seqObj "list" vs.toArray 0)) h'.objs.size vs out,toks:=tk,drawn:=d' } /\ H h'.objs.size = none:=by
  have at_:(h'.push (seqObj "list" vs.toArray 0)).get? h'.objs.size = some (seqObj "list" vs.toArray 0):=Heap.get?_push_size _ rfl
  have new:s.heap.get? h'.objs.size = none:=by
    cases z:s.heap.get? h'.objs.size with
    | none=>rfl
    | some o=>exact absurd (Heap.lt_size (keep _ _ z)) (Nat.lt_irrefl _)
  obtain ⟨ep2,fin⟩:=sortedHeap_at (out:=out) at_
  refine ⟨(I.drawn d').laidN (a:=h'.objs.size) (o:=.lst zs) (t':=tk) (fun b o e=>?_) new ⟨hz,out.toList,ep2,rel,by rw [fin]⟩,I.hok.none_of new⟩
  have lt:=Heap.lt_size (keep b o e)
  rw [sortedHeap_old (Nat.ne_of_lt lt) (by rw [Heap.size_push];exact Nat.lt_succ_of_lt lt)]
  exact Heap.get?_push_of_some _ (keep b o e)
inductive jA (P:Program) (w:World) (xs:List V) (H:Hp) (Q:VK):Prop
  | mk (a:Addr) (ns:List Str) (_:xs = [.ref a]) (_:H a = some (yw P w a (wx [] (ns.map Sum.inr)))) (_:ns.length < 64) (_:∀ (p:Addr) (ms:List Str),H p = none -> sortedS ms = true -> ms.Nodup -> (∀ j,j ∈ ms ↔ j ∈ ns) -> Q (.ref p) (upd H p (.lst (ms.map V.str)))):jA P w xs H Q
theorem wF (hh:X.A.handled = none):CallR X (.builtin "sorted") (jA X.prog X.w):=by
  intro pins s σ H xs us Q I r h
  obtain ⟨a,ns,rfl,hx,h64,q⟩:=h
  obtain ⟨u,rfl,ru⟩:=Vals.one r
  cases (show u = Value.ref a from ru)
  have lk:=y6 (ns.map Sum.inr:List Key) []
  rw [List.length_nil,List.length_map] at lk
  have sz:sizeLine = 16777216:=sizeLine_eq
  refine JF hh I hx (fun h' tk d' vs ks' pm nd pr keep=>?_) (by omega)
  have mem:∀ k,k ∈ ks' ↔ k ∈ ns.map Sum.inr:=fun k=>by rw [pm.mem_iff,y4];simp
  obtain ⟨zs,ez⟩:=XH fun k hk=>by
    obtain ⟨i,_,e⟩:=List.mem_map.mp ((mem k).mp hk)
    exact ⟨i,e.symm⟩
  subst ez
  have at_:(h'.push (seqObj "list" vs.toArray 0)).get? h'.objs.size = some (seqObj "list" vs.toArray 0):=Heap.get?_push_size _ rfl
  have lz:=pm.length_eq
  rw [List.length_map] at lz
  have lv:vs.length = zs.length:=by have:=Paired.length pr;rw [List.length_map] at this;omega
  have hS:=xU pr
  refine list_sort_treeK strKind_oneLt (s:={ s with heap:=h'.push (seqObj "list" vs.toArray 0),toks:=tk,drawn:=d' }) at_ hS.keysOf (fun v1 v2 jd e=>keyKind_strs (by rw [<- e];exact hS)) (by omega) fun st' b1 b2=>⟨_,rfl,?_⟩
  obtain ⟨ms,a1,a2,a3⟩:=sorted_out_str hS b1 b2
  have ndz:zs.Nodup:=yE (pm.nodup_iff.mpr nd)
  obtain ⟨J,hn⟩:=Zy (vs:=vs) (out:=(arrOf st').map (·.2)) (zs:=ms.map V.str) (tk:=tk) (d':=d') I keep (wL a1) (by rw [List.length_map,a2.length_eq];omega)
  refine ⟨.ref h'.objs.size,_,J,rfl,q _ ms hn a3 (a2.nodup_iff.mpr ndz) fun j=>?_⟩
  rw [a2.mem_iff]
  have:=mem (Sum.inr j)
  simpa using this
end
section
variable {X:Cx} {elt iter1 iter:Expr} {ifs1 ifs:List Expr} {scope:Scope} {pos:Pos} {wi wi1:TI} {tf tf1:TT} {te:TE} {x y z u:Str} {px py pz pu tp tp2:Pos} {kk kk2:Nat}
variable {oo e:Expr} {ees:List Expr} {to:TE} {tt:TA} {name:Str} {apos cpos:Pos} {T id:String} {r:V -> List V -> Hp -> VK -> Prop}
end
end L2
namespace L2
open PySem PySem.Spec PyProof.Rows PySem.W
def KRun {α:Type} (bt:Nat -> Nat -> Bool) (n:Nat):KasT α -> (α -> Prop) -> Prop
  | .ret a,Q=>Q a
  | .ask i j k,Q=>i < n /\ j < n /\ KRun bt n (k (bt i j)) Q
theorem KRun.mono {α:Type} {bt:Nat -> Nat -> Bool} {n:Nat} {Q Q':α -> Prop} (h:∀ a,Q a -> Q' a):∀ {t:KasT α},KRun bt n t Q -> KRun bt n t Q'
  | .ret a,x=>h a x
  | .ask i j k,⟨a,b,c⟩=>⟨a,b,KRun.mono h c⟩
theorem KRun.bind {α β:Type} {bt:Nat -> Nat -> Bool} {n:Nat} {f:α -> KasT β} {Q:β -> Prop}:∀ {t:KasT α},KRun bt n t (fun a=>KRun bt n (f a) Q) -> KRun bt n (t.bind f) Q
  | .ret a,x=>x
  | .ask i j k,⟨a,b,c⟩=>⟨a,b,KRun.bind c⟩
theorem KRun.wp {α:Type} {bt:Nat -> Nat -> Bool} {n:Nat} {ask:Nat -> Nat -> (Bool -> Shared -> Prop) -> Shared -> Prop} {J:Shared -> Prop} {Q:α -> Prop} {G:α -> Shared -> Prop}
    (ha:∀ i j,i < n -> j < n -> ∀ (C:Bool -> Shared -> Prop) s,J s -> (∀ s',J s' -> C (bt i j) s') -> ask i j C s) (hg:∀ a s,Q a -> J s -> G a s):∀ {t:KasT α} {s:Shared},KRun bt n t Q -> J s -> t.kasWp ask G s
  | .ret a,s,x,j=>hg a s x j
  | .ask i j k,s,⟨a,b,c⟩,js=>ha i j a b _ s js fun s' js'=>KRun.wp ha hg c js'
section
variable {n:Nat} {r:Nat -> Nat}
def vA (r:Nat -> Nat) (p:Array Nat) (k:Nat):Nat:=r (p.getD k 0)
structure Gd (n:Nat) (p:Array Nat):Prop where
  pm:p.toList.Perm (List.range n)
theorem Gd.sz {p:Array Nat} (g:Gd n p):p.size = n:=by have:=g.pm.length_eq;rwa [Array.length_toList,List.length_range] at this
theorem Gd.at {p:Array Nat} (g:Gd n p) {k:Nat} (h:k < n):p[k]? = some (p.getD k 0):=by
  rw [Array.getD_eq_getD_getElem?,Array.getElem?_eq_getElem (by rw [g.sz];exact h)]
  rfl
theorem Gd.lt {p:Array Nat} (g:Gd n p) (hn:0 < n) (k:Nat):p.getD k 0 < n:=by
  by_cases h:k < n
  · have:=g.at h
    rw [<- Array.getElem?_toList] at this
    exact List.mem_range.mp (g.pm.mem_iff.mp (List.mem_of_getElem? this))
  · rw [Array.getD_eq_getD_getElem?,Array.getElem?_eq_none (by rw [g.sz];omega)]
    exact hn
theorem Gd.inj {p:Array Nat} (g:Gd n p) (ri:∀ i j,i < n -> j < n -> r i = r j -> i = j) {i j:Nat} (hi:i < n) (hj:j < n) (e:vA r p i = vA r p j):i = j:=by
  have hn:0 < n:=by omega
  have h1:=ri _ _ (g.lt hn i) (g.lt hn j) e
  have nd:p.toList.Nodup:=g.pm.nodup_iff.mpr List.nodup_range
  have a1:=g.at hi
  have a2:=g.at hj
  rw [<- Array.getElem?_toList] at a1 a2
  obtain ⟨b1,c1⟩:=List.getElem?_eq_some_iff.mp a1
  obtain ⟨b2,c2⟩:=List.getElem?_eq_some_iff.mp a2
  exact (List.getElem_inj nd).mp (by rw [c1,c2,h1])
def AscA (r:Nat -> Nat) (p:Array Nat) (m:Nat):Prop:=∀ i j,i < j -> j < m -> vA r p i < vA r p j
def DscA (r:Nat -> Nat) (p:Array Nat) (m:Nat):Prop:=∀ i j,i < j -> j < m -> vA r p j < vA r p i
theorem AscA.step {p:Array Nat} {m:Nat} (h:AscA r p m) (h1:1 <= m) (h2:vA r p (m - 1) < vA r p m):AscA r p (m + 1):=fun i j hij hj=>by
  by_cases e:j = m
  · subst e
    by_cases e2:i = j - 1
    · subst e2;exact h2
    · have:=h i (j - 1) (by omega) (by omega)
      omega
  · exact h i j hij (by omega)
theorem DscA.step {p:Array Nat} {m:Nat} (h:DscA r p m) (h1:1 <= m) (h2:vA r p m < vA r p (m - 1)):DscA r p (m + 1):=fun i j hij hj=>by
  by_cases e:j = m
  · subst e
    by_cases e2:i = j - 1
    · subst e2;exact h2
    · have:=h i (j - 1) (by omega) (by omega)
      omega
  · exact h i j hij (by omega)
variable {bt:Nat -> Nat -> Bool} (ri:∀ i j,i < n -> j < n -> r i = r j -> i = j) (hb:∀ i j,i < n -> j < n -> bt i j = decide (r i < r j))
include ri hb
end
end L2
namespace L2
open PySem PySem.Spec PyProof.Rows PySem.W
section
variable {prog:Program} {w:World} {A:Around} {E:Value -> Shared -> Prop} {s:Shared}
end
end L2
namespace L2
open PySem PySem.Spec PyProof.Rows PySem.W
def ltS (a b:Str):Bool:=decide (a.cps.toList < b.cps.toList)
section
variable {X:Cx} {pins:List (Addr × Obj)} {σ:St} {s:Shared}
end
end L2
namespace L2
open PySem PySem.Spec PyProof.Rows PySem.W
section
variable {X:Cx}
def xT (p d:Addr):HO:=.ext fun h=>h.IsItemsView p d
end
end L2
namespace L2
open PySem PySem.Spec PyProof.Rows
section
variable {X:Cx}
variable {elt iter:Expr} {ifs:List Expr} {scope:Scope} {pos:Pos} {wi:TI} {tf:TT} {te:TE} {x y z:Str} {px py pz tp:Pos} {kk:Nat}
end
section
variable {X:Cx}
end
section
variable {X:Cx} {elt tg iter:Expr} {ifs:List Expr} {scope:Scope} {pos:Pos} {wi:TI} {g:TG} {tf:TT} {te:TE} {x:Str}
end
end L2
namespace L2
open PySem PySem.Spec PyProof.Rows PySem.W
section
variable {prog:Program} {w:World} {A:Around} {E:Value -> Shared -> Prop} {s:Shared}
end
end L2
namespace L2
open PySem PySem.Spec PyProof.Rows PySem.W
def PrR (H:Hp) (zs:List V) (ps:List (Int × Int)):Prop:=zs.length = ps.length /\ ∀ (j:Nat) q,ps[j]? = some q -> ∃ T,zs[j]? = some (.ref T) /\ H T = some (.tup [.int q.1,.int q.2])
theorem PrR.nil {H:Hp}:PrR H [] []:=⟨rfl,fun j q e=>by simp at e⟩
theorem PrR.same {H H':Hp} {zs:List V} {ps:List (Int × Int)} (h:PrR H zs ps) (s:Same H H'):PrR H' zs ps:=⟨h.1,fun j k e=>let ⟨T,a,b⟩:=h.2 j k e;⟨T,a,s _ _ b⟩⟩
theorem PrR.snoc {H:Hp} {zs:List V} {ps:List (Int × Int)} {q:Int × Int} {T:Addr} (h:PrR H zs ps) (e:H T = some (.tup [.int q.1,.int q.2])):PrR H (zs ++ [.ref T]) (ps ++ [q]):=by
  refine ⟨by rw [List.length_append,List.length_append,h.1];rfl,fun j r hr=>?_⟩
  by_cases hj:j < ps.length
  · rw [List.getElem?_append_left hj] at hr
    obtain ⟨U,e1,e2⟩:=h.2 j r hr
    exact ⟨U,by rw [List.getElem?_append_left (by rw [h.1];exact hj)];exact e1,e2⟩
  · have hl:=(List.getElem?_eq_some_iff.mp hr).1
    rw [List.length_append] at hl
    have ej:j = ps.length:=by simp at hl;omega
    subst ej
    rw [List.getElem?_append_right (Nat.le_refl _),Nat.sub_self] at hr
    have:q = r:=by simpa using hr
    subst this
    exact ⟨T,by rw [<- h.1,List.getElem?_append_right (Nat.le_refl _),Nat.sub_self];rfl,e⟩
section
variable {X:Cx}
end
end L2
namespace L2
open PySem PySem.Spec PyProof.Rows
section
variable {X:Cx}
end
section
variable {X:Cx}
end
section
variable {X:Cx}
end
section
variable {X:Cx}
end
section
variable {X:Cx}
end
def AtQ (K:PySem.W.Frag) (H:Hp) (t:Bool) (a:Addr) (xs:List V):Prop:=if t = true then SqT K H a xs else H a = some (.lst xs)
def SqQ (K:PySem.W.Frag) (H:Hp) (t:Bool) (a:Addr) (xs:List V):Prop:=if t = true then SqT K H a xs else SqL K H a xs
theorem AtQ.sq {K:PySem.W.Frag} {H:Hp} {t:Bool} {a:Addr} {xs:List V} (h:AtQ K H t a xs):SqQ K H t a xs:=by
  cases t with
  | true=>exact h
  | false=>exact SqL.of h
theorem AtQ.same {K:PySem.W.Frag} {H H':Hp} {t:Bool} {a:Addr} {xs:List V} (h:AtQ K H t a xs) (s:Same H H'):AtQ K H' t a xs:=by
  cases t with
  | true=>exact s.sqT h
  | false=>exact s _ _ h
def oQ (t:Bool) (xs:List V):HO:=if t = true then .tup xs else .lst xs
def Tkn (H:Hp) (ex:List Addr):Prop:=∀ e ∈ ex,∃ o,H e = some o
theorem Tkn.out {H:Hp} {ex:List Addr} {p:Addr} (h:Tkn H ex) (hp:H p = none):p ∉ ex:=fun z=>by
  obtain ⟨o,e⟩:=h p z
  rw [hp] at e
  cases e
theorem AtQ.new {K:PySem.W.Frag} {H:Hp} {ex:List Addr} {p:Addr} (T:Tkn H ex) (hp:H p = none) (t:Bool) (xs:List V):AtQ K (WX ex (upd H p (oQ t xs))) t p xs:=by
  have:=WX.at (T.out hp) (zc (H:=H) (a:=p) (o:=oQ t xs))
  cases t with
  | true=>exact SqT.of this
  | false=>exact this
section
variable {X:Cx}
theorem Vc {x y:V} (pins:List (Addr × Obj)) (s:Shared) (σ:St) (H:Hp) (v u:Value) (Q:VK) (I:Inv X pins σ H s) (rx:RelV x v) (ry:RelV y u) (h:∃ a b ys,x = .ref a /\ y = .ref b /\ SqT X.K H a [] /\ SqT X.K H b ys /\ Q (.ref b) H) :
    wpAny (model X.prog X.w) X.A (binaryOp .Add v u) (EP X pins σ Q) X.xe s:=by
  obtain ⟨a,b,ys,rfl,rfl,ha,hb,q⟩:=h
  cases rx
  cases ry
  obtain ⟨i1,r1,p1,_⟩:=I.tuple ha
  obtain ⟨i2,r2,p2,_⟩:=I.tuple hb
  have hv:i1 = []:=r1.nil_iff.mpr rfl
  obtain ⟨⟨c1,d1,g1,l1⟩,o1,k1,n1,e1⟩:=p1
  obtain ⟨⟨c2,d2,g2,l2⟩,o2,k2,n2,e2⟩:=p2
  cases k1
  cases e1
  cases k2
  cases e2
  have m:=tuple_addW0 a b i1.toArray i2.toArray n1 n2 d1 d2 l1 l2 (by simp [hv])
  exact concat_meets ⟨_,o1,rfl⟩ ⟨_,o2,rfl⟩ noFill_tuple_add seq_tuple_add PySem.F.slot_tuple_add PySem.F.entry_tuple_add (PySem.F.args_tuple_add_2 _ _) m ⟨o1,o2,.ref b,H,I,rfl,q⟩
end
section
variable {X:Cx}
end
section
variable {X:Cx}
theorem vZ {K:PySem.W.Frag} (h:X.K = K):CallR X (.type "tuple") (qL K):=by
  rw [<- h]
  exact zR
end
end L2
namespace PySem
section
variable {prog:Program} {w:World} {A:Around} {d:Addr} {es:Array DictEntry} {ep:Nat}
end
end PySem
namespace L2
open PySem PySem.Spec PyProof.Rows
section
variable {X:Cx}
end
section
variable {X:Cx}
variable {o e:Expr} {es:List Expr} {to:TE} {t:TA} {name:Str} {apos cpos:Pos} {id:String} {r:V -> List V -> Hp -> VK -> Prop}
end
end L2
namespace L2
open PySem PySem.Spec PyProof.Rows PySem.W
section
variable {X:Cx}
end
section
variable {X:Cx}
end
end L2
namespace L2
open PySem PySem.Spec PyProof.Rows PySem.W
section
variable {X:Cx}
end
end L2
namespace L2
open PySem PySem.Spec PyProof.Rows PySem.W
section
variable {X:Cx}
end
end L2
namespace L2
open PySem PySem.Spec PyProof.Rows PySem.W
section
variable {prog:Program} {w:World} {A:Around} {E:Value -> Shared -> Prop} {s:Shared}
inductive wu (prog:Program) (w:World) (A:Around) (s:Shared):List Value -> List Value -> Bool -> Prop
  | nil:wu prog w A s [] [] false
  | nl {y ys}:wu prog w A s [] (y :: ys) true
  | ln {x xs}:wu prog w A s (x :: xs) [] false
  | eq {x y xs ys b} (h:∀ (Q:Bool -> Shared -> Prop) E,Q true s -> wpAny (model prog w) A (eqBool x y) Q E s) (t:wu prog w A s xs ys b):wu prog w A s (x :: xs) (y :: ys) b
  | ne {x y xs ys b} (h:∀ (Q:Bool -> Shared -> Prop) E,Q false s -> wpAny (model prog w) A (eqBool x y) Q E s) (g:∀ (Q:Value -> Shared -> Prop) E,Q (.bool b) s -> wpAny (model prog w) A (richCompare .Lt x y) Q E s):wu prog w A s (x :: xs) (y :: ys) b
theorem wy {x y:Addr} {ox oy:Obj} {xs ys:Array Value} {n k:Nat} {b:Bool} {P:PySem.Fin -> Shared -> Prop} (hx:s.heap.get? x = some ox) (dx:ox.data = .seq xs n) (hy:s.heap.get? y = some oy) (cy:oy.cls = .type "tuple") (dy:oy.data = .seq ys k)
    (T:wu prog w A s xs.toList ys.toList b) (h:P (.done (.ret (.bool b))) s):wpAny (model prog w) A (Builtin.«tuple.__lt__» ⟨[.ref x,.ref y],[]⟩) P E s:=by
  show wpAny _ _ (isInstance (.ref y) (.type "tuple") >>= _) _ _ s
  refine wpAny_bind (wpAny_isInstance (T:= "tuple") ⟨oy,hy,cy⟩ isSubtype_tuple_tuple ?_)
  simp only [Bool.not_true,Bool.false_eq_true,if_false]
  refine wpAny_bind (wpAny_tupleItemsOf hx dx (wpAny_bind (wpAny_tupleItemsOf hy dy (wpAny_bind ?_))))
  refine wpAny_forIn_list _ (fun jd r s'=>r.1 = none /\ s' = s /\ ∃ us vs,jd = List.zip us vs /\ wu prog w A s us vs b /\ us.length + ys.size = vs.length + xs.size) _ ?_ ?_ _ _ ⟨rfl,rfl,xs.toList,ys.toList,rfl,T,by simp [Nat.add_comm]⟩
  · rintro ⟨u,v⟩ jd r s' ⟨hr,rfl,us,vs,hz,t,hl⟩
    cases t with
    | nil=>simp at hz
    | nl=>simp at hz
    | ln=>simp at hz
    | eq e t=>
      simp only [List.zip_cons_cons,List.cons.injEq,Prod.mk.injEq] at hz
      obtain ⟨⟨rfl,rfl⟩,rfl⟩:=hz
      refine wpAny_bind (e _ _ ?_)
      simp only [Bool.not_true,Bool.false_eq_true,if_false]
      exact wpAny_pure ⟨rfl,rfl,_,_,rfl,t,by simp only [List.length_cons] at hl;omega⟩
    | ne e g=>
      simp only [List.zip_cons_cons,List.cons.injEq,Prod.mk.injEq] at hz
      obtain ⟨⟨rfl,rfl⟩,rfl⟩:=hz
      refine wpAny_bind (e _ _ ?_)
      simp only [Bool.not_false,if_true]
      refine wpAny_bind (wpAny_rule (wpAny_bind (g _ _ ?_)))
      exact wpAny_bind (wpAny_pure (wpAny_pure (wpAny_pure h)))
  · rintro ⟨r1,r2⟩ s' ⟨hr,rfl,us,vs,hz,t,hl⟩
    simp only at hr
    subst hr
    refine wpAny_pure ?_
    have hb:decide (xs.size < ys.size) = b:=by
      cases t with
      | nil=>exact decide_eq_false (by simp at hl;omega)
      | nl=>exact decide_eq_true (by simp at hl;omega)
      | ln=>exact decide_eq_false (by simp at hl;omega)
      | eq e t=>simp at hz
      | ne e g=>simp at hz
    show P (.done (.ret (.bool (decide (xs.size < ys.size))))) s'
    rw [hb]
    exact h
theorem y8 {x y:Addr} {ox oy:Obj} {xs ys:Array Value} {n k:Nat} {b:Bool} {Q:Value -> Shared -> Prop} (hu:A.units < cLine) (hx:s.heap.get? x = some ox) (cx:ox.cls = .type "tuple") (dx:ox.data = .seq xs n) (hy:s.heap.get? y = some oy) (cy:oy.cls = .type "tuple") (dy:oy.data = .seq ys k)
    (T:wu prog w A.in1 s xs.toList ys.toList b) (h:Q (.bool b) s):wpAny (model prog w) A (richCompare .Lt (.ref x) (.ref y)) Q E s:=
  wpAny_richCompare_same_room (op:=.Lt) (T:= "tuple") ⟨ox,hx,cx⟩ ⟨oy,hy,cy⟩ F.slot_tuple_lt
    (wpAny_call_entry F.slot_tuple_lt ⟨ox,hx,cx⟩ F.entry_tuple_lt (wy hx dx hy cy dy T ⟨_,rfl,(fun e=>nomatch e),h⟩) (F.args_tuple_lt_2 _ _)) hu
def ltN:List Int -> List Int -> Bool
  | [],[]=>false
  | [],_ :: _=>true
  | _ :: _,[]=>false
  | a :: as,b :: bs=>if a = b then ltN as bs else decide (a < b)
theorem eq_int (x y:Int) (t u:Tok) {Q:Bool -> Shared -> Prop} (h:Q (decide (x = y)) s):wpAny (model prog w) A (eqBool (.int x t) (.int y u)) Q E s:=by
  refine (zq prog w).eqBool (a:=Sum.inl x) (b:=Sum.inl y) (jL ⟨t,rfl⟩) (jL ⟨u,rfl⟩) ?_
  rw [show decide ((Sum.inl x:Key) = Sum.inl y) = decide (x = y) from decide_eq_decide.mpr ⟨fun z=>Sum.inl.inj z,fun z=>by rw [z]⟩]
  exact h
theorem QZ (x y:Int) (t u:Tok) {Q:Value -> Shared -> Prop} (h:Q (.bool (decide (x < y))) s):wpAny (model prog w) A (richCompare .Lt (.int x t) (.int y u)) Q E s:=
  richCompare_gives (op:=.Lt) (typeIs_int s _ t) (typeIs_int s _ u) F.slot_int_lt F.entry_int_lt (F.args_int_lt_2 _ _) (gives_int_lt _ _ t u) (fun x=>nomatch x) h
theorem Zw:∀ {as bs:List Int} {us vs:List Value},Vals (as.map V.int) us -> Vals (bs.map V.int) vs -> wu prog w A s us vs (ltN as bs)
  | [],[],_,_,.nil,.nil=>.nil
  | [],_ :: _,_,_,.nil,.cons _ _=>.nl
  | _ :: _,[],_,_,.cons _ _,.nil=>.ln
  | a :: as,b :: bs,_,_,.cons ⟨t,e1⟩ r1,.cons ⟨u,e2⟩ r2=>by
    subst e1 e2
    by_cases h:a = b
    · have e:ltN (a :: as) (b :: bs) = ltN as bs:=if_pos h
      rw [e]
      exact .eq (fun Q E q=>eq_int a b t u (by rw [decide_eq_true h];exact q)) (Zw r1 r2)
    · have e:ltN (a :: as) (b :: bs) = decide (a < b):=if_neg h
      rw [e]
      exact .ne (fun Q E q=>eq_int a b t u (by rw [decide_eq_false h];exact q)) fun Q E q=>QZ a b t u q
def ltW (p q:Int × List Int):Bool:=if p.1 = q.1 then (if p.2 = q.2 then false else ltN p.2 q.2) else decide (p.1 < q.1)
theorem Vo {p q:Int × List Int} (h:ltW p q = true):p.1 <= q.1:=by
  unfold ltW at h
  by_cases e:p.1 = q.1
  · omega
  · rw [if_neg e] at h
    exact Int.le_of_lt (of_decide_eq_true h)
theorem Vp {p q:Int × List Int} (h:ltW p q = false):q.1 <= p.1:=by
  unfold ltW at h
  by_cases e:p.1 = q.1
  · omega
  · rw [if_neg e] at h
    have:=of_decide_eq_false h
    omega
end
section
variable {prog:Program} {w:World} {A:Around} {R:Result -> Shared -> Prop} {I S:Addr} {fp wr:List Addr} {n:Nat} {P:Nat -> Value -> Prop} {St:Nat -> Heap -> Prop}
theorem w8 (W:Walks prog w A.in1 I fp wr n P St) (bt:Nat -> Nat -> Bool) (J:Heap -> Prop) (hJ:∀ h h',J h -> (∀ b o,b ∉ wr -> b ≠ S -> h.get? b = some o -> h'.get? b = some o) -> J h')
    (hc:∀ i j vi vj (s:Shared) (Q:Value -> Shared -> Prop) (E:Value -> Shared -> Prop),J s.heap -> P i vi -> P j vj -> Q (.bool (bt i j)) s -> wpAny (model prog w) A.in1 (richCompare .Lt vi vj) Q E s) (hSf:S ∉ fp) :
    ∀ (k j:Nat) (s:Shared) (vb:Value) (c:Nat),n = j + 1 + k -> St (j + 1) s.heap -> J s.heap -> P (argBest bt j) vb -> s.heap.get? S = some (seqObj "list" #[vb,vb] c) ->
      (∀ v h' tk,P (argBest bt (n - 1)) v -> (∀ b o,b ∉ wr -> b ≠ S -> s.heap.get? b = some o -> h'.get? b = some o) -> R (.ok (.ret v)) { s with heap:=h',toks:=tk }) ->
      codeAny (model prog w) A (.builtin "min.loop" ⟨[.ref I,.none,.ref S],[]⟩) R s:=by
  have nw:S ∉ wr:=fun h=>hSf (W.sub _ h)
  have nm:(toString "min" ++ toString ".loop" : String) = "min.loop" :=by decide
  intro k
  induction k with
  | zero=>
    intro j s vb c hn st j0 pb hS hR
    refine codeAny_builtin F.entry_min_loop ?_
    rw [Around.under_plainId F.plain_min_loop _]
    show wpAny _ A.in1 (seqItems? (.ref S) >>= _) _ _ s
    refine wpAny_bind (wpAny_seqItems hS rfl ?_)
    show wpAny _ A.in1 (tryCatch (pyNext (.ref I)) _ >>= _) _ _ s
    have st':St n s.heap:=by rw [hn];exact st
    refine wpAny_bind (wpAny_tryCatch (W.done s _ _ st' fun h' tk kk=>?_))
    show wpAny _ A.in1 (updateSeq S (fun _=>#[]) >>= _) _ _ _
    refine wpAny_bind (wpAny_updateSeq (kk S _ nw hS) rfl (wpAny_bind (wpAny_letGo (wpAny_pure ?_))))
    exact hR vb _ tk (by rw [hn];exact pb) fun b o b1 b2 e=>(Heap.get?_update_other _ _ (Ne.symm b2)).trans (kk b o b1 e)
  | succ k ih=>
    intro j s vb c hn st j0 pb hS hR
    refine codeAny_builtin F.entry_min_loop ?_
    rw [Around.under_plainId F.plain_min_loop _]
    show wpAny _ A.in1 (seqItems? (.ref S) >>= _) _ _ s
    refine wpAny_bind (wpAny_seqItems hS rfl ?_)
    show wpAny _ A.in1 (tryCatch (pyNext (.ref I)) _ >>= _) _ _ s
    refine wpAny_bind (wpAny_tryCatch (W.item (j + 1) s _ _ (by omega) st fun v h' tk pv st2 kk=>?_))
    have hS2:=kk S _ nw hS
    have j2:J h':=hJ _ _ j0 fun b o b1 _ e=>kk b o b1 e
    show wpAny _ A.in1 (tryCatch (holding [v,v] (richCompare .Lt v vb >>= _)) _ >>= _) _ _ _
    refine wpAny_bind (wpAny_tryCatch (wpAny_holding (wpAny_bind (hc (j + 1) (argBest bt j) v vb { s with heap:=h',toks:=tk } _ _ j2 pv pb ?_))))
    refine wpAny_bind (wpAny_holding (wpAny_truthy_bool (wpAny_bind (wpAny_letGo (wpAny_pure ?_)))))
    cases hb:bt (j + 1) (argBest bt j) with
    | true=>
      simp only [if_true]
      refine wpAny_bind (wpAny_updateSeq hS2 rfl (wpAny_bind (wpAny_letGo ?_)))
      rw [nm]
      have oth:∀ b o,b ≠ S -> h'.get? b = some o -> (h'.update S (Obj.mapSeq fun _=>#[v,v])).get? b = some o:=fun b o b2 e=>(Heap.get?_update_other _ _ (Ne.symm b2)).trans e
      refine wpAny_pure ⟨plainId_quiet F.plain_min_loop _,ih (j + 1) _ v _ (by omega) (W.frame _ _ _ st2 fun b bf o e=>oth b o (fun z=>hSf (by rw [<- z];exact bf)) e) (hJ _ _ j2 fun b o _ b2 e=>oth b o b2 e) (by simp only [argBest,hb,if_true];exact pv) (Heap.get?_update_self _ hS2 rfl) fun v' h2 tk2 p2 k2=>?_⟩
      exact hR v' h2 tk2 p2 fun b o b1 b2 e=>k2 b o b1 b2 (oth b o b2 (kk b o b1 e))
    | false=>
      simp only [Bool.false_eq_true,if_false]
      refine wpAny_bind (wpAny_letGo ?_)
      rw [nm]
      refine wpAny_pure ⟨plainId_quiet F.plain_min_loop _,ih (j + 1) _ vb c (by omega) st2 j2 (by simp only [argBest,hb,Bool.false_eq_true,if_false];exact pb) hS2 fun v' h2 tk2 p2 k2=>?_⟩
      exact hR v' h2 tk2 p2 fun b o b1 b2 e=>k2 b o b1 b2 (kk b o b1 e)
end
end L2
namespace L2
open PySem PySem.Spec PyProof.Rows PySem.W
def WkR (H:Hp) (zs:List V) (ps:List (Int × List Int)):Prop:=zs.length = ps.length /\ ∀ (j:Nat) q,ps[j]? = some q -> ∃ T U,zs[j]? = some (.ref T) /\ H T = some (.tup [.int q.1,.ref U]) /\ H U = some (.tup (q.2.map V.int))
theorem WkR.nil {H:Hp}:WkR H [] []:=⟨rfl,fun j q e=>by simp at e⟩
theorem WkR.same {H H':Hp} {zs:List V} {ps:List (Int × List Int)} (h:WkR H zs ps) (s:Same H H'):WkR H' zs ps:=⟨h.1,fun j k e=>let ⟨T,U,a,b,c⟩:=h.2 j k e;⟨T,U,a,s _ _ b,s _ _ c⟩⟩
theorem WkR.snoc {H:Hp} {zs:List V} {ps:List (Int × List Int)} {q:Int × List Int} {T U:Addr} (h:WkR H zs ps) (e:H T = some (.tup [.int q.1,.ref U])) (e':H U = some (.tup (q.2.map V.int))):WkR H (zs ++ [.ref T]) (ps ++ [q]):=by
  refine ⟨by rw [List.length_append,List.length_append,h.1];rfl,fun j r hr=>?_⟩
  by_cases hj:j < ps.length
  · rw [List.getElem?_append_left hj] at hr
    obtain ⟨T',U',e1,e2,e3⟩:=h.2 j r hr
    exact ⟨T',U',by rw [List.getElem?_append_left (by rw [h.1];exact hj)];exact e1,e2,e3⟩
  · have hl:=(List.getElem?_eq_some_iff.mp hr).1
    rw [List.length_append] at hl
    have ej:j = ps.length:=by simp at hl;omega
    subst ej
    rw [List.getElem?_append_right (Nat.le_refl _),Nat.sub_self] at hr
    have:q = r:=by simpa using hr
    subst this
    exact ⟨T,U,by rw [<- h.1,List.getElem?_append_right (Nat.le_refl _),Nat.sub_self];rfl,e,e'⟩
theorem WkR.set {H:Hp} {zs:List V} {ps:List (Int × List Int)} {q:Int × List Int} {T U:Addr} {i:Nat} (h:WkR H zs ps) (e:H T = some (.tup [.int q.1,.ref U])) (e':H U = some (.tup (q.2.map V.int))):WkR H (zs.set i (.ref T)) (ps.set i q):=by
  refine ⟨by rw [List.length_set,List.length_set,h.1],fun j r hr=>?_⟩
  by_cases hj:i = j
  · subst hj
    have hl:=(List.getElem?_eq_some_iff.mp hr).1
    rw [List.length_set] at hl
    rw [List.getElem?_set_self hl] at hr
    cases hr
    exact ⟨T,U,List.getElem?_set_self (by rw [h.1];exact hl),e,e'⟩
  · rw [List.getElem?_set_ne hj] at hr
    obtain ⟨T',U',e1,e2,e3⟩:=h.2 j r hr
    exact ⟨T',U',by rw [List.getElem?_set_ne hj];exact e1,e2,e3⟩
def wC (ps:List (Int × List Int)):Nat:=argBest (fun i j=>ltW (ps.getD i (0,[])) (ps.getD j (0,[]))) (ps.length - 1)
theorem yV (f:Nat -> Int × List Int):∀ n,argBest (fun i j=>ltW (f i) (f j)) n <= n /\ ∀ j,j <= n -> (f (argBest (fun i j=>ltW (f i) (f j)) n)).1 <= (f j).1
  | 0=>⟨Nat.le_refl _,fun j hj=>by rw [show j = 0 by omega];exact Int.le_refl _⟩
  | n + 1=>by
    obtain ⟨h1,h2⟩:=yV f n
    cases hb:ltW (f (n + 1)) (f (argBest (fun i j=>ltW (f i) (f j)) n)) with
    | true=>
      have e:argBest (fun i j=>ltW (f i) (f j)) (n + 1) = n + 1:=by simp only [argBest,hb,if_true]
      rw [e]
      refine ⟨Nat.le_refl _,fun j hj=>?_⟩
      rcases Nat.lt_or_ge j (n + 1) with z | z
      · exact Int.le_trans (Vo hb) (h2 j (by omega))
      · rw [show j = n + 1 by omega];exact Int.le_refl _
    | false=>
      have e:argBest (fun i j=>ltW (f i) (f j)) (n + 1) = argBest (fun i j=>ltW (f i) (f j)) n:=by simp only [argBest,hb,Bool.false_eq_true,if_false]
      rw [e]
      refine ⟨by omega,fun j hj=>?_⟩
      rcases Nat.lt_or_ge j (n + 1) with z | z
      · exact h2 j (by omega)
      · rw [show j = n + 1 by omega];exact Vp hb
theorem QY {ps:List (Int × List Int)} (h:ps ≠ []):wC ps < ps.length:=by
  have:=(yV (fun i=>ps.getD i (0,[])) (ps.length - 1)).1
  have:=List.length_pos_iff.mpr h
  unfold wC
  omega
theorem WE {ps:List (Int × List Int)} {j:Nat} (h:j < ps.length):(ps.getD (wC ps) (0,[])).1 <= (ps.getD j (0,[])).1:=
  (yV (fun i=>ps.getD i (0,[])) (ps.length - 1)).2 j (by omega)
section
variable {X:Cx}
end
end L2
namespace L2
open PySem PySem.Spec PyProof.Rows PySem.W
section
variable {X:Cx}
end
end L2
namespace L2
open PySem PySem.Spec PyProof.Rows
section
variable {X:Cx}
end
section
variable {prog:Program} {w:World} {K:Type} [DecidableEq K] {knd:KeyKind prog w K} {A:Around} {E:Value -> Shared -> Prop} {s:Shared}
end
section
variable {X:Cx}
end
end L2
namespace L2
open PySem PySem.Spec PyProof.Rows PySem.W
section
variable {prog:Program} {w:World} {A:Around} {R:Result -> Shared -> Prop} {I S:Addr} {fp wr:List Addr} {n:Nat} {P:Nat -> Value -> Prop} {St:Nat -> Heap -> Prop}
end
section
variable {X:Cx}
end
end L2
namespace L2
open PySem PySem.Spec PyProof.Rows
section
variable {X:Cx}
end
end L2
namespace L2
open PySem PySem.Spec PyProof.Rows PySem.W
section
variable {X:Cx}
end
end L2
namespace L2
open PySem PySem.Spec PyProof.Rows
section
variable {X:Cx}
end
section
variable {X:Cx}
end
section
variable {prog:Program} {w:World} {A:Around} {E:Value -> Shared -> Prop} {s:Shared}
end
section
variable {X:Cx}
end
theorem Xi (elt tg iter:Expr) (ifs:List Expr) (scope:Scope) (pos:Pos) (it acc:Value) (env:Env) :
    compTurn (.SetComp elt [⟨tg,iter,ifs,0⟩] scope pos) 0 it acc env = (do
      standAt iter.pos
      match <- pyNext it with
      | none=>pure (.done .next)
      | some v=>
        letOwnedTupleGo tg it v
        assign tg env v
        let mut ok:=true
        for c in ifs do
          if ok then ok <- isTrue c env (eval c env)
        if ok then
          (do let v <- eval elt env;standAt elt.pos;let _ <- call (.builtin "set.add") [acc,v])
        again (.compLoop (.SetComp elt [⟨tg,iter,ifs,0⟩] scope pos) 0 it acc env)):=by rfl
section
variable {prog:Program} {w:World} {A:Around} {E:Value -> Shared -> Prop} {R:Result -> Shared -> Prop} {s:Shared}
theorem JD {elt tg iter ifs jd scope pos it acc env}
    (h0:codeAny (model prog w) A (.compLoop (.SetComp elt (⟨tg,iter,ifs,0⟩ :: jd) scope pos) 0 it acc env) R s)
    (h:wpAny (model prog w) A (pyIter it) (fun it' s'=>codeAny (model prog w) A (.compLoop (.SetComp elt (⟨tg,iter,ifs,0⟩ :: jd) scope pos) 0 it' acc env) R s') (notedBy (model prog w) A env fun x s'=>R (.error x) s') s) :
    codeAny (model prog w) A (.compStart (.SetComp elt (⟨tg,iter,ifs,0⟩ :: jd) scope pos) 0 it acc env) R s:=by
  refine codeAny_of_tree (show wpAny _ A ((compStart (.SetComp elt (⟨tg,iter,ifs,0⟩ :: jd) scope pos) 0 it acc env).onRaise (fun x=>do noteFrame x env;standAt theWindowsPlace)) _ _ s from wpAny_notedAt ?_)
  unfold compStart
  refine (show wpAny _ A (ask >>= _) _ _ s from wpAny_bind (wpAny_askSetting (wpAny_ite ?_)))
  split
  · first
      | exact wpAny_pure ⟨rfl,h0⟩
      | exact wpAny_bind (wpAny_pure (wpAny_pure ⟨rfl,h0⟩))
  · first
      | exact wpAny_bind (wpAny_rule (wpAny_bind (wpAny_standAt (wpAny_bind (wpAny_mono h (fun _ _ q=>wpAny_pure ⟨rfl,q⟩) fun _ _ x=>x)))))
      | (refine wpAny_bind (wpAny_rule ?_)
         exact (show wpAny _ _ (standAt iter.pos >>= _) _ _ s from wpAny_bind (wpAny_standAt (wpAny_bind (wpAny_mono h (fun _ _ q=>wpAny_pure ⟨rfl,q⟩) fun _ _ x=>x)))))
theorem JJ {elt tg iter:Expr} {ifs:List Expr} {scope:Scope} {pos:Pos} {it acc:Value} {env:Env} (J:Nat -> Shared -> Prop)
    (turn:∀ n s,J n s -> wpAny (model prog w) A (pyNext it) (fun r s1=>match r with
      | none=>R (.ok .next) s1
      | some v=>wpAny (model prog w) A (letOwnedTupleGo tg it v) (fun _ s2=>wpAny (model prog w) A (assign tg env v) (fun _ s3=>
          wpAny (model prog w) A (qS ifs env) (fun ok s4=>
            if ok = true then wpAny (model prog w) A (eval elt env) (fun x s5=>
              wpAny (model prog w) A (call (.builtin "set.add") [acc,x]) (fun _ s6=>∃ m,m < n /\ J m s6) (fun _ _=>False) s5) (fun _ _=>False) s4
            else ∃ m,m < n /\ J m s4) (fun _ _=>False) s3) (fun _ _=>False) s2) (fun _ _=>False) s1) (fun _ _=>False) s)
    (n:Nat) (h:J n s):codeAny (model prog w) A (.compLoop (.SetComp elt [⟨tg,iter,ifs,0⟩] scope pos) 0 it acc env) R s:=by
  have no:∀ {α:Type} {t:Sem α} {Q:α -> Shared -> Prop} {E:Value -> Shared -> Prop} {s:Shared},wpAny (model prog w) A t Q (fun _ _=>False) s -> wpAny (model prog w) A t Q E s:=fun x=>wpAny_mono x (fun _ _ q=>q) fun _ _ q=>q.elim
  refine codeAny_loop rfl J (fun k u hJ=>?_) n h
  refine (show wpAny _ A ((compTurn (.SetComp elt [⟨tg,iter,ifs,0⟩] scope pos) 0 it acc env).onRaise (fun x=>do noteFrame x env;theTreesLotGoes x)) _ _ u from wpAny_noted ?_)
  rw [Xi]
  refine wpAny_bind (wpAny_standAt (wpAny_bind (no (wpAny_mono (turn k u hJ) (fun r s1 h1=>?_) fun _ _ q=>q))))
  cases r with
  | none=>exact wpAny_pure h1
  | some v=>
    refine wpAny_bind (no (wpAny_mono h1 (fun _ s2 h2=>wpAny_bind (no (wpAny_mono h2 (fun _ s3 h3=>wpAny_bind (no (wpAny_mono h3 (fun ok s4 h4=>?_) fun _ _ q=>q))) fun _ _ q=>q))) fun _ _ q=>q))
    cases ok with
    | false=>exact wpAny_pure ⟨rfl,h4⟩
    | true=>
      have h4':wpAny (model prog w) A (eval elt env) (fun x s5=>wpAny (model prog w) A (call (.builtin "set.add") [acc,x]) (fun _ s6=>∃ m,m < k /\ J m s6) (fun _ _=>False) s5) (fun _ _=>False) s4:=h4
      refine wpAny_bind (wpAny_bind (no (wpAny_mono h4' (fun x s5 h5=>wpAny_bind (wpAny_standAt (wpAny_bind (no (wpAny_mono h5 (fun _ s6 h6=>wpAny_pure (wpAny_pure ⟨rfl,h6⟩)) fun _ _ q=>q))))) fun _ _ q=>q)))
variable {K:Type} [DecidableEq K] {knd:KeyKind prog w K}
theorem zbv {a:Addr} {ks:List K} {k:K} {x:Value} {b:Bool} {Q:Value -> Shared -> Prop} (hkey:knd.is k x = true) (hsc:x.scannable = true) (hS:SetX knd b s.heap a ks) (hroom:ks.length + 1 < scanBound)
    (h:∀ h' tk,Heap.SameBut a s.heap h' -> SetX knd b h' a (jm ks k) -> Q .none { s with heap:=h',toks:=tk }):wpAny (model prog w) A (call (.builtin "set.add") [.ref a,x]) Q E s:=by
  obtain ⟨o,ho,hb⟩:=id hS
  obtain ⟨es,ep,t,hex,_⟩:=id hb
  refine wpAny_call_entry F.slot_set_add ⟨o,ho,hex.1⟩ F.entry_set_add ?_ (F.args_set_add_2 _ _)
  have ty:s.TypeIs (.ref a) "set" :=⟨o,ho,hex.1⟩
  unfold Builtin.«set.add»
  generalize hSA:setAdd = SA
  obtain ⟨hp,g,d,tk,os⟩:=s
  wp_walk
  subst hSA
  refine (show wpAny _ _ (setAdd a x) _ _ _ from wpAny_holding (wpAny_bind (knd.pyHash hkey ?_)))
  refine zbC (s:=⟨hp,g,d,tk + 1,os⟩) hkey hsc hS hroom (fun h' c sb sx=>?_)
  exact wpAny_pure ⟨_,rfl,h h' _ sb sx⟩
theorem WC {Q:Value -> Shared -> Prop} (h:Q (.ref s.heap.objs.size) { s with heap:=s.heap.push (Xx w) }):wpAny (model prog w) A (newSet (.type "set")) Q E s:=by
  unfold newSet setsByText
  refine wpAny_bind (wpAny_bind (wpAny_askSetting (wpAny_pure ?_)))
  dsimp only
  simp only [newObj]
  exact wpAny_bind (wpAny_alloc (wpAny_pure h))
end
def tSC (P:Program) (w:World) (wi:TI) (n:Nat) (js:List Nat) (g:TG) (tf:TT) (te:TE):TE:=fun σ H Q=>wi σ H fun J H1=>
  ∃ W:Nat -> Nat -> List Key -> Hp -> Prop,(∃ m,W 0 m [] H1) /\ ∀ i m ks H2,W i m ks H2 ->
    (J.stop i H2 /\ ∀ D,H2 D = none -> Q (.ref D) (upd H2 D (yw P w D ks))) \/
    (J.go i H2 /\ ∃ N:List Key -> Hp -> Prop,(∀ zs H',N zs H' -> ∃ m',m' < m /\ W (i + 1) m' zs H') /\ ∀ x H3,J.yld i H2 x H3 -> g x (upS n js σ) H3 fun σ4 H4=>σ4.drop n = (upS n js σ).drop n /\ tf σ4 H4 fun b H5=>
      if b = true then te σ4 H5 fun y H6=>∃ k:Key,y = kV k /\ ks.length + 1 < 4096 /\ N (jm ks k) H6 else N ks H5)
section
variable {X:Cx} {elt tg iter:Expr} {ifs:List Expr} {scope:Scope} {pos:Pos} {wi:TI} {g:TG} {tf:TT} {te:TE}
theorem Vz {k:Key} {u:Value} (r:RelV (kV k) u):u.scannable = true:=by
  cases k with
  | inl i=>obtain ⟨t,rfl⟩:=r;rfl
  | inr i=>obtain ⟨t,rfl⟩:=r;rfl
theorem za1 (own fr:List Str) (js:List Nat) (hc:X.calm = true) (hk:scope.kind = .function) (hb:xF scope.names X.env.scope.names X.N fr js = true) (hi:PI X tg iter wi)
    (hg:∀ C s H ex,PG (zk X (own ++ fr) scope C s H ex) tg g) (hf:∀ C s H ex,PF (zk X (own ++ fr) scope C s H ex) ifs tf) (he:∀ C s H ex,PE (zk X (own ++ fr) scope C s H ex) elt te)
    (hs:∀ x,foldedSetIterable iter X.env x = pure x:=by intro _;rfl):PE X (.SetComp elt [⟨tg,iter,ifs,0⟩] scope pos) (tSC X.prog X.w wi own.length js g tf te):=by
  intro pins s σ H Q I h
  have B:=jP hb
  have hasF:∀ y ∈ scope.names,y.2 = NameKind.free -> ∃ c,X.env.cells.lookup y.1 = some c:=fun y hy e=>I.ok.has y.1 (B.free y hy e)
  rw [arm_eval_SetComp]
  refine wpAny_comprehension_free (use:=none) rfl hs (xC hasF) hk (fun y hy e=>B.loc y hy e) (thn (hi pins s σ H _ I h) fun v s1 h1=>thn h1 fun itv s2 h2=>?_)
  obtain ⟨it,fp,tn,J,H2,e,I2,T,st2,f2,W,⟨m0,w0⟩,turn⟩:=h2
  subst e
  have fl:∀ b ∈ fp,b < s2.heap.objs.size:=fun b hb=>let ⟨o,e,_⟩:=T.obj _ _ st2 b hb;Heap.lt_size e
  refine WC (wpAny_newFunctionEnv B.cell (by intro y hy;simp at hy) (fun h1 hns hsb=>?_) hk)
  dsimp only at hns hsb ⊢
  have sx0:SetX (zq X.prog X.w) (wD X.w) (s2.heap.push (Xx X.w)) s2.heap.objs.size []:=Xw s2.heap
  have sD:=I2.fpOk (Nat.le_refl s2.heap.objs.size) (I2.hok.fresh (Nat.le_refl s2.heap.objs.size))
  generalize e3:s2.heap.push (Xx X.w) = h3 at hns hsb sx0 ⊢
  have k3:∀ b o,s2.heap.get? b = some o -> h3.get? b = some o:=fun b o e=>by rw [<- e3];exact Heap.get?_push_of_some _ e
  have k4:∀ b o,h3.get? b = some o -> h1.get? b = some o:=fun b o e=>hsb.extBut b o (Nat.ne_of_lt (Heap.lt_size e)) (Heap.get?_push_of_some _ e)
  have I3:Inv X pins σ H2 { s2 with heap:=h3 }:=I2.kept (t':=s2.toks) k3
  have hz:h3.objs.size = s2.heap.objs.size + 1:=by rw [<- e3,Heap.size_push]
  have hDl:s2.heap.objs.size ≠ h3.objs.size:=by rw [hz];exact Nat.ne_of_lt (Nat.lt_succ_self _)
  generalize eD:s2.heap.objs.size = D at *
  have fD:∀ b ∈ fp,D ≠ b:=fun b hb=>Nat.ne_of_gt (fl b hb)
  have f3:∀ b ∈ D :: fp,qu X pins H2 b:=fun b hb=>(List.mem_cons.mp hb).elim (fun z=>z ▸ sD) (f2 b)
  have I4:Inv (zk X (own ++ fr) scope h3.objs.size { s2 with heap:=h3,toks:=s2.toks } H2 (D :: fp)) [] (upS own.length js σ) H2 { s2 with heap:=h1,toks:=s2.toks + ([]:List (Str × Value)).length }:=
    wj own fr js I3 B hk f3 (fun b hb=>by
      show b < h3.objs.size
      rw [hz]
      exact (List.mem_cons.mp hb).elim (fun z=>z ▸ Nat.lt_succ_self _) fun z=>Nat.lt_succ_of_lt (fl b z)) rfl hns k4
  generalize eC:h3.objs.size = C at *
  have hx:∀ b ∈ D :: fp,∀ x c,(zL X.env.cells scope.names []).lookup x = some c -> c ≠ b:=fun b hb x c e=>(f3 b hb).2.2.2.2.1 x c (zA e hasF)
  have nfs:∀ b ∈ D :: fp,b ∉ frs X.stack:=I4.ok.exfs
  have fpB:∀ {pins':List (Addr × Obj)} {H':Hp} {b:Addr},b ∈ D :: fp -> H' b = none -> (∀ p ∈ pins',p.1 ≠ b) -> qu (zk X (own ++ fr) scope C { s2 with heap:=h3,toks:=s2.toks } H2 (D :: fp)) pins' H' b:=fun {pins' H' b} hb hn hp=>
    ⟨hn,(I4.ok.exf b hb).1,nfs b hb,.inl hb,fun x c e=>hx b hb x c e,fun p h=>hp p (by simpa using h)⟩
  have loop:∀ s4:Shared,s4 = { s2 with heap:=h1,toks:=s2.toks + ([]:List (Str × Value)).length } ->
      codeAny (model X.prog X.w) X.A (.compLoop (.SetComp elt [⟨tg,iter,ifs,0⟩] scope pos) 0 (.ref it) (.ref D) (compEnvC scope (zL X.env.cells scope.names []) C X.env))
        (compPost (model X.prog X.w) X.A X.xe none (EP X pins σ Q) (.ref D) C) s4:=by
    intro s4 e4
    refine JJ (fun n s'=>∃ i ks H',Inv (zk X (own ++ fr) scope C { s2 with heap:=h3,toks:=s2.toks } H2 (D :: fp)) [] (upS own.length js σ) H' s' /\ tn i s'.heap /\ (∀ b ∈ fp,H' b = none) /\ H' D = none /\ SetX (zq X.prog X.w) (wD X.w) s'.heap D ks /\ W i n ks H') ?_ m0 ?_
    · rintro n s5 ⟨i,ks,H5,I5,st5,fr5,hD5,sx5,w5⟩
      obtain ⟨o5,ho5,ob5⟩:=id sx5
      have nc:∀ v,o5.data ≠ .cell v:=fun v q=>by
        obtain ⟨es,ep,t,_,hd,_⟩:=ob5
        rw [hd] at q;cases q
      have I5':=I5.pinned (fp:=[D]) (fun b hb=>by rw [List.mem_singleton.mp hb];exact fpB List.mem_cons_self hD5 (fun p hp=>absurd hp (by simp))) (fun b hb=>by
        rw [List.mem_singleton.mp hb];exact ⟨_,ho5,nc⟩)
      have pD:∀ p ∈ [] ++ zp [D] s5.heap,p.1 = D:=fun p hp=>by
        rw [List.nil_append] at hp
        exact List.mem_singleton.mp (qz hp).1
      have mD:(D,o5) ∈ [] ++ zp [D] s5.heap:=by
        rw [List.nil_append];exact zD (List.mem_singleton.mpr rfl) ho5
      have fp5:∀ {H':Hp},(∀ b ∈ fp,H' b = none) -> ∀ b ∈ fp,qu (zk X (own ++ fr) scope C { s2 with heap:=h3,toks:=s2.toks } H2 (D :: fp)) ([] ++ zp [D] s5.heap) H' b:=fun hn b hb=>fpB (List.mem_cons_of_mem _ hb) (hn b hb) fun p hp=>by
        rw [pD p hp];exact fD b hb
      rcases turn i n ks H5 w5 with ⟨stop,q⟩ | ⟨go,N,hN,step⟩
      · refine thn (T.done (zk X (own ++ fr) scope C { s2 with heap:=h3,toks:=s2.toks } H2 (D :: fp)) rfl rfl rfl hc i _ s5 _ H5 _ I5' (fp5 fr5) st5 stop) fun r s6 ⟨hr,I6⟩=>?_
        subst hr
        obtain ⟨m6,hn6,_⟩:=I6.loc
        refine ⟨m6,hn6,fun h7 hs7=>?_⟩
        obtain ⟨o6,nD6,_⟩:=I6.pin (D,_) (List.mem_append_right _ mD)
        have k7:∀ b o,b ≠ C -> s6.heap.get? b = some o -> h7.get? b = some o:=fun b o hb e=>hs7.extBut b o hb e
        have sx7:SetX (zq X.prog X.w) (wD X.w) h7 D ks:=⟨o5,k7 D _ hDl o6,ob5⟩
        refine ⟨.ref D,upd H5 D (yw X.prog X.w D ks),?_,rfl,q D nD6⟩
        refine I3.call' (s':={ s6 with heap:=h7 }) (ch:=D :: fp) I6.os (xm (vB I6.base (Nat.le_of_eq eC) k7) List.mem_cons_self sD.1) (jW (xA I6.hok I6.free k7) nD6 ⟨sx7,?_,fun h1 h2 x e=>x.at e⟩) I6.bare fun b hb=>?_
        · exact ⟨o5,k7 D _ hDl o6⟩
        · obtain ⟨_,g1,_,g3,g4,g5⟩:=f3 b hb
          exact ⟨g3,g1,g4,g5⟩
      · refine thn (T.item (zk X (own ++ fr) scope C { s2 with heap:=h3,toks:=s2.toks } H2 (D :: fp)) rfl rfl rfl hc i _ s5 _ H5 _ I5' (fp5 fr5) st5 go) fun r s6 ⟨u,hr,h6⟩=>?_
        subst hr
        refine thn h6 fun _ s7 ⟨x,H7,I7,r7,y7,st7,fr7⟩=>?_
        have I7':=I7.pinned (fp5 fr7) (T.obj _ _ st7)
        refine thn (hg _ _ _ _ _ s7 _ H7 x u _ I7' r7 (step x H7 y7)) fun _ s8 ⟨σ8,H8,I8,hd8,q8⟩=>?_
        refine thn (hf _ _ _ _ _ s8 σ8 H8 _ I8 q8) fun ok s9 ⟨H9,I9,q9⟩=>?_
        have weak:∀ {H':Hp} {s':Shared},Inv (zk X (own ++ fr) scope C { s2 with heap:=h3,toks:=s2.toks } H2 (D :: fp)) (([] ++ zp [D] s5.heap) ++ zp fp s7.heap) σ8 H' s' ->
            Inv (zk X (own ++ fr) scope C { s2 with heap:=h3,toks:=s2.toks } H2 (D :: fp)) [] (upS own.length js σ) H' s':=fun {H' s'} J=>by
          refine (J.unpinned).unpinned.weak (I5.len.trans J.len.symm) fun k v e=>?_
          obtain ⟨hn,e1,_⟩:=qG e
          rw [<- hd8,List.getElem?_drop] at e1
          rw [<- e1]
          congr 1
          omega
        have mF:∀ b ∈ fp,∀ o,s7.heap.get? b = some o -> (b,o) ∈ ([] ++ zp [D] s5.heap) ++ zp fp s7.heap:=fun b hb o e=>List.mem_append_right _ (zD hb e)
        have mD':=List.mem_append_left (zp fp s7.heap) mD
        have frB:∀ {H':Hp} {s':Shared},Inv (zk X (own ++ fr) scope C { s2 with heap:=h3,toks:=s2.toks } H2 (D :: fp)) (([] ++ zp [D] s5.heap) ++ zp fp s7.heap) σ8 H' s' -> ∀ b ∈ fp,H' b = none:=fun {H' s'} J b hb=>by
          obtain ⟨o,e,_⟩:=T.obj _ _ st7 b hb
          exact (J.pin (b,o) (List.mem_append_right _ (mF b hb o e))).2.1
        cases ok with
        | false=>
          have q9':N ks H9:=by simpa using q9
          obtain ⟨m',hm,w'⟩:=hN _ _ q9'
          obtain ⟨o9,nD9,_⟩:=I9.pin (D,_) (List.mem_append_right _ mD')
          exact ⟨m',hm,i + 1,ks,H9,weak I9,T.keep _ _ _ st7 fun b hb o e=>(I9.pin (b,o) (List.mem_append_right _ (mF b hb o e))).1,frB I9,nD9,⟨o5,o9,ob5⟩,w'⟩
        | true=>
          have q9':te σ8 H9 fun y H6=>∃ k:Key,y = kV k /\ ks.length + 1 < 4096 /\ N (jm ks k) H6:=by simpa using q9
          refine thn (he _ _ _ _ _ s9 σ8 H9 _ I9 q9') fun yv s10 ⟨y,H10,I10,r10,ky,ey,hlt,w10⟩=>?_
          subst ey
          obtain ⟨m',hm,w'⟩:=hN _ _ w10
          obtain ⟨o10,nD10,_⟩:=I10.pin (D,_) (List.mem_append_right _ mD')
          refine zbv (jL r10) (Vz r10) ⟨o5,o10,ob5⟩ hlt fun h11 tk11 hs11 sx11=>?_
          refine ⟨m',hm,i + 1,jm ks ky,H10,?_,T.keep _ _ _ st7 fun b hb o e=>hs11.extBut b o (Ne.symm (fD b hb)) (I10.pin (b,o) (List.mem_append_right _ (mF b hb o e))).1,frB I10,nD10,sx11,w'⟩
          exact (weak I10).turned (t':=tk11) (it:=D) (fun b o hb e=>hs11.extBut b o hb e) nD10 hDl (.inl List.mem_cons_self) (fun x c e=>hx D List.mem_cons_self x c e) fun p hp=>absurd (show p ∈ ([]:List (Addr × Obj)) from hp) (by simp)
    · subst e4
      exact ⟨0,[],H2,I4,T.keep _ _ _ st2 fun b hb o e=>k4 b o (k3 b o e),fun b hb=>(f2 b hb).1,sD.1,sx0.at fun o e=>k4 _ _ e,w0⟩
  exact JD (loop _ rfl) (T.self X.A 0 _ _ _ (T.keep _ _ _ st2 fun b hb o e=>k4 b o (k3 b o e)) (loop _ rfl))
end
section
variable {X:Cx} {x y:Str} {px py tp:Pos} {kk:Nat} {elt iter:Expr} {ifs:List Expr} {scope:Scope} {pos:Pos} {wi:TI} {tf:TT} {te:TE}
theorem YW (fr:List Str) (js:List Nat) (hc:X.calm = true) (hk:scope.kind = .function) (hb:ja scope.names X.env.scope.names X.N [x] fr js = true) (hi:PI X (.Name x px) iter wi)
    (hf:∀ C s H ex,PF (zk X ([x] ++ fr) scope C s H ex) ifs tf) (he:∀ C s H ex,PE (zk X ([x] ++ fr) scope C s H ex) elt te)
    (hs:∀ x,foldedSetIterable iter X.env x = pure x:=by intro _;rfl):PE X (.SetComp elt [⟨.Name x px,iter,ifs,0⟩] scope pos) (tSC X.prog X.w wi 1 js (qx 0) tf te):=by
  obtain ⟨h1,h2,h3⟩:=qo hb
  exact za1 [x] fr js hc hk h1 hi (fun C s H ex=>qb (h2 x (by simp)) h3 rfl) hf he hs
end
theorem Wd {K:PySem.W.Frag} {a:Addr} {xs:List V} {g:TG} {tf:TT} {te:TE} {σ0:St} {n:Nat} {R:List Key -> Hp -> Prop} {H:Hp} (Pv:Nat -> List Key -> Hp -> Prop) (h0:Pv 0 [] H)
    (h1:∀ i zs H,Pv i zs H -> SqL K H a xs)
    (hs:∀ i x zs H,xs[i]? = some x -> Pv i zs H -> g x σ0 H fun σ4 H4=>σ4.drop n = σ0.drop n /\ tf σ4 H4 fun b H5=>
      if b = true then te σ4 H5 fun v H6=>∃ k:Key,v = kV k /\ zs.length + 1 < 4096 /\ Pv (i + 1) (jm zs k) H6 else Pv (i + 1) zs H5)
    (hd:∀ zs H,Pv xs.length zs H -> R zs H) :
    ∃ W:Nat -> Nat -> List Key -> Hp -> Prop,(∃ m,W 0 m [] H) /\ ∀ i m zs H2,W i m zs H2 ->
      ((Itl K a).stop i H2 /\ R zs H2) \/
      ((Itl K a).go i H2 /\ ∃ N:List Key -> Hp -> Prop,(∀ zs H',N zs H' -> ∃ m',m' < m /\ W (i + 1) m' zs H') /\ ∀ x H3,(Itl K a).yld i H2 x H3 -> g x σ0 H3 fun σ4 H4=>σ4.drop n = σ0.drop n /\ tf σ4 H4 fun b H5=>
        if b = true then te σ4 H5 fun y H6=>∃ k:Key,y = kV k /\ zs.length + 1 < 4096 /\ N (jm zs k) H6 else N zs H5):=by
  refine ⟨fun i m zs H2=>m = xs.length - i /\ i <= xs.length /\ Pv i zs H2,⟨_,rfl,Nat.zero_le _,h0⟩,?_⟩
  rintro i m zs H2 ⟨rfl,hi,p⟩
  have q:=h1 i zs H2 p
  by_cases hlt:i < xs.length
  · refine .inr ⟨⟨xs,xs[i],q,by simp [hlt]⟩,Pv (i + 1),fun zs' H' p'=>⟨_,by omega,rfl,hlt,p'⟩,fun x H3 y=>?_⟩
    obtain ⟨e,y⟩:=y
    subst e
    exact hs i x zs _ (y xs q) p
  · have e:i = xs.length:=by omega
    subst e
    exact .inl ⟨⟨xs,q,Nat.le_refl _⟩,hd zs H2 p⟩
section
variable {X:Cx}
end
section
variable {X:Cx}
end
section
variable {X:Cx}
end
section
variable {X:Cx}
end
open Sem (wp)
section
variable {X:Cx}
end
end L2
namespace L2
open PySem PySem.Spec PyProof.Rows
section
variable {X:Cx} {pos:Pos}
end
end L2
namespace L2
open PySem PySem.Spec PyProof.Rows PySem.W
section
variable {X:Cx}
variable {tg:Expr}
end
end L2
namespace L2
open PySem PySem.Spec PyProof.Rows
section
variable {prog:Program} {w:World} {K:Type} [DecidableEq K] (knd:KeyKind prog w K)
def IsPK (h:Heap) (k:List K × List K) (a:Addr):Prop:=∃ o n B C,h.get? a = some o /\ o.cls = .type "tuple" /\ o.data = .seq #[.ref B,.ref C] n /\ IsTupleKey knd h k.1 B /\ IsTupleKey knd h k.2 C
def Z9 (k:List K × List K):Int:=reduceHash (Builtin.Tuple.tupleHashOf [tupleKeyHash knd k.1,tupleKeyHash knd k.2])
variable {knd}
theorem IsPK.ty {s:Shared} {k:List K × List K} {a:Addr} (x:IsPK knd s.heap k a):s.TypeIs (.ref a) "tuple" :=let ⟨o,_,_,_,p,q,_⟩:=x;⟨o,p,q⟩
theorem IsPK.inj {h:Heap} {a:Addr} {x y:List K × List K} (p:IsPK knd h x a) (q:IsPK knd h y a):x = y:=by
  obtain ⟨o,n,B,C,e,_,d,b,c⟩:=p
  obtain ⟨o',n',B',C',e',_,d',b',c'⟩:=q
  rw [e] at e'
  cases e'
  rw [d] at d'
  cases d'
  exact Prod.ext (b.inj b') (c.inj c')
theorem IsPK.keeps {h h':Heap} {k:List K × List K} {a d:Addr} {o:Obj} {es ep} (x:IsPK knd h k a) (ho:h.get? d = some o) (hd:o.data = .dict es ep) (hs:Heap.SameBut d h h'):IsPK knd h' k a:=by
  obtain ⟨p,n,B,C,e,t,q,b,c⟩:=x
  refine ⟨p,n,B,C,(hs.2 a fun z=>?_).trans e,t,q,b.keeps ho hd hs,c.keeps ho hd hs⟩
  subst z
  rw [e] at ho
  cases ho
  rw [hd] at q
  exact nomatch q
variable {A:Around} {E:Value -> Shared -> Prop} {s:Shared}
theorem VE {M:Model} {i:Int} {Q:Int -> Shared -> Prop} (h:Q (reduceHash i) s):wpAny M A (pyHashByItsType.reduced i) Q E s:=by
  unfold pyHashByItsType.reduced
  unfold reduceHash at h
  split at h
  · rename_i z
    rw [if_pos z]
    exact wpAny_pure h
  · rename_i z
    rw [if_neg z]
    exact wpAny_bind (wpAny_rule (wpAny_pure h))
theorem Wh {k:List K × List K} {a:Addr} {Q:Int -> Shared -> Prop} (hu:A.units + 1 < cLine) (hk:IsPK knd s.heap k a) (h:Q (Z9 knd k) { s with toks:=s.toks + (k.1.length + 1 + (k.2.length + 1) + 1) }) :
    wpAny (model prog w) A (pyHash (.ref a)) Q E s:=by
  have ty:=hk.ty
  obtain ⟨o,n,B,C,e,t,q,b,c⟩:=hk
  have h0:A.units < cLine:=Nat.lt_of_succ_lt hu
  unfold pyHash
  first | unfold pyHashByItsType | skip
  first | refine wpAny_bind (wpAny_cRoomFor_or (.inr h0) ?r) | skip
  refine wpAny_bind (wpAny_specialOf ty F.slot_tuple_hash.lookup ?a1)
  refine (?a2:wpAny _ _ (if (some (Value.builtin "tuple.__hash__") == some Value.none) = true then _ else _) Q E s)
  rw [if_neg (by rw [beq_builtin_none];decide)]
  refine wpAny_bind (wpAny_specialOf ty F.slot_tuple_hash.lookup (wpAny_bind (wpAny_callSpecialIfBoundUnlessNone?_slot ty F.slot_tuple_hash (wpAny_call_entry F.slot_tuple_hash ty F.entry_tuple_hash ?a3 (F.args_tuple_hash_1 _)))))
  refine (?a4:wpAny _ _ (Builtin.Tuple.tupleItemsOf (.ref a) >>= _) _ _ s)
  refine wpAny_bind (wpAny_tupleItemsOf e q (wpAny_bind ?a5))
  rw [<- Array.forIn_toList]
  simp only [List.forIn_cons,List.forIn_nil]
  refine wpAny_bind (wpAny_bind (wpAny_pyHash_tuple hu b (wpAny_pure ?b1)))
  refine wpAny_bind (wpAny_bind (wpAny_pyHash_tuple hu (s:={ s with toks:=_ }) c (wpAny_pure (wpAny_pure ?b2))))
  refine wpAny_ret_mkInt (VE ?b3)
  simpa [Z9,Nat.add_assoc] using h
theorem Z8 {x y:List K × List K} {a b:Addr} {P:PySem.Fin -> Shared -> Prop} (hu:A.units < cLine) (hx:IsPK knd s.heap x a) (hy:IsPK knd s.heap y b) (h:P (.done (.ret (.bool (decide (x = y))))) s) :
    wpAny (model prog w) A (Builtin.«tuple.__eq__» ⟨[.ref a,.ref b],[]⟩) P E s:=by
  have ty:=hy.ty
  obtain ⟨o,n,B,C,e,_,d,kb,kc⟩:=hx
  obtain ⟨o',n',B',C',e',_,d',kb',kc'⟩:=hy
  refine (?a0:wpAny _ _ (isInstance (.ref b) (.type "tuple") >>= _) _ _ s)
  refine wpAny_bind (wpAny_isInstance ty isSubtype_tuple_tuple ?a1)
  simp only [Bool.not_true,Bool.false_eq_true,if_false]
  refine wpAny_bind (wpAny_tupleItemsOf e d (wpAny_bind (wpAny_tupleItemsOf e' d' (wpAny_bind ?a2))))
  simp only [List.zip_cons_cons,List.zip_nil_left,List.forIn_cons,List.forIn_nil]
  have ex:decide (x = y) = (decide (x.1 = y.1) && decide (x.2 = y.2)):=by
    obtain ⟨x1,x2⟩:=x
    obtain ⟨y1,y2⟩:=y
    by_cases z:x1 = y1 <;> by_cases z2:x2 = y2 <;> simp [z,z2]
  rw [ex] at h
  refine wpAny_bind (wpAny_bind (wpAny_eqBool_tuple hu kb kb' ?a3))
  by_cases z:x.1 = y.1
  · rw [decide_eq_true z] at h ⊢
    refine wpAny_pure (wpAny_bind (wpAny_bind (wpAny_eqBool_tuple hu kc kc' ?a4)))
    by_cases z2:x.2 = y.2
    · rw [decide_eq_true z2] at h ⊢
      exact wpAny_pure (wpAny_pure (wpAny_pure h))
    · rw [decide_eq_false z2] at h ⊢
      exact wpAny_bind (wpAny_pure (wpAny_pure (wpAny_pure (wpAny_pure h))))
  · rw [decide_eq_false z] at h ⊢
    exact wpAny_bind (wpAny_pure (wpAny_pure (wpAny_pure (wpAny_pure h))))
theorem zaY {x y:List K × List K} {a b:Addr} {Q:Bool -> Shared -> Prop} (hu:A.units + 1 < cLine) (hx:IsPK knd s.heap x a) (hy:IsPK knd s.heap y b) (h:Q (decide (x = y)) s) :
    wpAny (model prog w) A (eqBool (.ref a) (.ref b)) Q E s:=by
  unfold eqBool
  try with_reducible refine wpAny_holding ?h0
  refine (?h1:wpAny _ _ (if (Value.ref a == Value.ref b) = true then _ else _) Q E s)
  by_cases z:(Value.ref a == Value.ref b) = true
  · rw [if_pos z]
    have e:a = b:=by have:=eq_of_beq z;injection this
    subst e
    cases hx.inj hy
    refine wpAny_bind (wpAny_rule (wpAny_pure ?h2))
    rw [decide_eq_true rfl] at h
    exact h
  · rw [if_neg z]
    refine wpAny_bind (wpAny_richCompare_same_room (op:=.Eq) hx.ty hy.ty F.slot_tuple_eq (wpAny_call_entry F.slot_tuple_eq hx.ty F.entry_tuple_eq ?h3 (F.args_tuple_eq_2 _ _)) (Nat.lt_of_succ_lt hu))
    exact Z8 hu hx hy ⟨_,rfl,(fun e=>nomatch e),wpAny_truthy_bool h⟩
theorem y9 {ks:List K} {a:Addr} {n:Nat} {Q:Bool -> Shared -> Prop} (hk:IsTupleKey knd s.heap ks a) (h:Q true s):wpAny (model prog w) A (eqIsQuiet (n + 1) (.ref a)) Q E s:=by
  have ty:=hk.typeIs
  obtain ⟨o,its,m,e,_,d,hi⟩:=hk
  unfold eqIsQuiet
  refine wpAny_bind (wpAny_specialOf ty F.slot_tuple_eq.lookup (?q0:wpAny _ _ (isInstance (.ref a) (.type "tuple") >>= _) _ _ s))
  refine wpAny_bind (wpAny_isInstance ty isSubtype_tuple_tuple ?q1)
  simp only [Bool.not_true,Bool.false_eq_true,if_false]
  refine wpAny_bind (wpAny_seqItems e d (wpAny_bind (?q2:wpAny _ _ (forIn its _ _) _ _ s)))
  rw [<- Array.forIn_toList]
  refine wpAny_forIn_list _ (fun jd r s'=>r.1 = none /\ s' = s /\ ∀ v ∈ jd,carriedByValue v = true) _ ?q3 ?q4 _ _ ⟨rfl,rfl,hi.byValue⟩
  · rintro v jd r s' ⟨_,rfl,all⟩
    rw [eqIsQuiet_byValue _ (all v (List.mem_cons_self ..))]
    exact wpAny_bind (wpAny_pure (wpAny_pure ⟨rfl,rfl,fun u hu=>all u (List.mem_cons_of_mem _ hu)⟩))
  · rintro ⟨r1,r2⟩ s' ⟨hr,rfl,_⟩
    cases (show r1 = none from hr)
    exact wpAny_pure h
theorem XY {k:List K × List K} {a:Addr} {Q:Bool -> Shared -> Prop} (hk:IsPK knd s.heap k a) (h:Q true s):wpAny (model prog w) A (eqIsQuiet 8 (.ref a)) Q E s:=by
  have ty:=hk.ty
  obtain ⟨o,n,B,C,e,_,d,b,c⟩:=hk
  unfold eqIsQuiet
  refine wpAny_bind (wpAny_specialOf ty F.slot_tuple_eq.lookup (?q0:wpAny _ _ (isInstance (.ref a) (.type "tuple") >>= _) _ _ s))
  refine wpAny_bind (wpAny_isInstance ty isSubtype_tuple_tuple ?q1)
  simp only [Bool.not_true,Bool.false_eq_true,if_false]
  refine wpAny_bind (wpAny_seqItems e d (wpAny_bind (?q2:wpAny _ _ (forIn (#[Value.ref B,Value.ref C]) _ _) _ _ s)))
  rw [<- Array.forIn_toList]
  simp only [List.forIn_cons,List.forIn_nil]
  exact wpAny_bind (wpAny_bind (y9 b (wpAny_pure (wpAny_bind (wpAny_bind (y9 c (wpAny_pure (wpAny_pure (wpAny_pure h)))))))))
end
def qr {prog:Program} {w:World} {K:Type} [DecidableEq K] (knd:KeyKind prog w K):HeapKind prog w (List K × List K) where
  is:=IsPK knd
  hash:=Z9 knd
  draws:=fun k=>k.1.length + 1 + (k.2.length + 1) + 1
  room:=fun A=>A.units + 1 < cLine
  inj:=fun p q=>p.inj q
  keeps:=fun x a b c=>x.keeps a b c
  pyHash:=fun a b c=>Wh a b c
  eqBool:=fun a b c d=>zaY a b c d
  quiet:=fun a b=>XY a b
end L2
namespace PySem
section
variable {prog:Program} {w:World} {A:Around} {E:Value -> Shared -> Prop} {s:Shared} {d it:Addr} {es:Array DictEntry} {ep i:Nat}
theorem vS (d:Addr) (hd:(d == sysModules) = false):MeetsIn prog w (Builtin.«dict.items» ⟨[.ref d],[]⟩) (fun _ R s=>(∃ es ep,RawD s.heap d es ep) /\
      R (.ok (.ret (.ref s.heap.objs.size))) { s with heap:=s.heap.push { cls:=.type "dict_items",data:=.fields #[.ref d] } }):=
  .of_wp fun A R s ⟨⟨es,ep,o,ho,hc,_⟩,h⟩=>by
    unfold Builtin.«dict.items» Builtin.Dict.noArgs
    refine wpAny_bind (wpAny_bind (wpAny_notOrdered_dict (s:=s) ⟨o,ho,hc.1⟩ ?a));refine (wpAny_pure ?b:wpAny _ _ (pure d) _ _ s)
    refine (?c:wpAny _ _ (Builtin.Dict.showsAll d >>= _) _ _ s);unfold Builtin.Dict.showsAll
    rw [if_neg (by rw [hd];exact Bool.false_ne_true)];exact wpAny_bind (wpAny_pure (wpAny_bind (wpAny_newObj_type (wpAny_pure ⟨_,rfl,h⟩))))
theorem Z2 {v:Addr} {Q:Value -> Shared -> Prop} (hv:s.heap.IsItemsView v d) (hm:RawD s.heap d es ep)
    (hQ:Q (.ref s.heap.objs.size) { s with heap:=s.heap.push { cls:=.type "dict_itemiterator",data:=.fields #[.none,.bool false,.ref d,.int 0 0,.int es.size 0,.int ep 0,.none,.none] } }):wpAny (model prog w) A (pyIter (.ref v)) Q E s:=by
  obtain ⟨ov,hov,hcv,hdv⟩:=id hv
  obtain ⟨o,ho,hc,hdat⟩:=hm
  refine wpAny_pyIter_slot hv.typeIs F.slot_dict_items_iter (wpAny_call_entry F.slot_dict_items_iter hv.typeIs F.entry_dict_items_iter ?go (F.args_dict_items_iter_1 _))
  unfold Builtin.«dict_items.__iter__» Builtin.Dict_items.dictOf Builtin.Dict_items.newIterator
  refine wpAny_bind (wpAny_pure (wpAny_bind (wpAny_bind (wpAny_field hov hdv (x:=.ref d) rfl (wpAny_pure (wpAny_bind (wpAny_bind (wpAny_dictEntries ho hdat (wpAny_bind (wpAny_dictEpoch ho hdat ?b))))))))))
  simp only [show Builtin.Dict_items.ownsTuple "dict_itemiterator" = true by decide,if_true]
  refine wpAny_newObj_type (wpAny_pure ⟨_,rfl, "dict_itemiterator",_,⟨_,Heap.get?_push_size _ rfl,rfl⟩,F.slot_dict_itemiterator_next.lookup,?c⟩) (by simp only [sizeOk,Builtin.Dict_items.ownedTupleFields,List.size_toArray,List.length_append,List.length_cons,List.length_nil,sizeLine_eq];omega)
  simpa [rawInt,Builtin.Dict_items.ownedTupleFields] using hQ
theorem Z3 {e:DictEntry} {ok ov:Value} {Q:Option Value -> Shared -> Prop} (hit:IsItemIter s.heap it d i es.size ep ok ov) (hm:RawD s.heap d es ep) (hx:es[i]? = some e)
    (hQ:∀ h',IsItemIterOut h' it d (i + 1) es.size ep e.key e.val s.heap.objs.size -> h'.get? s.heap.objs.size = some { cls:=.type "tuple",data:=.seq #[e.key,e.val] } -> h'.objs.size = s.heap.objs.size + 1 ->
      (∀ b o,b ≠ it -> s.heap.get? b = some o -> h'.get? b = some o) -> Q (some (.ref s.heap.objs.size)) { s with heap:=h' }):wpAny (model prog w) A (pyNext (.ref it)) Q E s:=by
  obtain ⟨hp,g,dr,tk,os⟩:=s
  obtain ⟨od,hod,hcd,hdd⟩:=hm
  obtain ⟨lt,ee⟩:∃ h:i < es.size,es[i] = e:=Array.getElem?_eq_some_iff.mp hx
  have ty:Shared.TypeIs ⟨hp,g,dr,tk,os⟩ (.ref it) "dict_itemiterator" :=⟨_,hit,rfl⟩
  unfold pyNext
  refine wpAny_bind (wpAny_attempt (wpAny_callSpecial?_slot (name:=Str.ofString "__next__") ty F.slot_dict_itemiterator_next (wpAny_call_entry F.slot_dict_itemiterator_next ty F.entry_dict_itemiterator_next ?a (F.args_dict_itemiterator_next_1 _))))
  refine wpAny_bind (wpAny_pure (wpAny_bind (wpAny_bind ?a2)))
  first | refine wpAny_bind (wpAny_typeNameOfWhole_itemiter ty (wpAny_pure ?a3)) | refine wpAny_bind (wpAny_typeNameOf_itemiter ty (wpAny_pure ?a3))
  refine wpAny_bind (wpAny_fieldsOf hit rfl ?a4)
  simp only [show Builtin.Dict_items.ownsTuple "dict_itemiterator" = true by decide,if_true]
  refine (?a5:wpAny _ _ (if (Value.ref d == Value.none) = true then _ else _) _ _ _)
  rw [if_neg (show ¬ ((Value.ref d == Value.none) = true) from Bool.false_ne_true)];refine wpAny_bind (wpAny_pure (wpAny_bind (wpAny_dictEntries hod hdd ?a6)))
  rw [if_neg (by simp)];refine wpAny_bind (wpAny_pure (wpAny_bind (wpAny_dictEpoch hod hdd ?a7)))
  rw [if_neg (by simp)];refine wpAny_pure ?a8
  simp only [show ¬ ((i:Int) < 0) from by omega,if_false,Int.toNat_natCast,Array.getElem?_eq_getElem lt];refine wpAny_bind ?a9
  first | refine wpAny_bind (wpAny_typeNameOfWhole_itemiter ty (wpAny_pure ?b1)) | refine wpAny_bind (wpAny_typeNameOf_itemiter ty (wpAny_pure ?b1))
  refine wpAny_bind (wpAny_isOneOf_itemiter ty (?b2:wpAny _ _ (setField (.ref it) 3 (rawInt ((i:Int) + 1)) >>= _) _ _ ⟨hp,g,dr,tk,os⟩))
  refine wpAny_bind (wpAny_setField_rec hit (by simp) fun h1 (he1) (hs1:Heap.SameBut it hp h1)=>?b3)
  have e1:IsItemIter h1 it d (i + 1) es.size ep ok ov:=by
    unfold IsItemIter;rw [show ((i + 1:Nat):Int) = (i:Int) + 1 by omega];simpa [rawInt] using he1
  have ty1:Shared.TypeIs ⟨h1,g,dr,tk,os⟩ (.ref it) "dict_itemiterator" :=⟨_,e1,rfl⟩
  refine wpAny_bind (wpAny_holding (wpAny_bind (wpAny_isOneOf_itemiter ty1 (wpAny_bind (wpAny_isOneOf_itemiter ty1 (?b4:wpAny _ _ (Builtin.Dict_items.pairFromOwner (.ref it) 6 es[i].key es[i].val) _ _ ⟨h1,g,dr,tk,os⟩))))))
  rw [ee]
  unfold Builtin.Dict_items.pairFromOwner
  have z1:h1.objs.size = hp.objs.size:=hs1.1
  have il:it < hp.objs.size:=Heap.lt_size hit
  refine wpAny_bind (wpAny_newTuple (?b5:wpAny _ _ (Builtin.Dict_items.ownedTupleIsFree (.ref it) >>= _) _ _ ⟨h1.push { cls:=.type "tuple",data:=.seq #[e.key,e.val] },g,dr,tk,os⟩))
  have e2:IsItemIter (h1.push { cls:=.type "tuple",data:=.seq #[e.key,e.val] }) it d (i + 1) es.size ep ok ov:=Heap.get?_push_of_some _ e1
  have t2:(h1.push { cls:=.type "tuple",data:=.seq #[e.key,e.val] }).get? hp.objs.size = some { cls:=.type "tuple",data:=.seq #[e.key,e.val] }:=by rw [<- z1];exact Heap.get?_push_size _ rfl
  have z2:(h1.push { cls:=.type "tuple",data:=.seq #[e.key,e.val] }).objs.size = hp.objs.size + 1:=by rw [Heap.size_push,z1]
  have k2:∀ b o,b ≠ it -> hp.get? b = some o -> (h1.push { cls:=.type "tuple",data:=.seq #[e.key,e.val] }).get? b = some o:=fun b o hb q=>Heap.get?_push_of_some _ (hs1.extBut b o hb q)
  rw [z1]
  generalize h1.push { cls:=.type "tuple",data:=.seq #[e.key,e.val] } = h2 at e2 t2 z2 k2
  unfold Builtin.Dict_items.ownedTupleIsFree
  refine wpAny_bind (wpAny_bind (wpAny_field e2 rfl (x:=.none) rfl (wpAny_pure ?b6)))
  simp only [if_true]
  refine wpAny_bind (wpAny_field e2 rfl (x:=ok) rfl (wpAny_bind (wpAny_field e2 rfl (x:=ov) rfl ?b7)))
  refine wpAny_bind (wpAny_setField_rec e2 (by simp) fun h3 (e3:IsItemIter h3 it d (i + 1) es.size ep e.key ov) (s3:Heap.SameBut it h2 h3)=>?b8)
  refine wpAny_bind (wpAny_setField_rec e3 (by simp) fun h4 (e4:IsItemIter h4 it d (i + 1) es.size ep e.key e.val) (s4:Heap.SameBut it h3 h4)=>?b9)
  refine wpAny_bind (wpAny_setField_rec e4 (by simp) fun h5 (e5:IsItemIterOut h5 it d (i + 1) es.size ep e.key e.val hp.objs.size) (s5:Heap.SameBut it h4 h5)=>?c1)
  refine wpAny_bind (wpAny_setField_rec e5 (by simp) fun h6 (e6:IsItemIterOut h6 it d (i + 1) es.size ep e.key e.val hp.objs.size) (s6:Heap.SameBut it h5 h6)=>?c2)
  have up:∀ b o,b ≠ it -> h2.get? b = some o -> h6.get? b = some o:=fun b o hb q=>s6.extBut b o hb (s5.extBut b o hb (s4.extBut b o hb (s3.extBut b o hb q)))
  exact wpAny_bind (wpAny_letGo (wpAny_pure (wpAny_pure ⟨_,rfl,wpAny_pure (hQ h6 e6 (up _ _ (Nat.ne_of_gt il) t2) (by show h6.objs.size = _;rw [s6.1,s5.1,s4.1,s3.1,z2]) fun b o hb q=>up b o hb (k2 b o hb q))⟩)))
theorem JK {ok ov:Value} {Q:Option Value -> Shared -> Prop} (hh:A.handled = none) (hit:IsItemIter s.heap it d i es.size ep ok ov) (hm:RawD s.heap d es ep) (hx:es.size <= i)
    (hQ:∀ h',Heap.ExtBut it s.heap h' -> Q none { s with heap:=h' }):wpAny (model prog w) A (pyNext (.ref it)) Q E s:=by
  obtain ⟨od,hod,hcd,hdd⟩:=hm
  have ty:s.TypeIs (.ref it) "dict_itemiterator" :=⟨_,hit,rfl⟩
  unfold pyNext
  refine wpAny_bind (wpAny_attempt (wpAny_callSpecial?_slot (name:=Str.ofString "__next__") ty F.slot_dict_itemiterator_next (wpAny_call_entry F.slot_dict_itemiterator_next ty F.entry_dict_itemiterator_next ?a (F.args_dict_itemiterator_next_1 _))))
  refine wpAny_bind (wpAny_pure (wpAny_bind (wpAny_bind ?a2)))
  first | refine wpAny_bind (wpAny_typeNameOfWhole_itemiter ty (wpAny_pure ?a3)) | refine wpAny_bind (wpAny_typeNameOf_itemiter ty (wpAny_pure ?a3))
  refine wpAny_bind (wpAny_fieldsOf hit rfl ?a4)
  simp only [show Builtin.Dict_items.ownsTuple "dict_itemiterator" = true by decide,if_true]
  refine (?a5:wpAny _ _ (if (Value.ref d == Value.none) = true then _ else _) _ _ _)
  rw [if_neg (show ¬ ((Value.ref d == Value.none) = true) from Bool.false_ne_true)];refine wpAny_bind (wpAny_pure (wpAny_bind (wpAny_dictEntries hod hdd ?a6)))
  rw [if_neg (by simp)];refine wpAny_bind (wpAny_pure (wpAny_bind (wpAny_dictEpoch hod hdd ?a7)))
  rw [if_neg (by simp)];refine wpAny_pure ?a8
  simp only [show ¬ ((i:Int) < 0) from by omega,if_false,Int.toNat_natCast,Array.getElem?_eq_none hx];refine wpAny_bind ?a9
  first | refine wpAny_bind (wpAny_typeNameOfWhole_itemiter ty (wpAny_pure ?b1)) | refine wpAny_bind (wpAny_typeNameOf_itemiter ty (wpAny_pure ?b1))
  refine (?b3:wpAny _ _ (setField (.ref it) 2 .none >>= _) _ _ s);refine wpAny_bind (wpAny_setField hit rfl (by simp) ?b4)
  refine (?b5:wpAny _ _ (newExc (.type "StopIteration") [] >>= _) _ _ _);refine wpAny_bind ?b6
  simp only [newExc,newTuple];refine wpAny_bind (wpAny_newObj_type ?b7 (by size_fits))
  refine wpAny_bind (m:=firstArgMember _ _) (wpAny_of_eq (a:=Value.none) (by first | rfl | (simp only [firstArgMember];rfl)) (wpAny_newObj_type ?b8 (by size_fits)))
  simp only [raiseNew];refine wpAny_bind (wpAny_handled ?b9)
  rw [show A.in1.handled = none from hh];refine wpAny_bind (wpAny_pure (wpAny_throw ?c1))
  exact wpAny_bind (wpAny_isInstance (T:= "StopIteration") (b:=true) ⟨_,Heap.get?_push_size _ rfl,rfl⟩ isSubtype_stop (wpAny_pure (hQ _ (((Heap.SameBut.update ..).extBut.push _).push _))))
end
end PySem
namespace L2
open PySem PySem.Spec PyProof.Rows PySem.W
abbrev PKy:=List Key × List Key
abbrev PEs:=List (PKy × Addr × Addr)
def jB (xs:PEs):List (PKy × Addr × Value):=xs.map fun x=>(x.1,x.2.1,.ref x.2.2)
def lkP (xs:PEs) (k:PKy):Option (Addr × Addr):=(xs.find? fun x=>decide (x.1 = k)).map (·.2)
def stP (xs:PEs) (k:PKy) (a v:Addr):PEs:=if (lkP xs k).isSome = true then xs.map (fun x=>if x.1 = k then (x.1,x.2.1,v) else x) else xs ++ [(k,a,v)]
theorem Z1 (k:PKy):∀ xs:PEs,atKey (jB xs) k = (lkP xs k).map fun p=>(p.1,Value.ref p.2)
  | []=>rfl
  | x :: xs=>by
    have ih:=Z1 k xs
    unfold atKey lkP jB at *
    by_cases e:x.1 = k
    · simp [List.find?_cons,e]
    · simp only [List.map_cons,List.find?_cons,e,decide_false]
      exact ih
theorem XJ (xs:PEs) (k:PKy) (a v:Addr):jB (stP xs k a v) = storedH (jB xs) k a (.ref v):=by
  unfold stP storedH
  rw [Z1,Option.isSome_map]
  by_cases e:(lkP xs k).isSome = true
  · rw [if_pos e,if_pos e]
    unfold jB
    rw [List.map_map,List.map_map]
    refine List.map_congr_left fun x _=>?_
    by_cases z:x.1 = k
    · simp [putAt,z]
    · simp [putAt,z]
  · rw [if_neg e,if_neg e]
    unfold jB
    rw [List.map_append]
    rfl
theorem Zk (xs:PEs):(jB xs).map (·.1) = xs.map (·.1):=by unfold jB;rw [List.map_map];rfl
theorem V9 (xs:PEs) (k:PKy) (a v:Addr):(stP xs k a v).length <= xs.length + 1:=by
  unfold stP
  split
  · rw [List.length_map];exact Nat.le_succ _
  · rw [List.length_append];exact Nat.le_refl _
def DpO (P:Program) (w:World) (a:Addr) (o:Obj) (xs:PEs):Prop:=(a == sysModules) = false /\ xs.length <= sizeLine /\ o.ExactDict /\ (xs.map (·.1)).Nodup /\ ∃ es ep,o.data = .dict es ep /\ es.toList = (jB xs).map (entryOfKey (qr (zq P w)))
def dP (P:Program) (w:World) (a:Addr) (o:Obj) (xs:PEs):HO:=.ext fun h=>h.get? a = some o /\ DpO P w a o xs
theorem Yx {P:Program} {w:World} {H:Hp} {h:Heap} {a:Addr} {o:Obj} {xs:PEs} (e:h.get? a = some o) (d:DpO P w a o xs):ObjOk P w H h a (dP P w a o xs):=
  ⟨⟨e,d⟩,⟨o,e⟩,fun h1 h2 x k=>⟨k o x.1,x.2⟩⟩
def KyAt (K:PySem.W.Frag) (H:Hp) (k:PKy) (a:Addr):Prop:=∃ B C,SqT K H a [.ref B,.ref C] /\ SqT K H B (k.1.map kV) /\ SqT K H C (k.2.map kV)
def ZO (K:PySem.W.Frag) (H:Hp) (xs:PEs):Prop:=∀ x ∈ xs,KyAt K H x.1 x.2.1
section
variable {X:Cx} {pins:List (Addr × Obj)} {σ:St} {H:Hp} {s:Shared}
theorem W6 {a:Addr} {ks:List Key} (I:Inv X pins σ H s) (h:SqT X.K H a (ks.map kV)):IsTupleKey (zq X.prog X.w) s.heap ks a:=by
  obtain ⟨its,r,⟨o,h1,h2,n,h3⟩,_⟩:=I.tuple h
  exact ⟨o,its.toArray,n,h1,h2,h3,by simpa using jg r⟩
theorem Zz {a:Addr} {k:PKy} (I:Inv X pins σ H s) (h:KyAt X.K H k a):IsPK (zq X.prog X.w) s.heap k a:=by
  obtain ⟨B,C,h0,h1,h2⟩:=h
  obtain ⟨its,r,⟨o,e,t,n,d⟩,_⟩:=I.tuple h0
  cases r with
  | @cons _ u _ _ r1 r=>
    cases r with
    | @cons _ u' _ _ r2 r=>
      cases r
      cases (show u = Value.ref B from r1)
      cases (show u' = Value.ref C from r2)
      exact ⟨o,n,B,C,e,t,d,W6 I h1,W6 I h2⟩
theorem xY {a:Addr} {o:Obj} {xs:PEs} (I:Inv X pins σ H s) (e:H a = some (dP X.prog X.w a o xs)):s.heap.get? a = some o /\ DpO X.prog X.w a o xs:=(show ObjOk X.prog X.w H s.heap a (dP X.prog X.w a o xs) from I.hok a _ e).1
theorem Q6 {a:Addr} {o:Obj} {xs:PEs} (I:Inv X pins σ H s) (e:H a = some (dP X.prog X.w a o xs)) (ks:ZO X.K H xs):s.heap.DictOfH (qr (zq X.prog X.w)) a (jB xs):=by
  obtain ⟨e1,_,_,ex,nd,es,ep,h1,h2⟩:=xY I e
  refine ⟨o,es,ep,e1,ex,h1,h2,fun x hx=>?_,by rw [Zk];exact nd⟩
  obtain ⟨y,hy,rfl⟩:=List.mem_map.mp hx
  exact Zz I (ks y hy)
theorem Qn {a b v:Addr} {o:Obj} {xs:PEs} {k:PKy} {h':Heap} {t':Nat} (I:Inv X pins σ H s) (e:H a = some (dP X.prog X.w a o xs)) (hl:xs.length < sizeLine)
    (dd:h'.DictOfH (qr (zq X.prog X.w)) a (storedH (jB xs) k b (.ref v))) (hs:Heap.SameBut a s.heap h'):∃ o',Inv X pins σ (upd H a (dP X.prog X.w a o' (stP xs k b v))) { s with heap:=h',toks:=t' }:=by
  obtain ⟨_,lo,_⟩:=xY I e
  obtain ⟨o',es,ep,h1,h2,h3,h4,_,h5⟩:=dd
  refine ⟨o',jZ I (by rw [e];exact True.intro) hs ⟨o',h1⟩ (Yx h1 ⟨lo,?_,h2,?_,es,ep,h3,?_⟩)⟩
  · have:=V9 xs k b v;omega
  · rw [<- Zk,XJ];exact h5
  · rw [XJ];exact h4
def YE (P:Program) (w:World):TE:=fun _ H Q=>∀ p o,H p = none -> Q (.ref p) (upd H p (dP P w p o []))
theorem Qo {H:Hp} {P:Program} {w:World} (h:Heap) (hb:sysModules < h.objs.size):ObjOk P w H (h.push { cls:=.type "dict",data:=.dict #[] }) h.objs.size (dP P w h.objs.size { cls:=.type "dict",data:=.dict #[] } []):=
  Yx (Heap.get?_push_size _ rfl) ⟨beq_eq_false_iff_ne.mpr (Ne.symm (Nat.ne_of_lt hb)),Nat.zero_le _,⟨rfl,rfl,rfl⟩,List.nodup_nil,#[],0,rfl,rfl⟩
theorem X5 {pos:Pos}:PE X (.Dict [] [] pos) (YE X.prog X.w):=by
  intro pins s σ H Q I q
  have hn:=I.hok.fresh (Nat.le_refl s.heap.objs.size)
  exact wpAny_Dict_empty ⟨.ref s.heap.objs.size,_,I.laid (t':=s.toks) (fun _ _ q=>Heap.get?_push_of_some _ q) (Nat.le_refl _) (Qo s.heap I.big),rfl,q _ _ hn⟩
inductive XQ (P:Program) (w:World) (K:PySem.W.Frag) (x i v:V) (H:Hp) (Q:Hp -> Prop):Prop
  | mk (a b c:Addr) (o:Obj) (xs:PEs) (k:PKy) (_:x = .ref a) (_:i = .ref b) (_:v = .ref c) (_:H a = some (dP P w a o xs)) (_:ZO K H xs) (_:KyAt K H k b) (_:xs.length < sizeLine) (_:∀ o',Q (upd H a (dP P w a o' (stP xs k b c)))):XQ P w K x i v H Q
theorem YI (hu:X.A.units + 2 < cLine):zat X (XQ X.prog X.w X.K):=by
  intro pins s σ H x i v ov iv u Q I ro ri rv h
  obtain ⟨a,b,c,o,xs,k,rfl,rfl,rfl,e,ks,kb,hl,q⟩:=h
  cases ro
  cases ri
  cases rv
  have hz:(jB xs).length <= sizeLine:=by unfold jB;rw [List.length_map];exact Nat.le_of_lt hl
  refine wpAny_setItem_heap (hsz:=hz) (show (qr (zq X.prog X.w)).room X.A.in1 from hu) (Zz I kb) (Q6 I e ks) fun h' dd hs=>?_
  obtain ⟨o',I'⟩:=Qn (t':=_) I e hl dd hs
  exact ⟨_,I',q o'⟩
def zaO (P:Program) (w:World) (K:PySem.W.Frag) (td ty tv:TE):TS:=fun D σ H=>tv σ H fun v H1=>td σ H1 fun x H2=>ty σ H2 fun i H3=>XQ P w K x i v H3 fun H4=>D.nx σ H4
theorem XW {o i value:Expr} {td ty tv:TE} {pos pos':Pos} (hu:X.A.units + 2 < cLine) (ho:PE X o td) (hi:PE X i ty) (hv:PE X value tv) (hs:swapsWith value (some (.Subscript o i pos')) pos.line X.env = pure false) :
    PS X (.Assign [.Subscript o i pos'] value pos) (zaO X.prog X.w X.K td ty tv):=by
  intro pins s σ H D I h
  refine wpAny_Assign_Subscript (thn (hv pins s σ H _ I h) fun r s1 ⟨v,H1,I1,rv,q1⟩=>thn (ho pins s1 σ H1 _ I1 q1) fun u s2 ⟨x,H2,I2,rx,q2⟩=>thn (hi pins s2 σ H2 _ I2 q2) fun iv s3 ⟨y,H3,I3,ry,q3⟩=>?_) hs
  exact thn (YI hu pins s3 σ H3 x y v u iv r _ I3 rx ry rv q3) fun _ s4 ⟨H4,I4,q4⟩=>⟨σ,H4,I4,q4⟩
inductive Yl (P:Program) (w:World) (K:PySem.W.Frag) (a:Addr) (i z:V) (H:Hp) (Q:VK):Prop
  | mk (b:Addr) (o:Obj) (xs:PEs) (k:PKy) (_:i = .ref b) (_:H a = some (dP P w a o xs)) (_:ZO K H xs) (_:KyAt K H k b) (_:Q (((lkP xs k).map fun p=>V.ref p.2).getD z) H):Yl P w K a i z H Q
inductive zaU (P:Program) (w:World) (x:V) (H:Hp) (Q:Addr -> Hp -> Prop):Prop
  | mk (a:Addr) (o:Obj) (xs:PEs) (_:x = .ref a) (_:H a = some (dP P w a o xs)) (_:Q a H):zaU P w x H Q
def zaC (P:Program) (w:World) (K:PySem.W.Frag) (td ty tx:TE):TE:=fun σ H Q=>td σ H fun x H1=>zaU P w x H1 fun a H1=>ty σ H1 fun y H2=>tx σ H2 fun z H3=>Yl P w K a y z H3 Q
theorem X8 {o e f:Expr} {apos cpos:Pos} {td ty tx:TE} (hu:X.A.units + 2 < cLine) (ho:PE X o td) (he:PE X e ty) (hf:PE X f tx) (m:M2 X o "get" apos e f cpos):PE X (.Call (.Attribute o "get" apos) [e,f] [] cpos) (zaC X.prog X.w X.K td ty tx):=by
  intro pins s σ H Q I h
  refine wpAny_Call_method m.base m.few m.line PySem.F.plainAttrs_dict PySem.F.slot_dict_get PySem.F.type_dict_get (thn (ho pins s σ H _ I h) fun u s1 ⟨x,H1,I1,rx,q1⟩=>?_)
  obtain ⟨a,o1,xs1,rfl,e1,q1⟩:=q1
  cases rx
  obtain ⟨g1,d1⟩:=xY I1 e1
  refine ⟨⟨o1,g1,d1.2.2.1.1⟩,fun b q=>?_,?_⟩
  · cases q;exact ⟨o1,g1,d1.2.2.1.2.1⟩
  rw [m.trees]
  refine Calls.callWith_builtin rfl (Calls.evalArgs_plain (Calls.spliced_cons (thn (he pins s1 σ H1 _ I1 q1) fun iv s2 ⟨y,H2,I2,ry,q2⟩=>Calls.spliced_cons (thn (hf pins s2 σ H2 _ I2 q2) fun fv s3 ⟨z,H3,I3,rz,q3⟩=>Calls.spliced_nil ?_))))
  obtain ⟨b,o3,xs,k,rfl,e3,ks,kb,q⟩:=q3
  cases ry
  have dd:=Q6 I3 e3 ks
  refine call_meetsIn PySem.F.slot_dict_get dd.typeIs PySem.F.entry_dict_get (PySem.F.args_dict_get_3 _ _ _) (meetsH_dict_get_default (qr (zq X.prog X.w)) a b (xY I3 e3).2.1 fv) ⟨hu,k,_,Zz I3 kb,dd,_,H3,I3.tok _,?_,q⟩
  rw [Z1,Option.map_map]
  cases lkP xs k with
  | none=>exact rz
  | some p=>exact rfl
end
end L2
namespace L2
open PySem PySem.Spec PyProof.Rows PySem.W
section
variable {X:Cx}
inductive QO (P:Program) (w:World) (x:V) (H:Hp) (Q:VK):Prop
  | mk (d:Addr) (o:Obj) (xs:PEs) (_:x = .ref d) (_:H d = some (dP P w d o xs)) (_:∀ p,H p = none -> Q (.ref p) (upd H p (xT p d))):QO P w x H Q
def V5 (P:Program) (w:World) (to:TE):TE:=fun σ H Q=>to σ H fun x H1=>QO P w x H1 Q
theorem xN {o:Expr} {to:TE} {apos cpos:Pos} (ho:PE X o to) (hbase:attributeBase o "items" X.env (eval o X.env) = eval o X.env:=by rfl) (hline:(apos.endLine == cpos.line) = true:=by rfl) :
    PE X (.Call (.Attribute o "items" apos) [] [] cpos) (V5 X.prog X.w to):=by
  intro pins s σ H Q I h
  refine wpAny_Call_method0_late hbase hline (thn (ho pins s σ H _ I h) fun v s1 ⟨x,H1,I1,r1,q1⟩=>?_)
  obtain ⟨d,ob,xs,rfl,e,q⟩:=q1
  cases r1
  obtain ⟨g1,lo,_,ex,_,es,ep,h3,_⟩:=xY I1 e
  have ty:s1.TypeIs (.ref d) "dict" :=⟨ob,g1,ex.1⟩
  refine ⟨"dict", "dict.items",PySem.F.plainAttrs_dict,PySem.F.slot_dict_items,PySem.F.type_dict_items,ty,fun b z=>?_,Calls.callWith_builtin rfl (PySem.evalArgs_none ?_)⟩
  · cases z;exact ⟨ob,g1,ex.2.1⟩
  have hn:H1 s1.heap.objs.size = none:=I1.hok.fresh (Nat.le_refl _)
  refine call_meetsIn PySem.F.slot_dict_items ty PySem.F.entry_dict_items (PySem.F.args_dict_items_1 _) (vS d lo) ⟨⟨es,ep,ob,g1,ex,h3⟩,?_⟩
  exact ⟨.ref s1.heap.objs.size,_,I1.laid (a:=s1.heap.objs.size) (o:=xT s1.heap.objs.size d) (t':=s1.toks) (fun b u e=>Heap.get?_push_of_some _ e) (Nat.le_refl _) ⟨⟨_,Heap.get?_push_size _ rfl,rfl,rfl⟩,⟨_,Heap.get?_push_size _ rfl⟩,fun h1 h2 x e=>let ⟨o,ho,r⟩:=x;⟨o,e o ho,r⟩⟩,rfl,q _ hn⟩
end
def ItP (P:Program) (w:World) (d:Addr) (o:Obj) (xs:PEs):It:=
  ⟨fun i H=>H d = some (dP P w d o xs) /\ i < xs.length,fun i H x H'=>∃ T k a v,x = .ref T /\ H T = none /\ H' = upd H T (.tup [.ref a,.ref v]) /\ xs[i]? = some (k,a,v),fun i H=>H d = some (dP P w d o xs) /\ xs.length <= i⟩
theorem ZR {P:Program} {w:World} {K:PySem.W.Frag} {elts:List Expr} {kk:Nat} {pos:Pos} (d it:Addr) (o:Obj) (xs:PEs) (es:Array DictEntry) (ep:Nat) (he:o.data = .dict es ep) (hx:es.toList = (jB xs).map (entryOfKey (qr (zq P w)))) :
    wJ P w K (.Tuple elts kk pos) (ItP P w d o xs) [it] it (fun i h=>∃ ok ov,IsItemIter h it d i es.size ep ok ov) where
  mem:=by simp
  obj:=fun i h st b hb=>by
    have e:b = it:=by simpa using hb
    subst e
    obtain ⟨_,_,st⟩:=st
    exact ⟨_,st,fun v z=>nomatch z⟩
  keep:=fun i h h' st k=>let ⟨a,b,st⟩:=st;⟨a,b,k it (by simp) _ st⟩
  item:=by
    intro X hP hw hK hc i pins s σ H E I hf st hg
    subst hP hw hK
    obtain ⟨hd,hi⟩:=hg
    obtain ⟨ok,ov,st⟩:=st
    obtain ⟨g1,_,_,ex,_,es',ep',h1,_⟩:=xY I hd
    rw [he] at h1
    cases h1
    obtain ⟨⟨k,a,v⟩,hv⟩:∃ p,xs[i]? = some p:=⟨xs[i],by simp [hi]⟩
    have ei:es[i]? = some ⟨(qr (zq X.prog X.w)).hash k,.ref a,.ref v⟩:=by
      rw [<- Array.getElem?_toList,hx]
      unfold jB
      rw [List.getElem?_map,List.getElem?_map,hv]
      rfl
    refine Z3 st ⟨o,g1,ex,he⟩ ei fun h' hout hT hsz hkeep=>?_
    refine ⟨_,rfl,wpAny_letOwnedTupleGo_items hout fun h2 he2 hs2=>?_⟩
    have eT:s.heap.objs.size ≠ it:=Nat.ne_of_gt (Heap.lt_size st)
    have k2:∀ b o,b ∉ [it] -> s.heap.get? b = some o -> h2.get? b = some o:=fun b o hb q=>by
      have n1:b ≠ it:=fun z=>hb (by simp [z])
      exact (hs2.2 b n1).trans (hkeep b o n1 q)
    refine ⟨.ref s.heap.objs.size,upd H s.heap.objs.size (.tup [.ref a,.ref v]),?_,rfl,⟨_,k,a,v,rfl,I.hok.fresh (Nat.le_refl _),rfl,hv⟩,⟨_,_,he2⟩,fun b hb=>?_⟩
    · exact vo (s:=s) (h':=h2) (t':=s.toks) (its:=[.ref a,.ref v]) I hf (Nat.le_refl _) k2 (by rw [sizeLine_eq];exact (by decide:2 <= 16777216)) (.cons rfl (.cons rfl .nil)) (TupX.by ((hs2.2 _ eT).trans hT))
    · rw [zi (Nat.ne_of_lt (by rw [List.mem_singleton.mp hb];exact Heap.lt_size st))]
      exact (hf b hb).1
  done:=by
    intro X hP hw hK hc i pins s σ H E I hf st hg
    subst hP hw hK
    obtain ⟨hd,hi⟩:=hg
    obtain ⟨ok,ov,st⟩:=st
    obtain ⟨g1,_,_,ex,_,es',ep',h1,_⟩:=xY I hd
    rw [he] at h1
    cases h1
    have ln:es.size = xs.length:=by rw [<- Array.length_toList,hx];unfold jB;simp
    obtain ⟨f0,f1,f2,f3,f4,f5⟩:=hf it (by simp)
    exact JK (I.ok.hd hc) st ⟨o,g1,ex,he⟩ (by omega) fun h' eb=>⟨rfl,I.turned (t':=s.toks) (fun b o hb e=>eb b o hb e) f0 f1 f3 f4 f5⟩
  self:=fun _ _ _ _ _ st h=>let ⟨_,_,st⟩:=st;kcp_self st h
section
variable {X:Cx}
inductive XO (P:Program) (w:World) (x:V) (H:Hp) (R:It -> Hp -> Prop):Prop
  | mk (p d:Addr) (o:Obj) (xs:PEs) (_:x = .ref p) (_:H p = some (xT p d)) (_:H d = some (dP P w d o xs)) (_:R (ItP P w d o xs) H):XO P w x H R
def zak (P:Program) (w:World) (tl:TE):TI:=fun σ H R=>tl σ H fun x H1=>XO P w x H1 R
theorem vM {l:Expr} {tl:TE} {elts:List Expr} {kk:Nat} {tp:Pos} (hl:PE X l tl):PI X (.Tuple elts kk tp) l (zak X.prog X.w tl):=by
  intro pins s σ H R I h
  refine thn (hl pins s σ H _ I h) fun v s1 ⟨x,H1,I1,r1,q1⟩=>?_
  obtain ⟨p,d,o,xs,rfl,hp,hd,q⟩:=q1
  cases r1
  obtain ⟨hv,_,_⟩:=(show ObjOk X.prog X.w H1 s1.heap p (xT p d) from I1.hok p _ hp)
  obtain ⟨g1,_,_,ex,_,es,ep,h3,h4⟩:=xY I1 hd
  refine Z2 hv ⟨o,g1,ex,h3⟩ ?_
  refine ⟨s1.heap.objs.size,[s1.heap.objs.size],_,_,H1,rfl,I1.kept (t':=s1.toks) (fun b o e=>Heap.get?_push_of_some _ e),ZR d _ o xs es ep h3 h4,⟨.none,.none,Heap.get?_push_size _ rfl⟩,fun b hb=>?_,q⟩
  cases List.mem_singleton.mp hb
  exact I1.fpOk (Nat.le_refl _) (I1.hok.fresh (Nat.le_refl _))
inductive XR (P:Program) (w:World) (K:PySem.W.Frag) (p:Addr) (ps:List (V × V)) (H:Hp) (Q:VK):Prop
  | mk (b c:Addr) (o:Obj) (k:PKy) (_:ps = [(.ref b,.ref c)]) (_:H p = some (dP P w p o [])) (_:KyAt K H k b) (_:∀ o',Q (.ref p) (upd H p (dP P w p o' [(k,b,c)]))):XR P w K p ps H Q
def YD (P:Program) (w:World) (K:PySem.W.Frag) (tk tv:TE):TE:=fun σ H Q=>∀ p o,H p = none -> vD [(tk,tv)] σ (upd H p (dP P w p o [])) fun ps H2=>XR P w K p ps H2 Q
theorem X7 {pos:Pos} {k v:Expr} {tk tv:TE} (hu:X.A.units + 2 < cLine) (hk:PE X k tk) (hv:PE X v tv):PE X (.Dict [some k] [v] pos) (YD X.prog X.w X.K tk tv):=by
  intro pins s σ H Q I q
  have hn:=I.hok.fresh (Nat.le_refl s.heap.objs.size)
  have I1:=I.laid (a:=s.heap.objs.size) (t':=s.toks) (fun _ _ q=>Heap.get?_push_of_some _ q) (Nat.le_refl _) (Qo s.heap I.big)
  refine wpAny_Dict_any rfl rfl (by simp) (show 1 <= 15 by decide) (thn (Zn (pos:=pos) hk hv QR pins _ σ _ _ I1 (q _ _ hn)) fun ws s2 ⟨ps,H2,I2,rel,q2⟩=>?_)
  obtain ⟨b,c,o,kk,rfl,e,eb,q3⟩:=q2
  cases rel with
  | @cons _ w0 _ _ h t=>
    cases t
    obtain ⟨u,r⟩:=w0
    obtain ⟨ru,rr⟩:=h
    cases (show u = Value.ref b from ru)
    cases (show r = Value.ref c from rr)
    unfold storeAll
    rw [List.forIn_cons]
    refine wpAny_bind (wpAny_bind (wpAny_dictSet_heap (hsz:=Nat.zero_le _) (knd:=qr (zq X.prog X.w)) (show X.A.units + 1 < cLine from Nat.lt_of_succ_lt hu) (Zz I2 eb) (Q6 I2 e fun _ z=>nomatch z) fun h' dd' hs=>wpAny_pure ?_))
    dsimp only
    rw [List.forIn_nil]
    obtain ⟨o',I'⟩:=Qn (t':=_) I2 e (by rw [sizeLine_eq];exact (by decide:0 < 16777216)) dd' hs
    exact wpAny_pure ⟨.ref s.heap.objs.size,_,I',rfl,q3 o'⟩
end
theorem JY {P:Program} {w:World} {d:Addr} {o:Obj} {xs:PEs} {g:TG} {tb:TS} {D:wK} {σ:St} {H:Hp} (Pv:Nat -> St -> Hp -> Prop) (h0:Pv 0 σ H) (hl:∀ i σ H,i <= xs.length -> Pv i σ H -> H d = some (dP P w d o xs))
    (hs:∀ i k a v σ H T,xs[i]? = some (k,a,v) -> Pv i σ H -> H T = none -> g (.ref T) σ (upd H T (.tup [.ref a,.ref v])) fun σ2 H2=>tb { D with nx:=Pv (i + 1),ct:=Pv (i + 1),bk:=D.nx } σ2 H2) (hd:∀ σ H,Pv xs.length σ H -> D.nx σ H) :
    ∃ W:Nat -> Nat -> St -> Hp -> Prop,(∃ m,W 0 m σ H) /\ ∀ i m σ H,W i m σ H ->
      ((ItP P w d o xs).stop i H /\ D.nx σ H) \/ ((ItP P w d o xs).go i H /\ ∃ N:St -> Hp -> Prop,(∀ σ' H',N σ' H' -> ∃ m',m' < m /\ W (i + 1) m' σ' H') /\ ∀ x H',(ItP P w d o xs).yld i H x H' -> g x σ H' fun σ2 H2=>tb { D with nx:=N,ct:=N,bk:=D.nx } σ2 H2):=by
  refine ⟨fun i m σ H=>m = xs.length - i /\ i <= xs.length /\ Pv i σ H,⟨_,rfl,Nat.zero_le _,h0⟩,?_⟩
  rintro i m σ H ⟨rfl,hi,p⟩
  have q:=hl i σ H hi p
  by_cases hlt:i < xs.length
  · refine .inr ⟨⟨q,hlt⟩,Pv (i + 1),fun σ' H' p'=>⟨xs.length - (i + 1),by omega,rfl,hlt,p'⟩,?_⟩
    rintro x H' ⟨T,k,a,v,rfl,hT,rfl,y⟩
    exact hs i k a v σ H T y p hT
  · obtain rfl:i = xs.length:=by omega
    exact .inl ⟨⟨q,Nat.le_refl _⟩,hd σ H p⟩
theorem Vv {P:Program} {w:World} {d:Addr} {o:Obj} {xs:PEs} {n:Nat} {g:TG} {tf:TT} {te:TE} {σ0:St} {R:List V -> Hp -> Prop} {H:Hp} (Pv:Nat -> List V -> Hp -> Prop) (h0:Pv 0 [] H)
    (h1:∀ i zs H,Pv i zs H -> H d = some (dP P w d o xs))
    (hs:∀ i k a v zs H T,xs[i]? = some (k,a,v) -> Pv i zs H -> H T = none -> g (.ref T) σ0 (upd H T (.tup [.ref a,.ref v])) fun σ4 H4=>σ4.drop n = σ0.drop n /\ tf σ4 H4 fun b H5=>if b = true then te σ4 H5 fun v H6=>zs.length < sizeLine /\ Pv (i + 1) (zs ++ [v]) H6 else Pv (i + 1) zs H5)
    (hd:∀ zs H,Pv xs.length zs H -> zs.length <= sizeLine /\ R zs H) :
    ∃ W:Nat -> Nat -> List V -> Hp -> Prop,(∃ m,W 0 m [] H) /\ ∀ i m zs H2,W i m zs H2 ->
      ((ItP P w d o xs).stop i H2 /\ zs.length <= sizeLine /\ R zs H2) \/
      ((ItP P w d o xs).go i H2 /\ ∃ M:List V -> Hp -> Prop,(∀ zs H',M zs H' -> ∃ m',m' < m /\ W (i + 1) m' zs H') /\ ∀ x H3,(ItP P w d o xs).yld i H2 x H3 -> g x σ0 H3 fun σ4 H4=>σ4.drop n = σ0.drop n /\ tf σ4 H4 fun b H5=>
        if b = true then te σ4 H5 fun y H6=>zs.length < sizeLine /\ M (zs ++ [y]) H6 else M zs H5):=by
  refine ⟨fun i m zs H2=>m = xs.length - i /\ i <= xs.length /\ Pv i zs H2,⟨_,rfl,Nat.zero_le _,h0⟩,?_⟩
  rintro i m zs H2 ⟨rfl,hi,p⟩
  by_cases hlt:i < xs.length
  · refine .inr ⟨⟨h1 i zs H2 p,hlt⟩,Pv (i + 1),fun zs' H' p'=>⟨_,by omega,rfl,hlt,p'⟩,?_⟩
    rintro x H3 ⟨T,k,a,v,rfl,hT,rfl,y⟩
    exact hs i k a v zs H2 T y p hT
  · obtain rfl:i = xs.length:=by omega
    obtain ⟨z1,z2⟩:=hd zs H2 p
    exact .inl ⟨⟨h1 _ zs H2 p,Nat.le_refl _⟩,z1,z2⟩
end L2
namespace L2
open PySem PySem.Spec PyProof.Rows
abbrev Qt:=Addr -> V -> V -> Hp -> (Hp -> Prop) -> Prop
def VX (P:Program) (w:World) (K:PySem.W.Frag) (A:Around) (t:Qt):Prop:=∀ (X:Cx),X.prog = P -> X.w = w -> X.K = K -> ∀ (pins:List (Addr × Obj)) (s:Shared) (σ:St) (H:Hp) (D:Addr) (y v:V) (u r:Value) (Q:Hp -> Prop),Inv X pins σ H s -> RelV y u -> RelV v r -> t D y v H Q ->
  wpAny (model P w) A (dictSet D u r) (fun _ s'=>∃ H',Inv X pins σ H' s' /\ Q H') (fun _ _=>False) s
def VY (P:Program) (w:World) (mk:Addr -> HO):Prop:=∀ (H:Hp) (h:Heap),sysModules < h.objs.size -> ObjOk P w H (h.push { cls:=.type "dict",data:=.dict #[] }) h.objs.size (mk h.objs.size)
inductive Yk (D:Addr) (y v:V) (H:Hp) (Q:Hp -> Prop):Prop
  | mk (kvs:List (Key × V)) (k:Key) (_:H D = some (.dK kvs)) (_:y = kV k) (_:kvs.length < sizeLine) (_:Q (upd H D (.dK (qq kvs k v)))):Yk D y v H Q
theorem yF {P:Program} {w:World}:VY P w (fun _=>.dK []):=fun H h hb=>vX h hb
theorem yx {P:Program} {w:World} {K:PySem.W.Frag} {A:Around}:VX P w K A Yk:=by
  intro X hP hw hK pins s σ H D y v u r Q I ry rv h
  subst hP hw hK
  obtain ⟨kvs,k,e,rfl,hl,q⟩:=h
  obtain ⟨z,hd,vs,rel,dd⟩:=Q7 I.hok e
  have hl':(qq kvs k v).length <= sizeLine:=by have:=qh kvs k v;omega
  refine wpAny_dictSet_pairs (hsz:=by rw [<- rel.length];exact z) (jL ry) dd fun h' dd' hs=>⟨_,?_,q⟩
  have he:∃ q,h'.get? D = some q:=let ⟨q,_,_,hq,_⟩:=dd';⟨q,hq⟩
  exact jZ I (by rw [e];exact True.intro) hs he (yL hl' hd (rel.put k rv) dd')
inductive Yj (P:Program) (w:World) (K:PySem.W.Frag) (D:Addr) (y v:V) (H:Hp) (Q:Hp -> Prop):Prop
  | mk (b c:Addr) (o:Obj) (xs:PEs) (k:PKy) (_:y = .ref b) (_:v = .ref c) (_:H D = some (dP P w D o xs)) (_:ZO K H xs) (_:KyAt K H k b) (_:xs.length < sizeLine) (_:∀ o',Q (upd H D (dP P w D o' (stP xs k b c)))):Yj P w K D y v H Q
def VM:Obj:={ cls:=.type "dict",data:=.dict #[] }
theorem zad {P:Program} {w:World}:VY P w (fun a=>dP P w a VM []):=fun H h hb=>Qo h hb
theorem YO {P:Program} {w:World} {K:PySem.W.Frag} {A:Around} (hu:A.units + 1 < cLine):VX P w K A (Yj P w K):=by
  intro X hP hw hK pins s σ H D y v u r Q I ry rv h
  subst hP hw hK
  obtain ⟨b,c,o,xs,k,rfl,rfl,e,ks,kb,hl,q⟩:=h
  cases ry
  cases rv
  have hz:(jB xs).length <= sizeLine:=by unfold jB;rw [List.length_map];exact Nat.le_of_lt hl
  refine wpAny_dictSet_heap (hsz:=hz) (knd:=qr (zq X.prog X.w)) hu (Zz I kb) (Q6 I e ks) fun h' dd hs=>?_
  obtain ⟨o',I'⟩:=Qn (t':=_) I e hl dd hs
  exact ⟨_,I',q o'⟩
def tDC (mk:Addr -> HO) (t:Qt) (wi:TI) (n:Nat) (js:List Nat) (g:TG) (tf:TT) (tk tv:TE):TE:=fun σ H Q=>wi σ H fun J H1=>∀ D,H1 D = none ->
  ∃ W:Nat -> Nat -> Hp -> Prop,(∃ m,W 0 m (upd H1 D (mk D))) /\ ∀ i m H2,W i m H2 ->
    (J.stop i H2 /\ Q (.ref D) H2) \/
    (J.go i H2 /\ ∃ N:Hp -> Prop,(∀ H',N H' -> ∃ m',m' < m /\ W (i + 1) m' H') /\ ∀ x H3,J.yld i H2 x H3 -> g x (upS n js σ) H3 fun σ4 H4=>σ4.drop n = (upS n js σ).drop n /\ tf σ4 H4 fun b H5=>
      if b = true then tk σ4 H5 fun y H6=>tv σ4 H6 fun v H7=>t D y v H7 N else N H5)
section
variable {X:Cx} {kx vx tg iter:Expr} {ifs:List Expr} {scope:Scope} {pos:Pos} {wi:TI} {g:TG} {tf:TT} {tk tv:TE} {mk:Addr -> HO} {t:Qt}
theorem zbB {prog:Program} {w:World} {A:Around} {R:Result -> Shared -> Prop} {s:Shared} {it:Value} {D:Addr} {env:Env} (J:Nat -> Shared -> Prop)
    (turn:∀ n s,J n s -> wpAny (model prog w) A (pyNext it) (fun r s1=>match r with
      | none=>R (.ok .next) s1
      | some v=>wpAny (model prog w) A (letOwnedTupleGo tg it v) (fun _ s2=>wpAny (model prog w) A (assign tg env v) (fun _ s3=>
          wpAny (model prog w) A (qS ifs env) (fun ok s4=>
            if ok = true then wpAny (model prog w) A (eval kx env) (fun kv s5=>wpAny (model prog w) A (eval vx env) (fun vv s6=>
              wpAny (model prog w) A (dictSet D kv vv) (fun _ s7=>∃ m,m < n /\ J m s7) (fun _ _=>False) s6) (fun _ _=>False) s5) (fun _ _=>False) s4
            else ∃ m,m < n /\ J m s4) (fun _ _=>False) s3) (fun _ _=>False) s2) (fun _ _=>False) s1) (fun _ _=>False) s)
    (n:Nat) (h:J n s):codeAny (model prog w) A (.compLoop (.DictComp kx vx [⟨tg,iter,ifs,0⟩] scope pos) 0 it (.ref D) env) R s:=by
  have no:∀ {α:Type} {t:Sem α} {Q:α -> Shared -> Prop} {E:Value -> Shared -> Prop} {s:Shared},wpAny (model prog w) A t Q (fun _ _=>False) s -> wpAny (model prog w) A t Q E s:=fun x=>wpAny_mono x (fun _ _ q=>q) fun _ _ q=>q.elim
  refine codeAny_loop rfl J (fun k u hJ=>?_) n h
  refine wpAny_noted (?_:wpAny _ A (compTurn (.DictComp kx vx [⟨tg,iter,ifs,0⟩] scope pos) 0 it (.ref D) env) _ _ u)
  rw [compTurn_dict]
  refine wpAny_bind (wpAny_standAt (wpAny_bind (no (wpAny_mono (turn k u hJ) (fun r s1 h1=>?_) fun _ _ q=>q))))
  cases r with
  | none=>exact wpAny_pure h1
  | some v=>
    refine wpAny_bind (no (wpAny_mono h1 (fun _ s2 h2=>wpAny_bind (no (wpAny_mono h2 (fun _ s3 h3=>wpAny_bind (no (wpAny_mono h3 (fun ok s4 h4=>?_) fun _ _ q=>q))) fun _ _ q=>q))) fun _ _ q=>q))
    cases ok with
    | false=>exact wpAny_pure ⟨rfl,h4⟩
    | true=>
      have h4':wpAny (model prog w) A (eval kx env) (fun kv s5=>wpAny (model prog w) A (eval vx env) (fun vv s6=>wpAny (model prog w) A (dictSet D kv vv) (fun _ s7=>∃ m,m < k /\ J m s7) (fun _ _=>False) s6) (fun _ _=>False) s5) (fun _ _=>False) s4:=h4
      exact wpAny_bind (wpAny_bind (no (wpAny_mono h4' (fun kv s5 h5=>wpAny_bind (wpAny_holding (no (wpAny_mono h5 (fun vv s6 h6=>wpAny_bind (wpAny_standAt (wpAny_holding (no (wpAny_mono h6 (fun _ s7 h7=>wpAny_pure ⟨rfl,h7⟩) fun _ _ q=>q))))) fun _ _ q=>q)))) fun _ _ q=>q)))
end
end L2
namespace L2
open PySem PySem.Spec PyProof.Rows PySem.W
section
variable {X:Cx} {elt kx vx iter:Expr} {ifs:List Expr} {scope:Scope} {pos:Pos} {wi:TI} {tf:TT} {te tk tv:TE} {mk:Addr -> HO} {t:Qt} {x y z u:Str} {px py pz pu tp tp2 tp3:Pos} {kk kk2 kk3:Nat}
theorem X3 (fr:List Str) (js:List Nat) (hc:X.calm = true) (hk:scope.kind = .function) (hb:ja scope.names X.env.scope.names X.N [x,y,z,u] fr js = true) (hi:PI X (.Tuple [.Tuple [.Name x px,.Name y py] kk2 tp2,.Tuple [.Name z pz,.Name u pu] kk3 tp3] kk tp) iter wi)
    (hf:∀ C s H ex,PF (zk X ([x,y,z,u] ++ fr) scope C s H ex) ifs tf) (he:∀ C s H ex,PE (zk X ([x,y,z,u] ++ fr) scope C s H ex) elt te) (hs:∀ x,foldedSetIterable iter X.env x = pure x:=by intro _;rfl) :
    PE X (.ListComp elt [⟨.Tuple [.Tuple [.Name x px,.Name y py] kk2 tp2,.Tuple [.Name z pz,.Name u pu] kk3 tp3] kk tp,iter,ifs,0⟩] scope pos) (tLC wi 4 js (ZE X.K 2 (qW (ZE X.K 2 (qW (qx 0) (qW (qx 1) Qm))) (qW (ZE X.K 2 (qW (qx 2) (qW (qx 3) Qm))) Qm))) tf te):=by
  obtain ⟨h1,h2,h3⟩:=qo hb
  refine X4 [x,y,z,u] fr js hc hk h1 hi (fun C s H ex=>?_) hf he hs
  exact z9 (X:=zk X ([x,y,z,u] ++ fr) scope C s H ex) hc (zw (z9 hc (zw (qb (h2 x (by simp)) h3 rfl) (zw (qb (h2 y (by simp)) h3 rfl) zW))) (zw (z9 hc (zw (qb (h2 z (by simp)) h3 rfl) (zw (qb (h2 u (by simp)) h3 rfl) zW))) zW))
end
theorem vp {K:PySem.W.Frag} {a D:Addr} {xs:List V} {t:Qt} {g:TG} {tf:TT} {tk tv:TE} {σ0:St} {n:Nat} {R:Hp -> Prop} {H:Hp} (Pv:Nat -> Hp -> Prop) (h0:Pv 0 H) (h1:∀ i H,Pv i H -> SqL K H a xs)
    (hs:∀ i x H,xs[i]? = some x -> Pv i H -> g x σ0 H fun σ4 H4=>σ4.drop n = σ0.drop n /\ tf σ4 H4 fun b H5=>if b = true then tk σ4 H5 fun y H6=>tv σ4 H6 fun v H7=>t D y v H7 (Pv (i + 1)) else Pv (i + 1) H5) (hd:∀ H,Pv xs.length H -> R H) :
    ∃ W:Nat -> Nat -> Hp -> Prop,(∃ m,W 0 m H) /\ ∀ i m H2,W i m H2 ->
      ((Itl K a).stop i H2 /\ R H2) \/
      ((Itl K a).go i H2 /\ ∃ N:Hp -> Prop,(∀ H',N H' -> ∃ m',m' < m /\ W (i + 1) m' H') /\ ∀ x H3,(Itl K a).yld i H2 x H3 -> g x σ0 H3 fun σ4 H4=>σ4.drop n = σ0.drop n /\ tf σ4 H4 fun b H5=>
        if b = true then tk σ4 H5 fun y H6=>tv σ4 H6 fun v H7=>t D y v H7 N else N H5):=by
  refine ⟨fun i m H2=>m = xs.length - i /\ i <= xs.length /\ Pv i H2,⟨_,rfl,Nat.zero_le _,h0⟩,?_⟩
  rintro i m H2 ⟨rfl,hi,p⟩
  have q:=h1 i H2 p
  by_cases hlt:i < xs.length
  · refine .inr ⟨⟨xs,xs[i],q,by simp [hlt]⟩,Pv (i + 1),fun H' p'=>⟨_,by omega,rfl,hlt,p'⟩,fun x H3 y=>?_⟩
    obtain ⟨e,y⟩:=y
    subst e
    exact hs i x _ (y _ q) p
  · obtain rfl:i = xs.length:=by omega
    exact .inl ⟨⟨xs,q,Nat.le_refl _⟩,hd H2 p⟩
theorem VO {P:Program} {w:World} {d D:Addr} {o:Obj} {xs:PEs} {t:Qt} {g:TG} {tf:TT} {tk tv:TE} {σ0:St} {n:Nat} {R:Hp -> Prop} {H:Hp} (Pv:Nat -> Hp -> Prop) (h0:Pv 0 H) (h1:∀ i H,Pv i H -> H d = some (dP P w d o xs))
    (hs:∀ i k a v H T,xs[i]? = some (k,a,v) -> Pv i H -> H T = none -> g (.ref T) σ0 (upd H T (.tup [.ref a,.ref v])) fun σ4 H4=>σ4.drop n = σ0.drop n /\ tf σ4 H4 fun b H5=>if b = true then tk σ4 H5 fun y H6=>tv σ4 H6 fun v H7=>t D y v H7 (Pv (i + 1)) else Pv (i + 1) H5) (hd:∀ H,Pv xs.length H -> R H) :
    ∃ W:Nat -> Nat -> Hp -> Prop,(∃ m,W 0 m H) /\ ∀ i m H2,W i m H2 ->
      ((ItP P w d o xs).stop i H2 /\ R H2) \/
      ((ItP P w d o xs).go i H2 /\ ∃ N:Hp -> Prop,(∀ H',N H' -> ∃ m',m' < m /\ W (i + 1) m' H') /\ ∀ x H3,(ItP P w d o xs).yld i H2 x H3 -> g x σ0 H3 fun σ4 H4=>σ4.drop n = σ0.drop n /\ tf σ4 H4 fun b H5=>
        if b = true then tk σ4 H5 fun y H6=>tv σ4 H6 fun v H7=>t D y v H7 N else N H5):=by
  refine ⟨fun i m H2=>m = xs.length - i /\ i <= xs.length /\ Pv i H2,⟨_,rfl,Nat.zero_le _,h0⟩,?_⟩
  rintro i m H2 ⟨rfl,hi,p⟩
  by_cases hlt:i < xs.length
  · refine .inr ⟨⟨h1 i H2 p,hlt⟩,Pv (i + 1),fun H' p'=>⟨_,by omega,rfl,hlt,p'⟩,?_⟩
    rintro x H3 ⟨T,k,a,v,rfl,hT,rfl,y⟩
    exact hs i k a v H2 T y p hT
  · obtain rfl:i = xs.length:=by omega
    exact .inl ⟨⟨h1 _ H2 p,Nat.le_refl _⟩,hd H2 p⟩
def WkAt (K:PySem.W.Frag) (H:Hp) (a:Addr) (p:Int × List Int):Prop:=∃ U,SqT K H a [.int p.1,.ref U] /\ SqT K H U (p.2.map V.int)
def WkO (h:Heap) (a:Addr) (p:Int × List Int):Prop:=∃ o n t U,h.get? a = some o /\ o.cls = .type "tuple" /\ o.data = .seq #[.int p.1 t,.ref U] n /\ ∃ o' n' xs,h.get? U = some o' /\ o'.cls = .type "tuple" /\ o'.data = .seq xs n' /\ Vals (p.2.map V.int) xs.toList
theorem WkO.keep {h h':Heap} {a:Addr} {p:Int × List Int} (x:WkO h a p) (k:∀ b o,h.get? b = some o -> h'.get? b = some o):WkO h' a p:=
  let ⟨o,n,t,U,a1,a2,a3,o',n',xs,b1,b2,b3,b4⟩:=x;⟨o,n,t,U,k _ _ a1,a2,a3,o',n',xs,k _ _ b1,b2,b3,b4⟩
theorem Yz {X:Cx} {pins:List (Addr × Obj)} {σ:St} {H:Hp} {s:Shared} {a:Addr} {p:Int × List Int} (I:Inv X pins σ H s) (h:WkAt X.K H a p):WkO s.heap a p:=by
  obtain ⟨U,h0,h1⟩:=h
  obtain ⟨its,r,⟨o,e,t,n,d⟩,_⟩:=I.tuple h0
  obtain ⟨its',r',⟨o',e',t',n',d'⟩,_⟩:=I.tuple h1
  cases r with
  | @cons _ u _ _ r1 r=>
    cases r with
    | @cons _ u' _ _ r2 r=>
      cases r
      obtain ⟨tk,rfl⟩:=r1
      cases (show u' = Value.ref U from r2)
      exact ⟨o,n,tk,U,e,t,d,o',n',its'.toArray,e',t',d',by simpa using r'⟩
theorem W5 {prog:Program} {w:World} {A:Around} {s:Shared} {a b:Addr} {p q:Int × List Int} {Q:Value -> Shared -> Prop} {E:Value -> Shared -> Prop} (hu:A.in1.units < cLine) (x:WkO s.heap a p) (y:WkO s.heap b q) (h:Q (.bool (ltW p q)) s) :
    wpAny (model prog w) A (richCompare .Lt (.ref a) (.ref b)) Q E s:=by
  obtain ⟨oi,ni,ti,U,a1,a2,a3,oi',ni',xi,a4,a5,a6,a7⟩:=x
  obtain ⟨oj,nj,tj,U',b1,b2,b3,oj',nj',xj,b4,b5,b6,b7⟩:=y
  refine y8 (Nat.lt_of_succ_lt hu) a1 a2 a3 b1 b2 b3 ?_ h
  show wu prog w A.in1 s [.int p.1 ti,.ref U] [.int q.1 tj,.ref U'] (ltW p q)
  by_cases e1:p.1 = q.1
  · refine .eq (fun Q E q=>eq_int _ _ _ _ (by rw [decide_eq_true e1];exact q)) ?_
    have kU:IsTupleKey (zq prog w) s.heap (p.2.map Sum.inl) U:=⟨oi',xi,ni',a4,a5,a6,jg (by rw [List.map_map];exact a7)⟩
    have kU':IsTupleKey (zq prog w) s.heap (q.2.map Sum.inl) U':=⟨oj',xj,nj',b4,b5,b6,jg (by rw [List.map_map];exact b7)⟩
    have inj:∀ {x y:List Int},x.map (Sum.inl (β:=Str)) = y.map Sum.inl -> x = y:=fun {x y} z=>by
      have:=congrArg (List.map fun k:Int ⊕ Str=>k.elim id fun _=>0) z
      simpa [List.map_map,Function.comp_def] using this
    by_cases e2:p.2 = q.2
    · rw [show ltW p q = false by unfold ltW;rw [if_pos e1,if_pos e2]]
      exact .eq (fun Q E q=>wpAny_eqBool_tuple hu kU kU' (by rw [decide_eq_true (by rw [e2])];exact q)) .nil
    · rw [show ltW p q = ltN p.2 q.2 by unfold ltW;rw [if_pos e1,if_neg e2]]
      exact .ne (fun Q E q=>wpAny_eqBool_tuple hu kU kU' (by rw [decide_eq_false fun z=>e2 (inj z)];exact q)) fun Q E q=>y8 hu a4 a5 a6 b4 b5 b6 (Zw a7 b7) q
  · rw [show ltW p q = decide (p.1 < q.1) by unfold ltW;rw [if_neg e1]]
    exact .ne (fun Q E q=>eq_int _ _ _ _ (by rw [decide_eq_false e1];exact q)) fun Q E q=>QZ _ _ _ _ q
inductive xJ (K:PySem.W.Frag) (xs:List V) (H:Hp) (Q:VK):Prop
  | mk (a b:Addr) (p q:Int × List Int) (_:xs = [.ref a,.ref b]) (_:WkAt K H a p) (_:WkAt K H b q) (_:Q (.ref (if ltW q p = true then b else a)) H):xJ K xs H Q
theorem Qq {X:Cx} (hc:X.calm = true) (hu:X.A.units + 64 < cLine):CallR X (.builtin "min") (xJ X.K):=by
  intro pins s σ H xs us R I r h
  obtain ⟨a,b,p,q,rfl,wa,wb,hq⟩:=h
  obtain ⟨u,w',rfl,ra,rb⟩:=vy r
  cases (show u = _ from ra)
  cases (show w' = _ from rb)
  have oa:=Yz I wa
  have ob:=Yz I wb
  have nm:(toString "min" ++ toString ".loop" : String) = "min.loop" :=by decide
  refine call_function_tree F.kind_min F.plain_min F.entry_min (F.args_min2 _ _) ?_
  refine wpAny_bind (wpAny_of_eq (show Builtin.Builtins.bindParams "min" ["key", "default"] 0 ⟨[],[]⟩ = pure [none,none] from rfl) ?_)
  refine (?_:wpAny _ X.A.in1 (newTuple [.ref a,.ref b] >>= _) _ _ s)
  refine wpAny_bind (wpAny_newObj_type ?_)
  have hT:(s.heap.push { cls:=.type "tuple",data:=.seq #[.ref a,.ref b] }).IsTuple s.heap.objs.size #[.ref a,.ref b]:=⟨_,Heap.get?_push_size _ rfl,rfl,0,rfl⟩
  have z1:(s.heap.push { cls:=.type "tuple",data:=.seq #[.ref a,.ref b] }).objs.size = s.heap.objs.size + 1:=Heap.size_push ..
  have k0:∀ c o,s.heap.get? c = some o -> (s.heap.push { cls:=.type "tuple",data:=.seq #[.ref a,.ref b] }).get? c = some o:=fun c o e=>Heap.get?_push_of_some _ e
  refine wpAny_bind (wpAny_pyIter_tuple hT ?_)
  generalize s.heap.push { cls:=.type "tuple",data:=.seq #[.ref a,.ref b] } = h0 at hT z1 k0
  refine wpAny_bind (wpAny_newObj_type ?_)
  rw [nm]
  have it0:(h0.push { cls:=.type "tuple_iterator",data:=.fields #[.ref s.heap.objs.size,.int 0 0] }).IsTupleIter h0.objs.size s.heap.objs.size 0:=⟨_,Heap.get?_push_size _ rfl,rfl,rfl⟩
  have hT1:=hT.push { cls:=.type "tuple_iterator",data:=.fields #[.ref s.heap.objs.size,.int 0 0] }
  have z2:(h0.push { cls:=.type "tuple_iterator",data:=.fields #[.ref s.heap.objs.size,.int 0 0] }).objs.size = s.heap.objs.size + 2:=by rw [Heap.size_push,z1]
  have k1:∀ c o,s.heap.get? c = some o -> (h0.push { cls:=.type "tuple_iterator",data:=.fields #[.ref s.heap.objs.size,.int 0 0] }).get? c = some o:=fun c o e=>Heap.get?_push_of_some _ (k0 c o e)
  generalize h0.push { cls:=.type "tuple_iterator",data:=.fields #[.ref s.heap.objs.size,.int 0 0] } = h1 at it0 hT1 z2 k1
  have ne:h0.objs.size ≠ s.heap.objs.size:=by omega
  have W:=Walks.tuple (prog:=X.prog) (w:=X.w) (A:=X.A.in1) (I.ok.hd hc) h0.objs.size s.heap.objs.size (Nat.ne_of_lt (by rw [z1];exact Nat.lt_succ_self _)) #[.ref a,.ref b]
  have hSf:h1.objs.size ∉ [h0.objs.size,s.heap.objs.size]:=by
    intro z
    simp at z
    omega
  have hS:(h1.push { cls:=.type "list",data:=.seq ([]:List Value).toArray }).get? h1.objs.size = some (seqObj "list" #[] 0):=Heap.get?_push_size _ rfl
  refine wpAny_pure ⟨plainId_quiet F.plain_min_loop _,codeAny_builtin F.entry_min_loop ?_⟩
  rw [Around.under_plainId F.plain_min_loop _]
  refine (?_:wpAny _ _ (seqItems? (.ref h1.objs.size) >>= _) _ _ _)
  refine wpAny_bind (wpAny_seqItems hS rfl ?_)
  refine (?_:wpAny _ _ (tryCatch (pyNext (.ref h0.objs.size)) _ >>= _) _ _ _)
  refine wpAny_bind (wpAny_tryCatch (W.item 0 { s with heap:=h1.push { cls:=.type "list",data:=.seq ([]:List Value).toArray } } _ _ (by simp) ⟨it0.at fun o e=>Heap.get?_push_of_some _ e,hT1.push _⟩ fun v h' tk pv st' kk=>?_))
  have nw:h1.objs.size ∉ [h0.objs.size]:=fun z=>hSf (by simp at z;omega)
  have hS':=kk _ _ nw hS
  refine (?_:wpAny _ _ (updateSeq h1.objs.size (fun _=>#[v,v]) >>= _) _ _ _)
  refine wpAny_bind (wpAny_updateSeq hS' rfl ?_)
  rw [nm]
  have oth:∀ b o,b ≠ h1.objs.size -> h'.get? b = some o -> (h'.update h1.objs.size (Obj.mapSeq fun _=>#[v,v])).get? b = some o:=fun b o b2 e=>(Heap.get?_update_other _ _ (Ne.symm b2)).trans e
  have all:∀ b o,s.heap.get? b = some o -> b ≠ h0.objs.size /\ b ≠ h1.objs.size:=fun b o e=>⟨Nat.ne_of_lt (Nat.lt_of_lt_of_le (Heap.lt_size e) (by omega)),Nat.ne_of_lt (Nat.lt_of_lt_of_le (Heap.lt_size e) (by omega))⟩
  have j0:∀ b o,s.heap.get? b = some o -> (h'.update h1.objs.size (Obj.mapSeq fun _=>#[v,v])).get? b = some o:=fun b o e=>
    oth b o (all b o e).2 (kk b o (fun z=>(all b o e).1 (List.mem_singleton.mp z)) (Heap.get?_push_of_some _ (k1 b o e)))
  have hp:∀ (i:Nat) v,(#[Value.ref a,.ref b]:Array Value)[i]? = some v -> ∃ c,v = .ref c /\ WkO s.heap c (if i = 0 then p else q):=fun i v e=>by
    match i,e with
    | 0,e=>cases e;exact ⟨a,rfl,oa⟩
    | 1,e=>cases e;exact ⟨b,rfl,ob⟩
    | n + 2,e=>simp at e
  refine wpAny_pure ⟨plainId_quiet F.plain_min_loop _,w8 (S:=h1.objs.size) W (fun i j=>ltW (if i = 0 then p else q) (if j = 0 then p else q)) (fun h=>∀ b o,s.heap.get? b = some o -> h.get? b = some o) (fun h h2 x y c o e=>y c o (fun z=>(all c o e).1 (List.mem_singleton.mp z)) (all c o e).2 (x c o e)) ?_ hSf 1 0 _ v _ rfl (W.frame _ _ _ st' fun b bf o e=>oth b o (fun z=>hSf (by rw [<- z];exact bf)) e) j0 pv (Heap.get?_update_self _ hS' rfl) fun v' h2 tk2 p2 k2=>?_⟩
  · intro i j vi vj s2 Q2 E2 jj hi hj hq2
    obtain ⟨c,rfl,wc⟩:=hp i vi hi
    obtain ⟨d,rfl,wd⟩:=hp j vj hj
    exact W5 (show X.A.in1.in1.units < cLine from Nat.lt_of_le_of_lt (Nat.add_le_add_left (by decide:2 <= 64) _) hu) (wc.keep jj) (wd.keep jj) hq2
  · have e2:v' = .ref (if ltW q p = true then b else a):=by
      have p3:(#[Value.ref a,.ref b]:Array Value)[argBest (fun i j=>ltW (if i = 0 then p else q) (if j = 0 then p else q)) 1]? = some v':=p2
      cases hb:ltW q p with
      | true=>
        rw [show argBest (fun i j=>ltW (if i = 0 then p else q) (if j = 0 then p else q)) 1 = 1 by simp [argBest,hb]] at p3
        cases p3;rfl
      | false=>
        rw [show argBest (fun i j=>ltW (if i = 0 then p else q) (if j = 0 then p else q)) 1 = 0 by simp [argBest,hb]] at p3
        cases p3;rfl
    refine ⟨_,H,I.kept (h':=h2) (t':=tk2) (fun b o e=>k2 b o (fun z=>(all b o e).1 (List.mem_singleton.mp z)) (all b o e).2 (j0 b o e)),?_,hq⟩
    rw [e2];exact rfl
end L2
namespace L2
open PySem PySem.Spec PyProof.Rows
section
variable {X:Cx} {kx vx tg iter:Expr} {ifs:List Expr} {scope:Scope} {pos:Pos} {wi:TI} {g:TG} {tf:TT} {tk tv:TE} {mk:Addr -> HO} {t:Qt}
theorem Yo {y:Str} {py spos:Pos} {g2:TG} (own fr:List Str) (js:List Nat) (hn:VY X.prog X.w mk) (hp:VX X.prog X.w X.K X.A t) (hc:X.calm = true) (hk:scope.kind = .function) (hb:xF scope.names X.env.scope.names X.N fr js = true) (hi:PI X tg iter wi)
    (hg:∀ C s H ex,PG (zk X (own ++ fr) scope C s H ex) tg g) (hf:∀ C s H ex,PF (zk X (own ++ fr) scope C s H ex) ifs tf) (hkx:∀ C s H ex,PE (zk X (own ++ fr) scope C s H ex) kx tk) (hvx:∀ C s H ex,PE (zk X (own ++ fr) scope C s H ex) vx tv)
    (hg2:PG X (.Name y py) g2) (hsw:swapsWith (.DictComp kx vx [⟨tg,iter,ifs,0⟩] scope pos) (some (.Name y py)) spos.line X.env = pure true:=by rfl)
    (hs:∀ x,foldedSetIterable iter X.env x = pure x:=by intro _;rfl):PS X (.Assign [.Name y py] (.DictComp kx vx [⟨tg,iter,ifs,0⟩] scope pos) spos) (ZV (tDC mk t wi own.length js g tf tk tv) g2):=by
  intro pins s σ H Dn I h
  have B:=jP hb
  have hasF:∀ y ∈ scope.names,y.2 = NameKind.free -> ∃ c,X.env.cells.lookup y.1 = some c:=fun y hy e=>I.ok.has y.1 (B.free y hy e)
  rw [exec_Assign_Name_used _ _ _ _ hsw]
  refine wpAny_bind (wpAny_standAt (wpAny_bind ?_))
  refine (?_:wpAny _ X.A (do let _ <- comprehension (.DictComp kx vx [⟨tg,iter,ifs,0⟩] scope pos) scope X.env _ newDict false (eval iter X.env) (some (assign (.Name y py) X.env))) _ _ s)
  refine wpAny_bind (wpAny_mono (wpAny_comprehension_free (use:=some (assign (.Name y py) X.env)) (Q:=fun _ s'=>∃ σ' H',Inv X pins σ' H' s' /\ Dn.nx σ' H') rfl hs (xC hasF) hk (fun y hy e=>B.loc y hy e) (thn (hi pins s σ H _ I h) fun v s1 h1=>thn h1 fun itv s2 h2=>?_)) (fun _ s' hq=>wpAny_pure (wpAny_pure hq)) fun _ _ e=>e)
  obtain ⟨it,fp,tn,J,H2,e,I2,T,st2,f2,hD⟩:=h2
  subst e
  have fl:∀ b ∈ fp,b < s2.heap.objs.size:=fun b hb=>let ⟨o,e,_⟩:=T.obj _ _ st2 b hb;Heap.lt_size e
  refine wpAny_newObj_type (wpAny_newFunctionEnv B.cell (by intro y hy;simp at hy) (fun h1 hns hsb=>?_) hk)
  dsimp only at hns hsb ⊢
  have hn0:=I2.hok.fresh (Nat.le_refl s2.heap.objs.size)
  obtain ⟨W,⟨m0,w0⟩,turn⟩:=hD _ hn0
  have I3:=I2.laid (a:=s2.heap.objs.size) (o:=mk s2.heap.objs.size) (h':=s2.heap.push { cls:=.type "dict",data:=.dict #[] }) (t':=s2.toks) (fun _ _ q=>Heap.get?_push_of_some _ q) (Nat.le_refl _) (hn _ s2.heap I2.big)
  generalize e3:s2.heap.push { cls:=.type "dict",dict:=none,data:=.dict #[] } = h3 at hns hsb I3 ⊢
  have k3:∀ b o,s2.heap.get? b = some o -> h3.get? b = some o:=fun b o e=>by rw [<- e3];exact Heap.get?_push_of_some _ e
  have k4:∀ b o,h3.get? b = some o -> h1.get? b = some o:=fun b o e=>hsb.extBut b o (Nat.ne_of_lt (Heap.lt_size e)) (Heap.get?_push_of_some _ e)
  have hz:h3.objs.size = s2.heap.objs.size + 1:=by rw [<- e3,Heap.size_push]
  generalize eD:s2.heap.objs.size = D at *
  have fD:∀ b ∈ fp,b ≠ D:=fun b hb=>Nat.ne_of_lt (fl b hb)
  have f3:∀ b ∈ fp,qu X pins (upd H2 D (mk D)) b:=fun b hb=>by
    obtain ⟨a1,a2⟩:=f2 b hb
    exact ⟨by rw [zi (fD b hb)];exact a1,a2⟩
  have I4:Inv (zk X (own ++ fr) scope h3.objs.size { s2 with heap:=h3,toks:=s2.toks } (upd H2 D (mk D)) fp) [] (upS own.length js σ) (upd H2 D (mk D)) { s2 with heap:=h1,toks:=s2.toks + ([]:List (Str × Value)).length }:=
    wj own fr js I3 B hk f3 (fun b hb=>by show b < h3.objs.size;rw [hz];exact Nat.lt_succ_of_lt (fl b hb)) rfl hns k4
  have fpC:=(I3.fpOk (b:=h3.objs.size) (Nat.le_refl _) (I3.hok.fresh (Nat.le_refl _))).2
  generalize eC:h3.objs.size = C at *
  have hx2:∀ b ∈ fp,∀ x c,(zL X.env.cells scope.names []).lookup x = some c -> c ≠ b:=fun b hb x c e=>(f2 b hb).2.2.2.2.1 x c (zA e hasF)
  have nfs:∀ b ∈ fp,b ∉ frs X.stack:=I4.ok.exfs
  generalize eY:zk X (own ++ fr) scope C { s2 with heap:=h3,toks:=s2.toks } (upd H2 D (mk D)) fp = Y at I4
  have fpB:∀ {H':Hp},(∀ b ∈ fp,H' b = none) -> ∀ b ∈ fp,qu Y [] H' b:=fun {H'} hn b hb=>by
    subst eY
    exact ⟨hn b hb,(I4.ok.exf b hb).1,nfs b hb,.inl hb,fun x c e=>hx2 b hb x c e,fun p h=>absurd h (by simp)⟩
  have loop:∀ s4:Shared,s4 = { s2 with heap:=h1,toks:=s2.toks + ([]:List (Str × Value)).length } ->
      codeAny (model X.prog X.w) X.A (.compLoop (.DictComp kx vx [⟨tg,iter,ifs,0⟩] scope pos) 0 (.ref it) (.ref D) (compEnvC scope (zL X.env.cells scope.names []) C X.env))
        (compPost (model X.prog X.w) X.A X.xe (some (assign (.Name y py) X.env)) (fun _ s'=>∃ σ' H',Inv X pins σ' H' s' /\ Dn.nx σ' H') (.ref D) C) s4:=by
    intro s4 e4
    refine zbB (fun n s'=>∃ i H',Inv Y [] (upS own.length js σ) H' s' /\ tn i s'.heap /\ (∀ b ∈ fp,H' b = none) /\ W i n H') ?_ m0 ?_
    · rintro n s5 ⟨i,H5,I5,st5,fr5,w5⟩
      rcases turn i n H5 w5 with ⟨stop,q⟩ | ⟨go,N,hN,step⟩
      · subst eY
        refine thn (T.done (zk X (own ++ fr) scope C { s2 with heap:=h3,toks:=s2.toks } (upd H2 D (mk D)) fp) rfl rfl rfl hc i _ s5 _ H5 _ I5 (fpB fr5) st5 stop) fun r s6 ⟨hr,I6⟩=>?_
        subst hr
        obtain ⟨m6,hn6,_⟩:=I6.loc
        have k7:∀ b o,b ≠ C -> s6.heap.get? b = some o -> s6.heap.get? b = some o:=fun b o _ e=>e
        have J0:Inv X pins σ H5 s6:=I3.call' (s':=s6) (ch:=fp) I6.os (vB I6.base (Nat.le_of_eq eC) k7) (xA I6.hok I6.free k7) I6.bare fun b hb=>by
          obtain ⟨_,g1,_,g3,g4,g5⟩:=f3 b hb
          exact ⟨g3,g1,g4,g5⟩
        obtain ⟨oC,eoC,dC⟩:∃ o,s6.heap.get? C = some o /\ ∀ v,o.data ≠ .cell v:=by
          obtain ⟨o,es,ep,ho,hd,_⟩:=hn6
          exact ⟨o,ho,fun v z=>by rw [hd] at z;cases z⟩
        have J1:=J0.pinned (fp:=[C]) (fun b hb=>by rw [List.mem_singleton.mp hb];exact ⟨I6.free,fpC⟩) (fun b hb=>by rw [List.mem_singleton.mp hb];exact ⟨oC,eoC,dC⟩)
        have mC:(C,oC) ∈ pins ++ zp [C] s6.heap:=List.mem_append_right _ (zD (List.mem_singleton.mpr rfl) eoC)
        refine thn (hg2 _ s6 σ _ (.ref D) (.ref D) _ J1 rfl q) fun _ s8 ⟨σ8,H8,I8,q8⟩=>?_
        obtain ⟨e8,n8,_⟩:=I8.pin (C,oC) (List.mem_append_right _ mC)
        refine ⟨m6,?_,fun h9 hs9=>⟨σ8,H8,?_,q8⟩⟩
        · obtain ⟨o,es,ep,ho,r⟩:=hn6
          have ho':s6.heap.get? C = some o:=ho
          rw [eoC] at ho';cases ho'
          exact ⟨oC,es,ep,e8,r⟩
        · obtain ⟨g1,_,g3,g4,g5⟩:=fpC
          exact (I8.unpinned).turned (t':=s8.toks) (it:=C) (fun b o hb e=>hs9.extBut b o hb e) n8 g1 g3 g4 g5
      · have e1:Y.prog = X.prog:=by rw [<- eY]
        have e2:Y.w = X.w:=by rw [<- eY]
        have e5:Y.K = X.K:=by rw [<- eY]
        subst eY
        refine thn (T.item (zk X (own ++ fr) scope C { s2 with heap:=h3,toks:=s2.toks } (upd H2 D (mk D)) fp) rfl rfl rfl hc i _ s5 _ H5 _ I5 (fpB fr5) st5 go) fun r s6 ⟨u,hr,h6⟩=>?_
        subst hr
        refine thn h6 fun _ s7 ⟨x,H7,I7,r7,y7,st7,fr7⟩=>?_
        have I7':=I7.pinned (fpB fr7) (T.obj _ _ st7)
        refine thn (hg _ _ _ _ _ s7 _ H7 x u _ I7' r7 (step x H7 y7)) fun _ s8 ⟨σ8,H8,I8,hd8,q8⟩=>?_
        refine thn (hf _ _ _ _ _ s8 σ8 H8 _ I8 q8) fun ok s9 ⟨H9,I9,q9⟩=>?_
        have mF:∀ b ∈ fp,∀ o,s7.heap.get? b = some o -> (b,o) ∈ [] ++ zp fp s7.heap:=fun b hb o e=>List.mem_append_right _ (zD hb e)
        have fin:∀ {H':Hp} {s':Shared},Inv (zk X (own ++ fr) scope C { s2 with heap:=h3,toks:=s2.toks } (upd H2 D (mk D)) fp) ([] ++ zp fp s7.heap) σ8 H' s' -> N H' ->
            ∃ m,m < n /\ ∃ i H',Inv (zk X (own ++ fr) scope C { s2 with heap:=h3,toks:=s2.toks } (upd H2 D (mk D)) fp) [] (upS own.length js σ) H' s' /\ tn i s'.heap /\ (∀ b ∈ fp,H' b = none) /\ W i m H':=fun {H' s'} J hN'=>by
          obtain ⟨m',hm,w'⟩:=hN _ hN'
          refine ⟨m',hm,i + 1,H',?_,T.keep _ _ _ st7 fun b hb o e=>(J.pin (b,o) (List.mem_append_right _ (mF b hb o e))).1,fun b hb=>?_,w'⟩
          · refine (J.pins_of (pins':=[]) fun p hp=>absurd hp (by simp)).weak (I5.len.trans J.len.symm) fun k v e=>?_
            obtain ⟨hn,e1,_⟩:=qG e
            rw [<- hd8,List.getElem?_drop] at e1
            rw [<- e1]
            congr 1
            omega
          · obtain ⟨o,e,_⟩:=T.obj _ _ st7 b hb
            exact (J.pin (b,o) (List.mem_append_right _ (mF b hb o e))).2.1
        cases ok with
        | false=>exact fin I9 (by simpa using q9)
        | true=>
          have q9':tk σ8 H9 fun y H6=>tv σ8 H6 fun v H7=>t D y v H7 N:=by simpa using q9
          refine thn (hkx _ _ _ _ _ s9 σ8 H9 _ I9 q9') fun kv s10 ⟨y,H10,I10,r10,q10⟩=>?_
          refine thn (hvx _ _ _ _ _ s10 σ8 H10 _ I10 q10) fun vv s11 ⟨v,H11,I11,r11,q11⟩=>?_
          exact thn (hp _ e1 e2 e5 _ s11 σ8 H11 D y v kv vv N I11 r10 r11 q11) fun _ s12 ⟨H12,I12,w12⟩=>fin I12 w12
    · subst e4
      exact ⟨0,_,I4,T.keep _ _ _ st2 fun b hb o e=>k4 b o (k3 b o e),fun b hb=>(f3 b hb).1,w0⟩
  exact codeAny_compStart_dict (loop _ rfl) (T.self X.A 0 _ _ _ (T.keep _ _ _ st2 fun b hb o e=>k4 b o (k3 b o e)) (loop _ rfl))
theorem yz {x y:Str} {px py spos:Pos} {g2:TG} (fr:List Str) (js:List Nat) (hn:VY X.prog X.w mk) (hp:VX X.prog X.w X.K X.A t) (hc:X.calm = true) (hk:scope.kind = .function) (hb:ja scope.names X.env.scope.names X.N [x] fr js = true) (hi:PI X (.Name x px) iter wi)
    (hf:∀ C s H ex,PF (zk X ([x] ++ fr) scope C s H ex) ifs tf) (hkx:∀ C s H ex,PE (zk X ([x] ++ fr) scope C s H ex) kx tk) (hvx:∀ C s H ex,PE (zk X ([x] ++ fr) scope C s H ex) vx tv)
    (hg2:PG X (.Name y py) g2) (hsw:swapsWith (.DictComp kx vx [⟨.Name x px,iter,ifs,0⟩] scope pos) (some (.Name y py)) spos.line X.env = pure true:=by rfl)
    (hs:∀ x,foldedSetIterable iter X.env x = pure x:=by intro _;rfl):PS X (.Assign [.Name y py] (.DictComp kx vx [⟨.Name x px,iter,ifs,0⟩] scope pos) spos) (ZV (tDC mk t wi 1 js (qx 0) tf tk tv) g2):=by
  obtain ⟨h1,h2,h3⟩:=qo hb
  exact Yo [x] fr js hn hp hc hk h1 hi (fun C s H ex=>qb (h2 x (by simp)) h3 rfl) hf hkx hvx hg2 hsw hs
theorem XX {x y z u:Str} {px py pz pu tp tp2 spos:Pos} {kk kk2:Nat} {g2:TG} (fr:List Str) (js:List Nat) (hn:VY X.prog X.w mk) (hp:VX X.prog X.w X.K X.A t) (hc:X.calm = true) (hk:scope.kind = .function) (hb:ja scope.names X.env.scope.names X.N [x,y,z] fr js = true) (hi:PI X (.Tuple [.Tuple [.Name x px,.Name y py] kk2 tp2,.Name z pz] kk tp) iter wi)
    (hf:∀ C s H ex,PF (zk X ([x,y,z] ++ fr) scope C s H ex) ifs tf) (hkx:∀ C s H ex,PE (zk X ([x,y,z] ++ fr) scope C s H ex) kx tk) (hvx:∀ C s H ex,PE (zk X ([x,y,z] ++ fr) scope C s H ex) vx tv)
    (hg2:PG X (.Name u pu) g2) (hsw:swapsWith (.DictComp kx vx [⟨.Tuple [.Tuple [.Name x px,.Name y py] kk2 tp2,.Name z pz] kk tp,iter,ifs,0⟩] scope pos) (some (.Name u pu)) spos.line X.env = pure true:=by rfl)
    (hs:∀ x,foldedSetIterable iter X.env x = pure x:=by intro _;rfl):PS X (.Assign [.Name u pu] (.DictComp kx vx [⟨.Tuple [.Tuple [.Name x px,.Name y py] kk2 tp2,.Name z pz] kk tp,iter,ifs,0⟩] scope pos) spos) (ZV (tDC mk t wi 3 js (ZE X.K 2 (qW (ZE X.K 2 (qW (qx 0) (qW (qx 1) Qm))) (qW (qx 2) Qm))) tf tk tv) g2):=by
  obtain ⟨h1,h2,h3⟩:=qo hb
  refine Yo [x,y,z] fr js hn hp hc hk h1 hi (fun C s H ex=>?_) hf hkx hvx hg2 hsw hs
  exact z9 (X:=zk X ([x,y,z] ++ fr) scope C s H ex) hc (zw (z9 hc (zw (qb (h2 x (by simp)) h3 rfl) (zw (qb (h2 y (by simp)) h3 rfl) zW))) (zw (qb (h2 z (by simp)) h3 rfl) zW))
end
end L2
namespace L2
open PySem PySem.Spec PyProof.Rows PySem.W
def WkS (K:PySem.W.Frag) (H:Hp) (zs:List V) (ps:List (Int × List Int)):Prop:=zs.length = ps.length /\ ∀ (j:Nat) q,ps[j]? = some q -> ∃ T,zs[j]? = some (.ref T) /\ WkAt K H T q
theorem WkS.nil {K:PySem.W.Frag} {H:Hp}:WkS K H [] []:=⟨rfl,fun j q e=>by simp at e⟩
theorem WkS.snoc {K:PySem.W.Frag} {H:Hp} {zs:List V} {ps:List (Int × List Int)} {q:Int × List Int} {T:Addr} (h:WkS K H zs ps) (e:WkAt K H T q):WkS K H (zs ++ [.ref T]) (ps ++ [q]):=by
  refine ⟨by rw [List.length_append,List.length_append,h.1];rfl,fun j r hr=>?_⟩
  by_cases hj:j < ps.length
  · rw [List.getElem?_append_left hj] at hr
    obtain ⟨T',e1,e2⟩:=h.2 j r hr
    exact ⟨T',by rw [List.getElem?_append_left (by rw [h.1];exact hj)];exact e1,e2⟩
  · have hl:=(List.getElem?_eq_some_iff.mp hr).1
    rw [List.length_append] at hl
    have ej:j = ps.length:=by simp at hl;omega
    subst ej
    rw [List.getElem?_append_right (Nat.le_refl _),Nat.sub_self] at hr
    cases (show some q = some r from hr)
    exact ⟨T,by rw [<- h.1,List.getElem?_append_right (Nat.le_refl _),Nat.sub_self];rfl,e⟩
inductive xI (K:PySem.W.Frag) (xs:List V) (H:Hp) (Q:VK):Prop
  | mk (p:Addr) (zs:List V) (ps:List (Int × List Int)) (_:xs = [.ref p]) (_:SqL K H p zs) (_:WkS K H zs ps) (_:ps ≠ []) (_:∀ v,zs[wC ps]? = some v -> Q v H):xI K xs H Q
theorem Qp {X:Cx} (hc:X.calm = true) (hu:X.A.units + 64 < cLine):CallR X (.builtin "min") (xI X.K):=by
  intro pins s σ H xs us Q I r h
  obtain ⟨p,zs,ps,rfl,hq,wk,hne,q⟩:=h
  obtain ⟨u,rfl,ru⟩:=jb r
  cases (show u = _ from ru)
  obtain ⟨its,rv,pl,hz⟩:=I.list hq
  have hl:=pl.isList
  have len:=rv.length
  have wl:=wk.1
  have h0:0 < ps.length:=List.length_pos_iff.mpr hne
  have hplt:p < s.heap.objs.size:=let ⟨_,e,_⟩:=hl;Heap.lt_size e
  have nm:(toString "min" ++ toString ".loop" : String) = "min.loop" :=by decide
  have hu':X.A.in1.in1.units < cLine:=Nat.lt_of_le_of_lt (Nat.add_le_add_left (by decide:2 <= 64) _) hu
  have hu2:X.A.in1.units < cLine:=Nat.lt_of_le_of_lt (Nat.add_le_add_left (by decide:1 <= 64) _) hu
  have tup:∀ (j:Nat) v,its[j]? = some v -> ∃ T q,v = Value.ref T /\ ps[j]? = some q /\ WkO s.heap T q:=fun j v hj=>by
    have hjl:=(List.getElem?_eq_some_iff.mp hj).1
    have ek:ps[j]? = some (ps[j]'(by omega)):=List.getElem?_eq_getElem _
    generalize ps[j]'(by omega) = k at ek
    obtain ⟨T,e1,e2⟩:=wk.2 j k ek
    obtain ⟨v',e4,e5⟩:=rv.get e1
    rw [hj] at e4
    cases e4
    cases (show v = Value.ref T from e5)
    exact ⟨T,k,rfl,ek,Yz I e2⟩
  refine call_function_tree F.kind_min F.plain_min F.entry_min (F.args_min1 _) ?_
  show wpAny _ X.A.in1 (Builtin.Builtins.bindParams "min" ["key", "default"] 0 ⟨[],[]⟩ >>= _) _ _ s
  refine wpAny_bind (wpAny_of_eq (show Builtin.Builtins.bindParams "min" ["key", "default"] 0 ⟨[],[]⟩ = pure [none,none] from rfl) (wpAny_bind (wpAny_pure (wpAny_bind (wpAny_pyIter_list hl ?_)))))
  refine wpAny_bind (wpAny_newObj_type ?_)
  rw [nm]
  have hI:s.heap.objs.size < (s.heap.push { cls:=.type "list_iterator",data:=.fields #[.ref p,.int 0 0] }).objs.size:=by rw [Heap.size_push];exact Nat.lt_succ_self _
  have it0:(s.heap.push { cls:=.type "list_iterator",data:=.fields #[.ref p,.int 0 0] }).IsListIter s.heap.objs.size p 0:=⟨_,Heap.get?_push_size _ rfl,rfl,rfl⟩
  have hl1:(s.heap.push { cls:=.type "list_iterator",data:=.fields #[.ref p,.int 0 0] }).IsList p its.toArray:=hl.push _
  have k1:∀ b o,s.heap.get? b = some o -> (s.heap.push { cls:=.type "list_iterator",data:=.fields #[.ref p,.int 0 0] }).get? b = some o:=fun b o e=>Heap.get?_push_of_some _ e
  generalize s.heap.push { cls:=.type "list_iterator",data:=.fields #[.ref p,.int 0 0] } = h1 at hI it0 hl1 k1
  have W:=Walks.list (prog:=X.prog) (w:=X.w) (A:=X.A.in1.in1) (I.ok.hd hc) s.heap.objs.size p (Nat.ne_of_lt hplt) its.toArray
  have W':=Walks.list (prog:=X.prog) (w:=X.w) (A:=X.A.in1) (I.ok.hd hc) s.heap.objs.size p (Nat.ne_of_lt hplt) its.toArray
  have hSf:h1.objs.size ∉ [s.heap.objs.size,p]:=by
    intro z
    rcases List.mem_cons.mp z with z | z
    · omega
    · exact Nat.lt_irrefl _ (Nat.lt_trans hplt (List.mem_singleton.mp z ▸ hI))
  have hS:(h1.push { cls:=.type "list",data:=.seq ([]:List Value).toArray }).get? h1.objs.size = some (seqObj "list" #[] 0):=Heap.get?_push_size _ rfl
  refine wpAny_pure ⟨plainId_quiet F.plain_min_loop _,codeAny_builtin F.entry_min_loop ?_⟩
  rw [Around.under_plainId F.plain_min_loop _]
  show wpAny _ _ (seqItems? (.ref h1.objs.size) >>= _) _ _ _
  refine wpAny_bind (wpAny_seqItems hS rfl ?_)
  show wpAny _ _ (tryCatch (pyNext (.ref s.heap.objs.size)) _ >>= _) _ _ _
  refine wpAny_bind (wpAny_tryCatch (W'.item 0 { s with heap:=h1.push { cls:=.type "list",data:=.seq ([]:List Value).toArray } } _ _ (by rw [List.size_toArray];omega) ⟨it0.at fun o e=>Heap.get?_push_of_some _ e,hl1.push _⟩ fun v h' tk pv st' kk=>?_))
  have nw:h1.objs.size ∉ [s.heap.objs.size]:=fun z=>hSf (by simp at z;omega)
  have hS':=kk _ _ nw hS
  show wpAny _ _ (updateSeq h1.objs.size (fun _=>#[v,v]) >>= _) _ _ _
  refine wpAny_bind (wpAny_updateSeq hS' rfl ?_)
  rw [nm]
  have oth:∀ b o,b ≠ h1.objs.size -> h'.get? b = some o -> (h'.update h1.objs.size (Obj.mapSeq fun _=>#[v,v])).get? b = some o:=fun b o b2 e=>(Heap.get?_update_other _ _ (Ne.symm b2)).trans e
  have all:∀ b o,s.heap.get? b = some o -> b ≠ s.heap.objs.size /\ b ≠ h1.objs.size:=fun b o e=>⟨Nat.ne_of_lt (Heap.lt_size e),Nat.ne_of_lt (Nat.lt_trans (Heap.lt_size e) hI)⟩
  have j0:∀ b o,s.heap.get? b = some o -> (h'.update h1.objs.size (Obj.mapSeq fun _=>#[v,v])).get? b = some o:=fun b o e=>
    oth b o (all b o e).2 (kk b o (fun z=>(all b o e).1 (List.mem_singleton.mp z)) (Heap.get?_push_of_some _ (k1 b o e)))
  refine wpAny_pure ⟨plainId_quiet F.plain_min_loop _,w8 (S:=h1.objs.size) W' (fun i j=>ltW (ps.getD i (0,[])) (ps.getD j (0,[]))) (fun h=>∀ b o,s.heap.get? b = some o -> h.get? b = some o) (fun h h2 a b c o e=>b c o (fun z=>(all c o e).1 (List.mem_singleton.mp z)) (all c o e).2 (a c o e)) ?_ hSf (its.length - 1) 0 _ v _ (by rw [List.size_toArray];omega) (W'.frame _ _ _ st' fun b bf o e=>oth b o (fun z=>hSf (by rw [<- z];exact bf)) e) j0 pv (Heap.get?_update_self _ hS' rfl) fun v' h2 tk2 p2 k2=>?_⟩
  · intro i j vi vj s2 Q2 E2 jj hi hj hq2
    have ei:its[i]? = some vi:=by simpa using hi
    have ej:its[j]? = some vj:=by simpa using hj
    obtain ⟨T,qi,rfl,fi,oi⟩:=tup i vi ei
    obtain ⟨T',qj,rfl,fj,oj⟩:=tup j vj ej
    rw [List.getD_eq_getElem?_getD,fi,List.getD_eq_getElem?_getD,fj] at hq2
    exact W5 hu' (oi.keep jj) (oj.keep jj) hq2
  · rw [List.size_toArray] at p2
    have e2:its[wC ps]? = some v':=by
      have:its.length = ps.length:=by omega
      unfold wC
      rw [<- this]
      simpa using p2
    have hm:=QY hne
    have e3:zs[wC ps]? = some (zs[wC ps]'(by omega)):=List.getElem?_eq_getElem _
    obtain ⟨v2,e4,e5⟩:=rv.get e3
    rw [e2] at e4
    cases e4
    refine ⟨_,H,I.kept (h':=h2) (t':=tk2) (fun b o e=>k2 b o (fun z=>(all b o e).1 (List.mem_singleton.mp z)) (all b o e).2 (j0 b o e)),e5,q _ e3⟩
end L2
namespace L2
open PySem PySem.Spec PyProof.Rows
def zu (i:Nat):Stmt:=PySem.Challenge.pw_pickboard_k18_parts_alone.main.body.getD i (.Pass ⟨0,0,0,0⟩)
structure Blt (mg:Str -> Option Value):Prop where
  abs:mg "abs" = none
  all:mg "all" = none
  any:mg "any" = none
  bool:mg "bool" = none
  dict:mg "dict" = none
  divmod:mg "divmod" = none
  enumerate:mg "enumerate" = none
  int:mg "int" = none
  isinstance:mg "isinstance" = none
  len:mg "len" = none
  list:mg "list" = none
  max:mg "max" = none
  min:mg "min" = none
  range:mg "range" = none
  repr:mg "repr" = none
  sorted:mg "sorted" = none
  str:mg "str" = none
  sum:mg "sum" = none
  tuple:mg "tuple" = none
  zip:mg "zip" = none
theorem jk:bootBuiltins "abs" = some (.builtin "abs"):=by decide +kernel
theorem wf:bootBuiltins "max" = some (.builtin "max"):=by decide +kernel
theorem we:bootBuiltins "min" = some (.builtin "min"):=by decide +kernel
theorem ZK:bootBuiltins "divmod" = some (.builtin "divmod"):=by decide +kernel
theorem wg:bootBuiltins "int" = some (.type "int"):=by decide +kernel
theorem qO:bootBuiltins "list" = some (.type "list"):=by decide +kernel
theorem zY:bootBuiltins "tuple" = some (.type "tuple"):=by decide +kernel
theorem jO:bootBuiltins "str" = some (.type "str"):=by decide +kernel
theorem ye:bootBuiltins "bool" = some (.type "bool"):=by decide +kernel
theorem x6:bootBuiltins "sorted" = some (.builtin "sorted"):=by decide +kernel
def wI (i:Int):Int:=if i < 0 then -i else i
def zaP:Str:= "abcdefghijklmnopqrstuvwxyz"
def Zv (c:Nat):Bool:=decide (97 <= c) && decide (c <= 122)
theorem Vr:zaP.cps.toList = List.range' 97 26:=by decide +kernel
def BoxAt (H:Hp) (b:Addr) (n:Int):Prop:=∃ b0 b1 b2:Int,H b = some (.lst [.int b0,.int b1,.int b2]) /\ 0 <= b0 /\ 0 <= b1 /\ b1 < 2147483648 /\ 0 <= b2 /\ b2 <= n
def SameB (b:Addr) (H H':Hp):Prop:=∀ c o,H c = some o -> c ≠ b -> H' c = some o
theorem x5 {i j:Int} (h1:0 <= i) (h2:i < 18446744073709551616):CMul i j:=by
  have e1:(-(2 ^ 64):Int) = -18446744073709551616:=by decide
  have e2:((2 ^ 64):Int) = 18446744073709551616:=by decide
  refine .inl ⟨?_,?_⟩
  · rw [e1];omega
  · rw [e2];exact h2
theorem Yy {a m j:Int} (h:0 < m) (h2:m < 18446744073709551616):CMul (a % m) j:=x5 (Int.emod_nonneg _ (by omega)) (Int.lt_trans (Int.emod_lt_of_pos _ h) h2)
section
variable {P:Program} {w:World} {K:PySem.W.Frag} {mg:Str -> Option Value} {base:Heap}
inductive Za (vs:List V) (H:Hp) (Q:VK):Prop
  | mk (b:Addr) (size n:Int) (_:vs = [.ref b,.int size]) (_:BoxAt H b n) (_:n < 1099511627776) (_:0 < size) (_:size < 1073741824) (_:∀ (r:Int) H',0 <= r -> r < size -> BoxAt H' b (n + 1) -> SameB b H H' -> Q (.int r) H'):Za  vs H Q
def jr:Sp:=fun vs H Q _=>Za  vs H Q
theorem Xz:zx ["_law_box_here", "_law_size", "_law_found", "_law_step", "_law_once", "_law_twice"] ["_law_box_here", "_law_size"] (zo (zu 19)):=⟨rfl,rfl,rfl,by decide +kernel,rfl,by decide +kernel,by decide +kernel⟩
theorem Wt {f:Addr} {fd:FuncData} (F:Fun K "_law_take" "_law_take" (zu 19) f fd) (B:Blt mg):FnOk P w K mg base CX0 1 f fd ["_law_box_here", "_law_size"] jr:=by
  have nd:=Xz.nd
  refine F.ok Xz (fun vs H Q E h=>?_) (fun cdv A outer s H vs Q E hr h=>?_)
  · obtain ⟨b,size,n,rfl,_⟩:=h
    rfl
  · obtain ⟨b,size,n,rfl,⟨b0,b1,b2,hb,p0,p1,p1',p2,p2'⟩,hn,hs0,hs1,k⟩:=h
    refine ⟨_,(zf (j5 (zS Yq (zy zP (pv 0) ze (fun _ _=>rfl)) ze (zJ _))
      (zf (yA (zn ZJ rfl B.divmod ZK (za (zy zP (pv 0) ze (fun _ _=>rfl)) (za (pv 1) zd))) (z9 rfl (zw (Qa (pv 0) ze vL) (zw (zt (i:=2) nd rfl (Or.inl rfl)) zW))))
        (zm (zC (pv 2))))
      qA)
      (zf (yA (zr zF (zy zP (pv 0) ze (fun _ _=>rfl)) ze) (Qa (pv 0) ze vL))
      (zf (zv (i:=3) nd rfl (Or.inl rfl) (zr zF ze (zr qQ (zy zP (pv 0) ze (fun _ _=>rfl)) (zy zP (pv 0) ze (fun _ _=>rfl)))))
      (zf (zv (i:=4) nd rfl (Or.inl rfl) (zr qJ (zr qQ (zr zF (zy zP (pv 0) ze (fun _ _=>rfl)) (zr qQ ze (zy zP (pv 0) ze (fun _ _=>rfl)))) (pv 3)) ze))
      (zf (zv (i:=5) nd rfl (Or.inl rfl) (zr qJ (zr zF (zr qQ (pv 4) (zr zF (zr qJ (pv 4) ze) ze)) (zy zP (pv 0) ze (fun _ _=>rfl))) ze))
      (zm (zC (zr qJ (zr QV (zr qJ (zr qQ (pv 5) (zr zF (zr qJ (pv 5) ze) ze)) ze) ze) (pv 1))))))))),?_⟩
    refine ⟨_,rfl,b,_,_,_,rfl,rfl,SqL.of hb,rfl,_,_,rfl,rfl,_,rfl,?_⟩
    refine xP (fun c=>?_) (fun c=>?_)
    · refine ⟨_,rfl,b,_,_,_,rfl,rfl,SqL.of hb,rfl,_,rfl,_,_,rfl,⟨hs0,hs1⟩,fun p hp=>?_⟩
      have hbp:b ≠ p:=zg hb hp
      refine ⟨p,_,rfl,SqT.of zc,rfl,_,_,rfl,_,rfl,b,_,_,_,rfl,rfl,(by rw [zi hbp];exact hb),rfl,_,_,rfl,rfl,_,rfl,?_⟩
      refine k _ _ (Int.emod_nonneg _ (by omega)) (Int.emod_lt_of_pos _ hs0) ⟨_,b1,b2,zc,Int.ediv_nonneg p0 (by omega),p1,p1',p2,by omega⟩ fun d o e hd=>?_
      rw [zi hd,zi (zg e hp)]
      exact e
    · refine ⟨_,rfl,b,_,_,_,rfl,rfl,SqL.of hb,rfl,_,_,rfl,rfl,_,rfl,b,_,_,_,rfl,rfl,hb,rfl,?_⟩
      have hb1:upd H b (.lst [.int b0,.int b1,.int (b2 + 1)]) b = some (.lst [.int b0,.int b1,.int (b2 + 1)]):=zc
      refine ⟨_,rfl,b,_,_,_,rfl,rfl,SqL.of hb1,rfl,_,rfl,b,_,_,_,rfl,rfl,SqL.of hb1,rfl,_,_,rfl,rfl,x5 (by omega) (by omega),_,_,rfl,rfl,?_⟩
      refine ⟨_,rfl,b,_,_,_,rfl,rfl,SqL.of hb1,rfl,_,rfl,b,_,_,_,rfl,rfl,SqL.of hb1,rfl,_,_,rfl,rfl,x5 (by omega) (by omega),_,_,rfl,rfl,_,rfl,_,_,rfl,rfl,x5 (by omega) (by omega),_,_,rfl,rfl,(by show (0:Int) < _;decide),?_⟩
      refine ⟨_,rfl,_,rfl,_,_,rfl,rfl,(by show (0:Int) < _;decide),_,_,rfl,rfl,_,_,rfl,rfl,Yy (by decide) (by decide),_,rfl,b,_,_,_,rfl,rfl,SqL.of hb1,rfl,_,_,rfl,rfl,_,_,rfl,rfl,(by show (0:Int) < _;decide),?_⟩
      refine ⟨_,rfl,_,rfl,_,_,rfl,rfl,(by show (0:Int) < _;decide),_,_,rfl,rfl,_,_,rfl,rfl,Yy (by decide) (by decide),_,_,rfl,rfl,(by show (0:Int) < _;decide),_,_,rfl,rfl,⟨by decide,by decide⟩,_,rfl,_,_,rfl,rfl,hs0,?_⟩
      refine k _ _ (Int.emod_nonneg _ (by omega)) (Int.emod_lt_of_pos _ hs0) ⟨b0,b1,b2 + 1,hb1,p0,p1,p1',by omega,by omega⟩ fun d o e hd=>?_
      rw [zi hd]
      exact e
inductive QG (K:PySem.W.Frag) (vs:List V) (H:Hp) (Q:VK):Prop
  | mk (a:Addr) (ns:List Int) (j:Nat) (_:vs = [.ref a,.int j]) (_:SqL K H a (ns.map V.int)) (_:j <= 100) (_:∀ p o,H p = none -> BoxAt (upd H p o) p 0 -> Q (.ref p) (upd H p o)):QG K vs H Q
def Xr (K:PySem.W.Frag):Sp:=fun vs H Q _=>QG K vs H Q
theorem Yf:zx ["_law_script", "_law_k", "_law_cell"] ["_law_script", "_law_k"] (zo (zu 18)):=⟨rfl,rfl,rfl,by decide +kernel,rfl,by decide +kernel,by decide +kernel⟩
theorem Jd {c:Int} {j:Nat} (hj:j <= 100):CMul (wI c) (if decide (10 ^ 18 <= wI c) = true then 1 else 0):=by
  refine .inr ?_
  split
  · exact ⟨by decide,by decide⟩
  · exact ⟨by decide,by decide⟩
theorem VT {c:Int}:0 <= wI c * (if decide (10 ^ 18 <= wI c) = true then 1 else 0):=by
  have h:0 <= wI c:=by unfold wI;split <;> omega
  split
  · rw [Int.mul_one];exact h
  · rw [Int.mul_zero];exact Int.le_refl 0
theorem zab {f:Addr} {fd:FuncData} (F:Fun K "_law_box" "_law_box" (zu 18) f fd) (B:Blt mg):FnOk P w K mg base CX0 1 f fd ["_law_script", "_law_k"] (Xr K):=by
  have nd:=Yf.nd
  refine F.ok Yf (fun vs H Q E h=>?_) (fun cdv A outer s H vs Q E hr h=>?_)
  · obtain ⟨a,ns,j,rfl,_⟩:=h
    rfl
  · obtain ⟨a,ns,j,rfl,hS,hj,k⟩:=h
    refine ⟨_,(zf (zv (i:=2) nd rfl (Or.inl rfl) (jH (zS Yp (pv 1) (zn zB rfl B.len boot_len (za (pv 0) zd)) (zJ _)) (zy zP (pv 0) (pv 1) (fun _ _=>rfl)) ze))
      (zm (zC (zU (za (zr qQ (zn ji rfl B.abs jk (za (pv 2) zd)) (zM yd rfl B.int wg (za (qE za3 (zn ji rfl B.abs jk (za (pv 2) zd)) (zr Y1 ze ze) (zJ _)) zd))) (za (zr qJ (zr qQ (zr zF (zr zF (zr qJ (pv 2) ze) (zr qQ ze (pv 1))) ze) ze) ze) (za ze zd))))))),?_⟩
    refine ⟨_,rfl,_,rfl,a,_,rfl,.inl hS,_,_,rfl,rfl,_,rfl,?_⟩
    refine xP (fun c=>?_) (fun c=>?_)
    · have hl:j < ns.length:=by
        have:=of_decide_eq_true c
        rw [List.length_map] at this
        omega
      refine ⟨_,rfl,_,rfl,a,_,_,.int ns[j],rfl,rfl,hS,qZ (by simp [hl]),?_⟩
      generalize ns[j] = z
      refine ⟨_,rfl,_,rfl,_,rfl,_,rfl,_,_,rfl,rfl,⟨by decide,by decide,by decide⟩,_,_,rfl,rfl,.inr ⟨_,rfl,_,_,rfl,rfl,Jd hj,_,rfl,_,_,rfl,rfl,(by show (0:Int) < _;decide),_,rfl,_,_,rfl,rfl,x5 (by decide) (by decide),_,_,rfl,rfl,_,_,rfl,rfl,_,_,rfl,rfl,?_,_,_,rfl,rfl,(by show (0:Int) < _;decide),(by rw [sizeLine_eq];exact (by decide:3 <= 16777216)),fun p hp=>k p _ hp ⟨_,_,_,zc,?_,?_,?_,by decide,by decide⟩⟩⟩
      · refine x5 ?_ ?_
        · have:=Int.emod_nonneg z (show (2147483629:Int) ≠ 0 by decide)
          omega
        · have:=Int.emod_lt_of_pos z (show (0:Int) < 2147483629 by decide)
          omega
      · exact VT
      · exact Int.emod_nonneg _ (by decide)
      · exact Int.lt_trans (Int.emod_lt_of_pos _ (by decide)) (by decide)
    · refine ⟨_,rfl,_,rfl,_,rfl,_,rfl,_,_,rfl,rfl,⟨by decide,by decide,by decide⟩,_,_,rfl,rfl,.inr ⟨_,rfl,_,_,rfl,rfl,Jd hj,_,rfl,_,_,rfl,rfl,(by show (0:Int) < _;decide),_,rfl,_,_,rfl,rfl,x5 (by decide) (by decide),_,_,rfl,rfl,_,_,rfl,rfl,_,_,rfl,rfl,?_,_,_,rfl,rfl,(by show (0:Int) < _;decide),(by rw [sizeLine_eq];exact (by decide:3 <= 16777216)),fun p hp=>k p _ hp ⟨_,_,_,zc,?_,?_,?_,by decide,by decide⟩⟩⟩
      · refine x5 ?_ ?_
        · have:=Int.emod_nonneg 0 (show (2147483629:Int) ≠ 0 by decide)
          omega
        · have:=Int.emod_lt_of_pos 0 (show (0:Int) < 2147483629 by decide)
          omega
      · exact VT
      · exact Int.emod_nonneg _ (by decide)
      · exact Int.lt_trans (Int.emod_lt_of_pos _ (by decide)) (by decide)
end
theorem VP {xs:List V} {lo hi:Option Int} {x:V} (h:x ∈ qK xs lo hi):x ∈ xs:=List.mem_of_mem_drop (List.mem_of_mem_take h)
theorem WM {n j:Nat} (h:j < n):ixN n (j:Int) = some j:=by
  unfold ixN
  rw [if_pos (by omega),if_pos (by omega)];simp
theorem VQ (ns:List Int) (lo hi:Option Int):∃ ms:List Int,qK (ns.map V.int) lo hi = ms.map V.int:=by
  refine ⟨(ns.drop (HT.sIx ns.length 0 lo)).take (HT.sIx ns.length ns.length hi - HT.sIx ns.length 0 lo),?_⟩
  unfold qK
  rw [List.length_map,List.map_take,List.map_drop]
theorem WU (ns:List Int) (z:Nat):(qK (ns.map V.int) none (some (z:Int))).length = min z ns.length:=by
  unfold qK
  rw [HT.sIx_nat,HT.sIx_none,List.length_take,List.length_drop,List.length_map]
  omega
theorem WV (ns:List Int) (z:Nat) (hi:Option Int):(qK (ns.map V.int) (some (z:Int)) hi).length <= ns.length - min z ns.length:=by
  unfold qK
  rw [HT.sIx_nat,List.length_take,List.length_drop,List.length_map]
  omega
section
variable {P:Program} {w:World} {K:PySem.W.Frag} {mg:Str -> Option Value} {base:Heap}
inductive Zf (K:PySem.W.Frag) (vs:List V) (H:Hp) (Q:VK):Prop
  | mk (a:Addr) (ns:List Int) (z:Nat) (_:vs = [.ref a,.int z]) (_:SqL K H a (ns.map V.int)) (_:ns.length <= 63) (_:1 <= z) (_:z <= 63) (_:∀ (p:Addr) (ms:List Int) H',Same H H' -> SqL K H' p (ms.map V.int) -> ms.length <= z -> Q (.ref p) H'):Zf K vs H Q
def ZZ (K:PySem.W.Frag):Sp:=fun vs H Q _=>Zf K vs H Q
theorem XF:zx ["_law_script", "_law_size", "_law_cells", "_law_k", "_law_cell"] ["_law_script", "_law_size"] (zo (zu 20)):=⟨rfl,rfl,rfl,by decide +kernel,rfl,by decide +kernel,by decide +kernel⟩
def Ju (a:_) (z:Nat) (p:_) (H:_) (q:_) (ns:List Int):=fun (i:Nat) (σ:St) (H2:Hp)=>(Ex3 fun (ms:List Int) (v3 v4:Option V)=>An5 (σ = [some (.ref a),some (.int z),some (.ref p),v3,v4]) (Same H H2) (H2 p = some (.lst (ms.map V.int))) (H2 q = some (.lst (qK (ns.map V.int) (some (z:Int)) (some 63)))) (ms.length = min z ns.length):Prop)
theorem Wz {f:Addr} {fd:FuncData} (F:Fun K "_law_folded" "_law_folded" (zu 20) f fd) (B:Blt mg):FnOk P w K mg base CX0 1 f fd ["_law_script", "_law_size"] (ZZ K):=by
  have nd:=XF.nd
  refine F.ok XF (fun vs H Q E h=>?_) (fun cdv A outer s H vs Q E hr h=>?_)
  · obtain ⟨a,ns,z,rfl,_⟩:=h
    rfl
  · obtain ⟨a,ns,z,rfl,hS,hlen,hz1,hz2,k⟩:=h
    refine ⟨_,(zf (zv (i:=2) nd rfl (Or.inl rfl) (zM yP rfl B.list qO (za (jF yu (pv 0) vm (jT (pv 1))) zd)))
      (zf (zQ PassesOwn.never rfl (Wj rfl B.enumerate (za (jF yu (pv 0) (jT (pv 1)) (jT ze)) zd)) (z9 rfl (zw (zt (i:=3) nd rfl (Or.inl rfl)) (zw (zt (i:=4) nd rfl (Or.inl rfl)) zW)))
      (zm (yA (zr zF (zy zP (pv 2) (zr qJ (pv 3) (pv 1)) (fun _ _=>rfl)) (zr qQ (pv 4) (zr zF (pv 3) ze))) (Qa (pv 2) (zr qJ (pv 3) (pv 1)) vL))))
      (zm (zC (pv 2))))),?_⟩
    refine ⟨_,rfl,_,rfl,_,rfl,a,_,rfl,hS,fun l hl=>⟨l,_,rfl,.inl (SqL.of zc),fun p hp=>?_⟩⟩
    have s1:Same H (upd (upd H l (.lst (qK (ns.map V.int) none (some (z:Int))))) p (.lst (qK (ns.map V.int) none (some (z:Int))))):=(zb hl).trans (zb hp)
    generalize hH1:upd (upd H l (.lst (qK (ns.map V.int) none (some (z:Int))))) p (.lst (qK (ns.map V.int) none (some (z:Int)))) = H1 at s1
    have hp1:H1 p = some (.lst (qK (ns.map V.int) none (some (z:Int)))):=by rw [<- hH1];exact zc
    have np:H p = none:=(zb hl).free hp
    refine ⟨_,rfl,_,rfl,_,rfl,_,rfl,a,_,rfl,s1.seq hS,fun q hq=>⟨q,rfl,⟨_,SqL.of zc⟩,?_⟩⟩
    have npq:p ≠ q:=zg hp1 hq
    obtain ⟨ms0,hms0⟩:=VQ ns none (some (z:Int))
    have lo:=WU ns z
    have hi:=WV ns z (some 63)
    refine VH (K:=K) (a:=q) (xs:=qK (ns.map V.int) (some (z:Int)) (some 63)) (Ju a z p H q ns)
      ⟨ms0,none,none,rfl,s1.trans (zb hq),by rw [zi npq,hp1,hms0],zc,by rw [<- lo,hms0,List.length_map]⟩ (fun i σ H2 _ ⟨_,_,_,_,_,_,h,_⟩=>SqL.of h) ?_ ?_
    · rintro i x σ H2 T hx ⟨ms,v3,v4,rfl,sm,hp2,hq2,hml⟩ hT
      have hil:i < (qK (ns.map V.int) (some (z:Int)) (some 63)).length:=(List.getElem?_eq_some_iff.mp hx).1
      obtain ⟨c,rfl⟩:∃ c,x = V.int c:=by
        have:=VP (List.mem_of_getElem? hx)
        obtain ⟨c,_,e⟩:=List.mem_map.mp this
        exact ⟨c,e.symm⟩
      have hj:i % z < ms.length:=by
        have:=Nat.mod_lt i (show 0 < z by omega)
        omega
      have npT:p ≠ T:=zg hp2 hT
      have nqT:q ≠ T:=zg hq2 hT
      have hp3:upd H2 T (.tup [.int i,.int c]) p = some (.lst (ms.map V.int)):=by rw [zi npT];exact hp2
      have em:((i % z:Nat):Int) = (i:Int) % (z:Int):=Int.natCast_emod i z
      have hz0:(0:Int) < (z:Int):=by omega
      refine ⟨T,_,rfl,SqT.of zc,rfl,_,_,rfl,_,_,rfl,rfl,?_⟩
      refine ⟨_,rfl,_,rfl,_,rfl,_,_,rfl,rfl,hz0,p,_,_,.int ms[i % z],rfl,rfl,SqL.of hp3,(by rw [<- em];exact qZ (by simp [hj])),?_⟩
      refine ⟨_,rfl,_,rfl,_,_,rfl,rfl,_,_,rfl,rfl,.inr ⟨?_,?_⟩,_,_,rfl,rfl,?_⟩
      · have e1:(-(2 ^ 64):Int) = -18446744073709551616:=by decide
        rw [e1];omega
      · have e2:((2 ^ 64):Int) = 18446744073709551616:=by decide
        rw [e2];omega
      refine ⟨_,rfl,_,rfl,_,rfl,_,_,rfl,rfl,hz0,p,_,_,i % z,rfl,rfl,hp3,(by rw [<- em,List.length_map];exact WM hj),?_⟩
      refine ⟨ms.set (i % z) (ms[i % z] + c * ((i:Int) + 2)),_,_,rfl,fun d o e=>?_,by rw [zc,List.map_set],?_,by rw [List.length_set];exact hml⟩
      · rw [zi (zg e np),zi (zg (sm d o e) hT)]
        exact sm d o e
      · rw [zi (Ne.symm npq),zi nqT]
        exact hq2
    · rintro σ H2 ⟨ms,v3,v4,rfl,sm,hp2,hq2,hml⟩
      exact ⟨_,rfl,k p ms H2 sm (SqL.of hp2) (by omega)⟩
end
theorem ZQ:[V.ty "list",V.ty "tuple"].length <= sizeLine:=by rw [sizeLine_eq];exact (by decide:2 <= 16777216)
section
variable {P:Program} {w:World} {K:PySem.W.Frag} {mg:Str -> Option Value} {base:Heap}
def spS (K:PySem.W.Frag):Nat -> Sp
  | 0=>fun _ _ _ _=>False
  | n + 1=>fun vs H Q _=>∃ d f v,vs = [f,v] /\ Rep K H d f /\ Rep K H d v /\ Dat.ok n d /\ ∀ H',Same H H' -> Q (.bl true) H'
theorem XB:zx ["_law_found", "_law_due_here"] ["_law_found", "_law_due_here"] (zo (zu 21)):=⟨rfl,rfl,rfl,by decide +kernel,rfl,by decide +kernel,by decide +kernel⟩
theorem QW {f:Addr} {fd:FuncData} (F:Fun K "_law_same" "_law_same" (zu 21) f fd) (B:Blt mg) (hm:mg "_law_same" = some (.ref f)) (hb:Binds K fd ["_law_found", "_law_due_here"] []) :
    ∀ n:Nat,FnOk P w K mg base CX0 n f fd ["_law_found", "_law_due_here"] (spS K n)
  | 0=>⟨fun _ _ _ _ h=>h.elim,fun _ _ _ _ _ _ _ _ _ _ _ _ _ h=>h.elim⟩
  | n + 1=>by
    have D_same:Dfn P w K mg base "_law_same" n ["_law_found", "_law_due_here"] (spS K n):=⟨f,fd,QW F B hm hb n,hm,F.kp,hb⟩
    have nd:=XB.nd
    refine F.ok XB (fun vs H Q E h=>?_) (fun cdv A outer s H vs Q E hr h=>?_)
    · obtain ⟨d,g,v,rfl,_⟩:=h
      rfl
    · obtain ⟨d,g,v,rfl,rg,rv,ok,k⟩:=h
      refine ⟨_,(zf (j5 (xf (zn yc rfl B.isinstance boot_isinstance (za (pv 1) (za (zG (za (z7 (v:=.ty "list") rfl B.list qO rfl) (za (z7 (v:=.ty "tuple") rfl B.tuple zY rfl) zd))) zd))))
      (zf (j5 (PW.pt (XS (XU (xf (zn yc rfl B.isinstance boot_isinstance (za (pv 0) (za (zG (za (z7 (v:=.ty "list") rfl B.list qO rfl) (za (z7 (v:=.ty "tuple") rfl B.tuple zY rfl) zd))) zd))))) (Z4 (zS QU (zn qI rfl B.isinstance boot_isinstance (za (pv 0) (za (z7 (v:=.ty "list") rfl B.list qO rfl) zd))) (zn qI rfl B.isinstance boot_isinstance (za (pv 1) (za (z7 (v:=.ty "list") rfl B.list qO rfl) zd))) (zJ _)))))
        (zm (zC Va))
        qA)
        (zm (zC (yD (qE jf (zn zB rfl B.len boot_len (za (pv 0) zd)) (zn zB rfl B.len boot_len (za (pv 1) zd)) (zJ _)) (Qb (zn (J9 rfl) rfl B.all boot_all (za (Qc [] [] rfl rfl (by kernel_rfl) (YT rfl B.zip (za (pv 0) (za (pv 1) zd))) (fun _ _ _ _=>qc) (fun _ _ _ _=>(zj D_same (hr.mono (by omega)) rfl (za (pv 0) (za (pv 1) zd))))) zd)))))))
      qA)
      (zf (j5 (PW.pt (XS (zS Y2 (pv 1) YX (zJ _)) (Z4 (xf (zn qI rfl B.isinstance boot_isinstance (za (pv 1) (za (z7 (v:=.ty "str") rfl B.str jO rfl) zd)))))))
      (zm (zC (yD (qE jf (pv 0) (pv 1) (zJ _)) (Qb (qE jf (zn qI rfl B.isinstance boot_isinstance (za (pv 0) (za (z7 (v:=.ty "str") rfl B.str jO rfl) zd))) (zn qI rfl B.isinstance boot_isinstance (za (pv 1) (za (z7 (v:=.ty "str") rfl B.str jO rfl) zd))) (zJ _))))))
      qA)
      (zm (zC (yD (zn qI rfl B.isinstance boot_isinstance (za (pv 0) (za (z7 (v:=.ty "int") rfl B.int wg rfl) zd))) (yD (qE jf (zn qI rfl B.isinstance boot_isinstance (za (pv 0) (za (z7 (v:=.ty "bool") rfl B.bool ye rfl) zd))) (zn qI rfl B.isinstance boot_isinstance (za (pv 1) (za (z7 (v:=.ty "bool") rfl B.bool ye rfl) zd))) (zJ _)) (Qb (qE jf (pv 0) (pv 1) (zJ _))))))))),?_⟩
      refine ⟨_,rfl,ZQ,fun p hp=>⟨v,d.tyN,p,["list", "tuple"],rfl,(rv.same (zb hp)).ty,zc,(by decide),_,rfl,?_⟩⟩
      have s1:Same H (upd H p (.tup [V.ty "list",V.ty "tuple"])):=zb hp
      have rg1:=rg.same s1
      have rv1:=rv.same s1
      generalize upd H p (.tup [V.ty "list",V.ty "tuple"]) = H1 at s1 rg1 rv1
      cases d with
      | non=>
        cases (show g = _ from rg);cases (show v = _ from rv)
        refine ifF rfl ⟨_,rfl,rfl,_,rfl,ifT (by simp) (ifT rfl ?_)⟩
        refine ⟨_,rfl,_,rfl,rfl,_,rfl,ifT (by simp) ⟨_,rfl,_, "NoneType", "str",rfl,rg1.ty,(by decide),_,rfl,_, "NoneType", "str",rfl,rv1.ty,(by decide),rfl,?_⟩⟩
        have:=k H1 s1
        simpa using this
      | str x=>
        cases (show g = _ from rg);cases (show v = _ from rv)
        refine ifF rfl ⟨_,rfl,rfl,_,rfl,ifF (by simp) ⟨_,rfl,_, "str", "str",rfl,rv1.ty,(by decide),_,rfl,ifT (by decide) ?_⟩⟩
        refine ⟨_,rfl,_,rfl,rfl,_,rfl,ifT (by simp) ⟨_,rfl,_, "str", "str",rfl,rg1.ty,(by decide),_,rfl,_, "str", "str",rfl,rv1.ty,(by decide),rfl,?_⟩⟩
        have:=k H1 s1
        simpa using this
      | bl b=>
        cases (show g = _ from rg);cases (show v = _ from rv)
        refine ifF rfl ⟨_,rfl,rfl,_,rfl,ifF (by simp) ⟨_,rfl,_, "bool", "str",rfl,rv1.ty,(by decide),_,rfl,ifF (by decide) ?_⟩⟩
        refine ⟨_,rfl,_, "bool", "int",rfl,rg1.ty,(by decide),_,rfl,ifT (by decide) ⟨_,rfl,_, "bool", "bool",rfl,rg1.ty,(by decide),_,rfl,_, "bool", "bool",rfl,rv1.ty,(by decide),rfl,_,rfl,ifT (by simp) ⟨_,rfl,_,rfl,rfl,?_⟩⟩⟩
        have:=k H1 s1
        simpa using this
      | int b=>
        cases (show g = _ from rg);cases (show v = _ from rv)
        refine ifF rfl ⟨_,rfl,rfl,_,rfl,ifF (by simp) ⟨_,rfl,_, "int", "str",rfl,rv1.ty,(by decide),_,rfl,ifF (by decide) ?_⟩⟩
        refine ⟨_,rfl,_, "int", "int",rfl,rg1.ty,(by decide),_,rfl,ifT (by decide) ⟨_,rfl,_, "int", "bool",rfl,rg1.ty,(by decide),_,rfl,_, "int", "bool",rfl,rv1.ty,(by decide),rfl,_,rfl,ifT (by simp) ⟨_,rfl,_,rfl,rfl,?_⟩⟩⟩
        have:=k H1 s1
        simpa using this
      | lst ds=>
        obtain ⟨a,xs,rfl,hx,rx⟩:=rg1
        obtain ⟨b,ys,rfl,hy,ry⟩:=rv1
        cases n with
        | zero=>exact (show False from ok).elim
        | succ n=>
          obtain ⟨hlen,hall⟩:ds.length <= 1000000 /\ ∀ d ∈ ds,Dat.ok n d:=ok
          have lx:=rx.len
          have ly:=ry.len
          have hbig:1000000 < sizeLine:=by rw [sizeLine_eq];decide
          refine ifT rfl ?_
          refine ⟨_,rfl,ZQ,fun p2 hp2=>⟨.ref a, "list",p2,["list", "tuple"],rfl,(.inl ⟨rfl,xs,(zb hp2).seq hx⟩),zc,(by decide),_,rfl,ifF rfl ?_⟩⟩
          have s2:Same H1 (upd H1 p2 (.tup [V.ty "list",V.ty "tuple"])):=zb hp2
          have hx2:=s2.seq hx
          have hy2:=s2.seq hy
          have rx2:=rx.same s2
          have ry2:=ry.same s2
          have s3:=s1.trans s2
          generalize upd H1 p2 (.tup [V.ty "list",V.ty "tuple"]) = H2 at s2 s3 hx2 hy2 rx2 ry2
          refine ⟨_,rfl,.ref a, "list", "list",rfl,(.inl ⟨rfl,xs,hx2⟩),(by decide),_,rfl,.ref b, "list", "list",rfl,(.inl ⟨rfl,ys,hy2⟩),(by decide),rfl,_,rfl,ifF (by decide) ?_⟩
          refine ⟨_,rfl,a,xs,rfl,(.inl hx2),_,rfl,b,ys,rfl,(.inl hy2),rfl,_,rfl,ifT (by simp [lx,ly]) ?_⟩
          refine ⟨_,rfl,_,rfl,true,true,a,b,rfl,⟨xs,hx2⟩,⟨ys,hy2⟩,?_⟩
          refine Vu (K:=K) (k1:=true) (k2:=true) (xs:=xs) (ys:=ys) (fun i zs H3=>zs = List.replicate i (V.bl true) /\ Same H2 H3) ⟨rfl,Same.refl _⟩ (fun i zs H3 ⟨_,sm⟩=>⟨sm.seq hx2,sm.seq hy2⟩) ?_ ?_
          · rintro i x y zs H3 T e1 e2 ⟨rfl,sm⟩ hT
            have hi:i < ds.length:=by have:=(List.getElem?_eq_some_iff.mp e1).1;omega
            obtain ⟨d1,q1,r1⟩:=rx2.get e1
            obtain ⟨d2,q2,r2⟩:=ry2.get e2
            rw [q1] at q2;cases q2
            have s4:=sm.trans (zb (o:=.tup [x,y]) hT)
            refine ⟨T,_,rfl,SqT.of zc,rfl,_,_,rfl,_,_,rfl,rfl,rfl,?_⟩
            refine ⟨_,rfl,_,rfl,d1,x,y,rfl,r1.same s4,r2.same s4,hall d1 (List.mem_of_getElem? q1),fun H5 s5=>⟨?_,?_,s4.trans s5⟩⟩
            · rw [List.length_replicate];omega
            · rw [List.replicate_succ']
          · rintro zs H3 ⟨rfl,sm⟩
            refine ⟨by rw [List.length_replicate];omega,fun D hD=>⟨D,List.replicate (min xs.length ys.length) true,rfl,?_,?_⟩⟩
            · refine SqL.of ?_
              rw [zc,List.map_replicate]
            · have:=k _ (s3.trans (sm.trans (zb (o:=.lst (List.replicate (min xs.length ys.length) (V.bl true))) hD)))
              simpa using this
      | tup ds=>
        obtain ⟨a,xs,rfl,hx,rx⟩:=rg1
        obtain ⟨b,ys,rfl,hy,ry⟩:=rv1
        cases n with
        | zero=>exact (show False from ok).elim
        | succ n=>
          obtain ⟨hlen,hall⟩:ds.length <= 1000000 /\ ∀ d ∈ ds,Dat.ok n d:=ok
          have lx:=rx.len
          have ly:=ry.len
          have hbig:1000000 < sizeLine:=by rw [sizeLine_eq];decide
          refine ifT rfl ?_
          refine ⟨_,rfl,ZQ,fun p2 hp2=>⟨.ref a, "tuple",p2,["list", "tuple"],rfl,(.inr ⟨rfl,xs,(zb hp2).sqT hx⟩),zc,(by decide),_,rfl,ifF rfl ?_⟩⟩
          have s2:Same H1 (upd H1 p2 (.tup [V.ty "list",V.ty "tuple"])):=zb hp2
          have hx2:=s2.sqT hx
          have hy2:=s2.sqT hy
          have rx2:=rx.same s2
          have ry2:=ry.same s2
          have s3:=s1.trans s2
          generalize upd H1 p2 (.tup [V.ty "list",V.ty "tuple"]) = H2 at s2 s3 hx2 hy2 rx2 ry2
          refine ⟨_,rfl,.ref a, "tuple", "list",rfl,(.inr ⟨rfl,xs,hx2⟩),(by decide),_,rfl,.ref b, "tuple", "list",rfl,(.inr ⟨rfl,ys,hy2⟩),(by decide),rfl,_,rfl,ifF (by decide) ?_⟩
          refine ⟨_,rfl,a,xs,rfl,(.inr hx2),_,rfl,b,ys,rfl,(.inr hy2),rfl,_,rfl,ifT (by simp [lx,ly]) ?_⟩
          refine ⟨_,rfl,_,rfl,false,false,a,b,rfl,⟨xs,hx2⟩,⟨ys,hy2⟩,?_⟩
          refine Vu (K:=K) (k1:=false) (k2:=false) (xs:=xs) (ys:=ys) (fun i zs H3=>zs = List.replicate i (V.bl true) /\ Same H2 H3) ⟨rfl,Same.refl _⟩ (fun i zs H3 ⟨_,sm⟩=>⟨sm.sqT hx2,sm.sqT hy2⟩) ?_ ?_
          · rintro i x y zs H3 T e1 e2 ⟨rfl,sm⟩ hT
            have hi:i < ds.length:=by have:=(List.getElem?_eq_some_iff.mp e1).1;omega
            obtain ⟨d1,q1,r1⟩:=rx2.get e1
            obtain ⟨d2,q2,r2⟩:=ry2.get e2
            rw [q1] at q2;cases q2
            have s4:=sm.trans (zb (o:=.tup [x,y]) hT)
            refine ⟨T,_,rfl,SqT.of zc,rfl,_,_,rfl,_,_,rfl,rfl,rfl,?_⟩
            refine ⟨_,rfl,_,rfl,d1,x,y,rfl,r1.same s4,r2.same s4,hall d1 (List.mem_of_getElem? q1),fun H5 s5=>⟨?_,?_,s4.trans s5⟩⟩
            · rw [List.length_replicate];omega
            · rw [List.replicate_succ']
          · rintro zs H3 ⟨rfl,sm⟩
            refine ⟨by rw [List.length_replicate];omega,fun D hD=>⟨D,List.replicate (min xs.length ys.length) true,rfl,?_,?_⟩⟩
            · refine SqL.of ?_
              rw [zc,List.map_replicate]
            · have:=k _ (s3.trans (sm.trans (zb (o:=.lst (List.replicate (min xs.length ys.length) (V.bl true))) hD)))
              simpa using this
end
theorem le0:([]:List V).length <= sizeLine:=Nat.zero_le _
theorem le2 {x y:V}:[x,y].length <= sizeLine:=by rw [sizeLine_eq];exact (by decide:2 <= 16777216)
theorem SameB.refl (b:Addr) (H:Hp):SameB b H H:=fun _ _ e _=>e
theorem SameB.trans {b:Addr} {H H1 H2:Hp} (a:SameB b H H1) (c:SameB b H1 H2):SameB b H H2:=fun d o e hd=>c d o (a d o e hd) hd
theorem SameB.of {b:Addr} {H H1:Hp} (a:Same H H1):SameB b H H1:=fun d o e _=>a d o e
theorem SameB.new {b p:Addr} {o:HO} {H H1:Hp} (a:SameB b H H1) (h:H1 p = none):SameB b H (upd H1 p o):=a.trans (.of (zb h))
theorem BoxAt.new {b p:Addr} {o:HO} {H:Hp} {n:Int} (a:BoxAt H b n) (h:H p = none):BoxAt (upd H p o) b n:=by
  obtain ⟨b0,b1,b2,e,r⟩:=a
  exact ⟨b0,b1,b2,by rw [zi (zg e h)];exact e,r⟩
theorem BoxAt.same {b:Addr} {H H':Hp} {n:Int} (a:BoxAt H b n) (s:Same H H'):BoxAt H' b n:=by
  obtain ⟨b0,b1,b2,e,r⟩:=a
  exact ⟨b0,b1,b2,s _ _ e,r⟩
theorem BoxAt.ne {b t:Addr} {H:Hp} {n:Int} {o:HO} (a:BoxAt H b n) (h:H t = some o) (hl:∀ x y z,o ≠ .lst [x,y,z]):t ≠ b:=by
  obtain ⟨b0,b1,b2,e,r⟩:=a
  exact QX h e (hl _ _ _)
theorem BoxAt.some {b:Addr} {H:Hp} {n:Int} (a:BoxAt H b n):∃ o,H b = .some o:=let ⟨_,_,_,e,_⟩:=a;⟨_,e⟩
theorem BoxAt.mono {b:Addr} {H:Hp} {n m:Int} (a:BoxAt H b n) (h:n <= m):BoxAt H b m:=by
  obtain ⟨b0,b1,b2,e,p0,p1,p2,p3,p4⟩:=a
  exact ⟨b0,b1,b2,e,p0,p1,p2,p3,by omega⟩
theorem le1 {x:V}:[x].length <= sizeLine:=by rw [sizeLine_eq];exact (by decide:1 <= 16777216)
theorem le3 {x y z:V}:[x,y,z].length <= sizeLine:=by rw [sizeLine_eq];exact (by decide:3 <= 16777216)
theorem le4 {x y z u:V}:[x,y,z,u].length <= sizeLine:=by rw [sizeLine_eq];exact (by decide:4 <= 16777216)
theorem leN {xs:List V} (h:xs.length <= 1000):xs.length <= sizeLine:=by rw [sizeLine_eq];omega
theorem Qr {α:Type} {xs:List α} {i:Int} (h:0 <= i) (h':i < xs.length):∃ v,atI xs i = some v /\ xs[i.toNat]? = some v:=by
  have hl:i.toNat < xs.length:=by omega
  refine ⟨xs[i.toNat],?_,by simp [hl]⟩
  have:=qZ (xs:=xs) (j:=i.toNat) (v:=xs[i.toNat]) (by simp [hl])
  rwa [show ((i.toNat:Nat):Int) = i by omega] at this
theorem SameB.put {b m:Addr} {H H':Hp} {o:HO} (s:SameB b H H') (h:H m = none):SameB b H (upd H' m o):=fun c u e hc=>by
  rw [zi (zg e h)];exact s c u e hc
theorem SameB.none {b m:Addr} {H H':Hp} (s:SameB b H H') (h:H' m = none) (hm:m ≠ b):H m = none:=by
  cases q:H m with
  | none=>rfl
  | some o=>have:=s m o q hm;rw [h] at this;cases this
def jv (x:Str):Prop:=(x.cps.toList.map Zv).all id = true
theorem zae {r:Int} (h0:0 <= r) (h1:r < 26):∃ c,atI zaP.cps.toList r = some c /\ Zv c = true:=by
  rw [Vr]
  obtain ⟨c,e,e'⟩:=Qr (xs:=List.range' 97 26) h0 (by rw [List.length_range'];omega)
  have hm:=List.mem_range'_1.mp (List.mem_of_getElem? e')
  refine ⟨c,e,?_⟩
  unfold Zv
  rw [decide_eq_true (by omega),decide_eq_true (by omega)]
  rfl
theorem Vq {c:Nat} {y:Str} (h:Zv c = true) (hy:jv y):jv ((⟨#[c]⟩:Str) ++ y):=by
  unfold jv at hy ⊢
  show ((#[c] ++ y.cps).toList.map Zv).all id = true
  rw [Array.toList_append,List.map_append,List.all_append,hy,Bool.and_true]
  show (Zv c && true) = true
  rw [h];rfl
theorem Vs {c:Nat} {y:Str}:((⟨#[c]⟩:Str) ++ y).length = y.length + 1:=by
  show (#[c] ++ y.cps).size = y.cps.size + 1
  rw [Array.size_append]
  show 1 + _ = _
  omega
theorem BoxAt.nne {b p:Addr} {H:Hp} {n:Int} (a:BoxAt H b n) (h:H p = none):p ≠ b:=by
  obtain ⟨o,e⟩:=a.some
  exact (zg e h).symm
theorem BoxAt.other {b l:Addr} {H:Hp} {n:Int} {o:HO} (a:BoxAt H b n) (h:l ≠ b):BoxAt (upd H l o) b n:=by
  obtain ⟨b0,b1,b2,e,r⟩:=a
  exact ⟨b0,b1,b2,by rw [zi (Ne.symm h)];exact e,r⟩
def Nm (x:Str):Prop:=x.length <= 8 /\ ∀ c ∈ x.cps.toList,c < 1000000
theorem za9 {x:Str} (h:x.length <= 8) (l:jv x):Nm x:=⟨h,fun c hc=>by
  unfold jv at l
  have:=List.all_eq_true.mp l (Zv c) (List.mem_map.mpr ⟨c,hc,rfl⟩)
  unfold Zv at this
  simp at this
  omega⟩
theorem wQ:∀ (ns:List Str),(ns.map V.str).all qH = true
  | []=>rfl
  | n :: ns=>by
    show (true && (ns.map V.str).all qH) = true
    rw [wQ ns];rfl
section
variable {P:Program} {w:World} {K:PySem.W.Frag} {mg:Str -> Option Value} {base:Heap}
inductive wT (vs:List V) (H:Hp) (Q:VK):Prop
  | mk (num size:Int) (_:vs = [.int num,.int size]) (_:0 <= num) (_:1 <= size) (_:size <= 8) (_:∀ y:Str,(y.length:Int) = size -> jv y -> Q (.str y) H):wT  vs H Q
def yo:Sp:=fun vs H Q _=>wT  vs H Q
theorem QK:zx ["_law_number", "_law_size", "_law_word", "_law_k"] ["_law_number", "_law_size"] (zo (zu 22)):=⟨rfl,rfl,rfl,by decide +kernel,rfl,by decide +kernel,by decide +kernel⟩
def Jt (size:_) (H:_):=fun (i:Nat) (σ:St) (H4:Hp)=>(Ex3 fun (num':Int) (y:Str) (v3:Option V)=>An5 (σ = [some (.int num'),some (.int size),some (.str y),v3]) (0 <= num') (y.length = i) (jv y) (H4 = H):Prop)
theorem Vg {f:Addr} {fd:FuncData} (F:Fun K "_law_spelled" "_law_spelled" (zu 22) f fd) (B:Blt mg):FnOk P w K mg base CX0 1 f fd ["_law_number", "_law_size"] yo:=by
  have nd:=QK.nd
  refine F.ok QK (fun vs H Q E h=>?_) (fun cdv A outer s H vs Q E hr h=>?_)
  · obtain ⟨num,size,rfl,_⟩:=h
    rfl
  · obtain ⟨num,size,rfl,n0,s0,s1,k⟩:=h
    have hbig:100000 < sizeLine:=by rw [sizeLine_eq];decide
    have e62:(2:Int) ^ 62 = 4611686018427387904:=by decide
    refine ⟨_,(zf (zv (i:=2) nd rfl (Or.inl rfl) X2)
      (zf (zQ PassesOwn.never rfl (zI rfl B.range (za (pv 1) zd)) (zt (i:=3) nd rfl (Or.inl rfl))
      (zf (zv (i:=2) nd rfl (Or.inl rfl) (zr Qe (zy zaj X2 (zr qJ (pv 0) ze) (fun _ _=>rfl)) (pv 2)))
        (zm (zv (i:=0) nd rfl (Or.inl rfl) (zr QV (pv 0) ze)))))
      (zm (zC (pv 2))))),?_⟩
    refine ⟨_,rfl,_,rfl,(by rw [e62];omega),(by rw [e62];omega),?_⟩
    refine zV (Jt size H) ⟨num,_,_,rfl,n0,rfl,rfl,rfl⟩ ?_ ?_
    · rintro i σ H4 hi ⟨num',y,v3,rfl,m0,ly,al,rfl⟩
      obtain ⟨c,hc,lc⟩:=zae (r:=num' % 26) (Int.emod_nonneg _ (by decide)) (Int.emod_lt_of_pos _ (by decide))
      refine ⟨_,rfl,_,_,rfl,rfl,(by show (0:Int) < 26;decide),_,_,c,rfl,rfl,(by rw [sizeLine_eq];decide),hc,_,rfl,_,_,rfl,rfl,?_,?_⟩
      · show 1 + y.length <= sizeLine
        omega
      · exact ⟨_,rfl,_,_,rfl,rfl,⟨by decide,by decide⟩,_,_,_,rfl,Int.ediv_nonneg m0 (by decide),by rw [Vs,ly],Vq lc al,rfl⟩
    · rintro σ H4 ⟨num',y,v3,rfl,m0,ly,al,rfl⟩
      exact ⟨_,rfl,k y (by omega) al⟩
inductive Qz (vs:List V) (H:Hp) (Q:VK):Prop
  | mk (b t:Addr) (n:Int) (ts:List Str) (_:vs = [.ref b,.ref t]) (_:BoxAt H b n) (_:n < 1099511000000) (_:t ≠ b) (_:H t = some (.lst (ts.map V.str))) (_:ts.length <= 1000) (_:∀ (y:Str) H',SameB b H H' -> BoxAt H' b (n + 12) -> 1 <= y.length -> y.length <= 8 -> jv y -> Q (.str y) H'):Qz  vs H Q
def Xn:Sp:=fun vs H Q _=>Qz  vs H Q
theorem Ya:zx ["_law_box_here", "_law_taken", "_law_size", "_law_number", "_law_k", "_law_word", "_law_turn"] ["_law_box_here", "_law_taken"] (zo (zu 23)):=⟨rfl,rfl,rfl,by decide +kernel,rfl,by decide +kernel,by decide +kernel⟩
theorem YS {r:Int} (h0:0 <= r) (h1:r < 4):∃ z:Int,atI [V.int 3,V.int 3,V.int 3,V.int 8] r = some (.int z) /\ 3 <= z /\ z <= 8:=by
  have hc:r = 0 \/ r = 1 \/ r = 2 \/ r = 3:=by omega
  rcases hc with rfl | rfl | rfl | rfl
  · exact ⟨3,rfl,by decide,by decide⟩
  · exact ⟨3,rfl,by decide,by decide⟩
  · exact ⟨3,rfl,by decide,by decide⟩
  · exact ⟨8,rfl,by decide,by decide⟩
def Js (b:_) (t:_) (r2:_) (H:_) (n:_):=fun (i:Nat) (σ:St) (H4:Hp)=>(Ex2 fun (num:Int) (v4:Option V)=>An4 (σ = [some (.ref b),some (.ref t),some (.int (1 + r2)),some (.int num),v4,none,none]) (0 <= num) (SameB b H H4) (BoxAt H4 b (n + 2 + i)):Prop)
def Jr (b:_) (t:_) (r2:_) (num:_) (H4:_):=fun (i:Nat) (σ:St) (H5:Hp)=>(Ex3 fun (v4 v6:Option V) (y:Str)=>An5 (σ = [some (.ref b),some (.ref t),some (.int (1 + r2)),some (.int num),v4,some (.str y),v6]) (1 <= y.length) (y.length <= 8) (jv y) (H5 = H4):Prop)
theorem Y6 {f:Addr} {fd:FuncData} (F:Fun K "_law_name" "_law_name" (zu 23) f fd) (B:Blt mg) (D_take:Dfn P w K mg base "_law_take" 1 ["_law_box_here", "_law_size"] jr) (D_spelled:Dfn P w K mg base "_law_spelled" 1 ["_law_number", "_law_size"] yo):FnOk P w K mg base CX0 2 f fd ["_law_box_here", "_law_taken"] Xn:=by
  have nd:=Ya.nd
  refine F.ok Ya (fun vs H Q E h=>?_) (fun cdv A outer s H vs Q E hr h=>?_)
  · obtain ⟨b,t,n,ts,rfl,_⟩:=h
    rfl
  · obtain ⟨b,t,n,ts,rfl,B0,hn,ntb,ht,htl,k⟩:=h
    have e62:(2:Int) ^ 62 = 4611686018427387904:=by decide
    refine ⟨_,(zf (zv (i:=2) nd rfl (Or.inl rfl) (zr zF ze (zj D_take (hr.mono (by decide)) rfl (za (pv 0) (za (zy zP (zU (za ze (za ze (za ze (za ze zd))))) (zj D_take (hr.mono (by decide)) rfl (za (pv 0) (za ze zd))) (fun _ _=>rfl)) zd)))))
      (zf (zv (i:=3) nd rfl (Or.inl rfl) ze)
      (zf (zQ PassesOwn.never rfl (zI rfl B.range (za (pv 2) zd)) (zt (i:=4) nd rfl (Or.inl rfl))
      (zm (zv (i:=3) nd rfl (Or.inl rfl) (zr zF (zr qQ (pv 3) ze) (zj D_take (hr.mono (by decide)) rfl (za (pv 0) (za ze zd)))))))
      (zf (zv (i:=5) nd rfl (Or.inl rfl) (zj D_spelled (hr.mono (by decide)) rfl (za (pv 3) (za (pv 2) zd))))
      (zf (zQ PassesOwn.never rfl (zI rfl B.range (za (zr zF (zn zB rfl B.len boot_len (za (pv 1) zd)) ze) zd)) (zt (i:=6) nd rfl (Or.inl rfl))
      (zm (j5 (zS wZ (pv 5) (pv 1) (by with_unfolding_all rfl))
        (zm (zv (i:=5) nd rfl (Or.inl rfl) (zj D_spelled (hr.mono (by decide)) rfl (za (zr zF (pv 3) (pv 6)) (za ze zd)))))
        qA)))
      (zm (zC (pv 5)))))))),?_⟩
    refine ⟨_,rfl,le4,fun l hl=>⟨_,rfl,b,4,n,rfl,B0.new hl,by omega,by decide,by decide,fun r H1 r0 r1 B1 S1=>?_⟩⟩
    have L1:=S1 l _ (zc (H:=H)) ((B0.new hl).ne (zc (H:=H) (o:=.lst [.int 3,.int 3,.int 3,.int 8])) (by intro x y z e;cases e))
    have S1':=((SameB.refl b H).new (o:=.lst [.int 3,.int 3,.int 3,.int 8]) hl).trans S1
    obtain ⟨z,ez,z0,z1⟩:=YS r0 r1
    refine ⟨l,_,_,_,rfl,rfl,SqL.of L1,ez,b,z,n + 1,rfl,B1,by omega,by omega,by omega,fun r2 H2 a0 a1 B2 S2=>⟨_,_,rfl,rfl,?_⟩⟩
    have S2':=S1'.trans S2
    refine ⟨_,rfl,_,rfl,(by rw [e62];omega),(by rw [e62];omega),?_⟩
    refine zV (Js b t r2 H n) ⟨0,_,rfl,by decide,S2',B2.mono (by omega)⟩ ?_ ?_
    · rintro i σ H4 hi ⟨num,v4,rfl,m0,S4,B4⟩
      refine ⟨_,rfl,_,_,rfl,rfl,.inr ⟨by decide,by decide⟩,_,rfl,b,26,_,rfl,B4,by omega,by decide,by decide,fun r3 H5 c0 c1 B5 S5=>⟨_,_,rfl,rfl,_,_,rfl,?_,S4.trans S5,B5.mono (by omega)⟩⟩
      omega
    · rintro σ H4 ⟨num,v4,rfl,m0,S4,B4⟩
      refine ⟨_,rfl,_,rfl,num,1 + r2,rfl,m0,by omega,by omega,fun y ly al=>?_⟩
      have ht4:=S4 t _ ht ntb
      have el:(ts.map V.str).length = ts.length:=List.length_map ..
      refine ⟨_,rfl,t,_,rfl,.inl (SqL.of ht4),_,_,rfl,rfl,_,rfl,(by rw [e62,el];omega),(by rw [e62,el];omega),?_⟩
      refine zV (Jr b t r2 num H4) ⟨_,_,y,rfl,by omega,by omega,al,rfl⟩ ?_ ?_
      · rintro i σ H5 hi ⟨v4,v6,y,rfl,y0,y1,al,rfl⟩
        refine ⟨_,rfl,_,rfl,t,_,rfl,.inl (SqL.of ht4),rfl,wQ ts,_,rfl,xP (fun c=>?_) (fun c=>⟨_,_,y,rfl,y0,y1,al,rfl⟩)⟩
        exact ⟨_,rfl,_,rfl,_,_,rfl,rfl,_,8,rfl,by omega,by decide,by decide,fun y' ly' al'=>⟨_,_,y',rfl,by omega,by omega,al',rfl⟩⟩
      · rintro σ H5 ⟨v4,v6,y,rfl,y0,y1,al,rfl⟩
        exact ⟨_,rfl,k y _ S4 (B4.mono (by omega)) y0 y1 al⟩
def Row (H:Hp) (l:Addr) (ns:List Str):Prop:=H l = some (.lst (ns.map V.str)) /\ ∀ x ∈ ns,Nm x
theorem Row.same {H H':Hp} {l:Addr} {ns:List Str} (r:Row H l ns) (s:Same H H'):Row H' l ns:=⟨s _ _ r.1,r.2⟩
theorem Row.draw {H H':Hp} {b l:Addr} {ns:List Str} (r:Row H l ns) (s:SameB b H H') (h:l ≠ b):Row H' l ns:=⟨s _ _ r.1 h,r.2⟩
inductive wV (vs:List V) (H:Hp) (Q:VK):Prop
  | mk (b:Addr) (m n:Int) (_:vs = [.ref b,.int m]) (_:BoxAt H b n) (_:n < 1000000) (_:0 <= m) (_:m <= 12) (_:∀ (l:Addr) (ns:List Str) H',SameB b H H' -> BoxAt H' b (n + 150) -> l ≠ b -> H l = none -> Row H' l ns -> (ns.length:Int) = m -> Q (.ref l) H'):wV  vs H Q
def yq:Sp:=fun vs H Q _=>wV  vs H Q
theorem QM:zx ["_law_box_here", "_law_many", "_law_found", "_law_k"] ["_law_box_here", "_law_many"] (zo (zu 24)):=⟨rfl,rfl,rfl,by decide +kernel,rfl,by decide +kernel,by decide +kernel⟩
def Jq (b:_) (m:_) (l:_) (H:_) (n:_):=fun (i:Nat) (σ:St) (H4:Hp)=>(Ex2 fun (ns:List Str) (v3:Option V)=>An5 (σ = [some (.ref b),some (.int m),some (.ref l),v3]) (SameB b H H4) (BoxAt H4 b (n + 12 * i)) (Row H4 l ns) (ns.length = i):Prop)
theorem Vi {f:Addr} {fd:FuncData} (F:Fun K "_law_names" "_law_names" (zu 24) f fd) (B:Blt mg) (D_name:Dfn P w K mg base "_law_name" 2 ["_law_box_here", "_law_taken"] Xn):FnOk P w K mg base CX0 3 f fd ["_law_box_here", "_law_many"] yq:=by
  have nd:=QM.nd
  refine F.ok QM (fun vs H Q E h=>?_) (fun cdv A outer s H vs Q E hr h=>?_)
  · obtain ⟨b,m,n,rfl,_⟩:=h
    rfl
  · obtain ⟨b,m,n,rfl,B0,hn,m0,m1,k⟩:=h
    have hbig:100000 < sizeLine:=by rw [sizeLine_eq];decide
    have e62:(2:Int) ^ 62 = 4611686018427387904:=by decide
    refine ⟨_,(zf (zv (i:=2) nd rfl (Or.inl rfl) (zU zd))
      (zf (zQ PassesOwn.never rfl (zI rfl B.range (za (pv 1) zd)) (zt (i:=3) nd rfl (Or.inl rfl))
      (zm (qD (xw PySem.F.plainAttrs_list PySem.F.slot_list_append PySem.F.type_list_append qe (pv 2) (za (zj D_name (hr.mono (by decide)) rfl (za (pv 0) (za (pv 2) zd))) zd)))))
      (zm (zC (pv 2))))),?_⟩
    refine ⟨le0,fun l hl=>?_⟩
    have nl:=B0.nne hl
    refine ⟨_,rfl,_,rfl,(by rw [e62];omega),(by rw [e62];omega),?_⟩
    refine zV (Jq b m l H n) ⟨[],_,rfl,(SameB.refl b H).new hl,(B0.new hl).mono (by omega),⟨zc,fun x h=>nomatch h⟩,rfl⟩ ?_ ?_
    · rintro i σ H4 hi ⟨ns,v3,rfl,S4,B4,R4,nsl⟩
      refine ⟨_,rfl,.inl ⟨rfl,_,SqL.of R4.1⟩,_,rfl,_,rfl,b,l,_,ns,rfl,B4,by omega,nl,R4.1,by omega,fun y H5 S5 B5 y0 y1 al=>⟨l,_,_,rfl,rfl,(R4.draw S5 nl).1,by rw [List.length_map,nsl];omega,?_⟩⟩
      refine ⟨ns ++ [y],_,rfl,(S4.trans S5).put hl,(B5.other nl).mono (by omega),⟨by rw [zc,List.map_append];rfl,fun x hx=>?_⟩,by rw [List.length_append,nsl];rfl⟩
      rcases List.mem_append.mp hx with q | q
      · exact R4.2 x q
      · rw [List.mem_singleton.mp q];exact za9 y1 al
    · rintro σ H4 ⟨ns,v3,rfl,S4,B4,R4,nsl⟩
      exact ⟨_,rfl,k l ns H4 S4 (B4.mono (by omega)) nl hl R4 (by omega)⟩
end
section
variable {P:Program} {w:World} {K:PySem.W.Frag} {mg:Str -> Option Value} {base:Heap}
def PlA (H:Hp) (a:Addr):Prop:=∃ x y:Int,H a = some (.tup [.int x,.int y]) /\ 0 <= x /\ x <= 1000 /\ 0 <= y /\ y <= 1000
theorem PlA.imp {H H':Hp} {a:Addr} (h:PlA H a) (f:∀ o,H a = some o -> H' a = some o):PlA H' a:=let ⟨x,y,e,r⟩:=h;⟨x,y,f _ e,r⟩
theorem PlA.draw {H H':Hp} {a b:Addr} {n:Int} (h:PlA H a) (B:BoxAt H b n) (s:SameB b H H'):PlA H' a:=by
  obtain ⟨x,y,e,r⟩:=h
  obtain ⟨b0,b1,b2,eb,_⟩:=B
  exact ⟨x,y,s a _ e (QX e eb (by intro z;cases z)),r⟩
inductive wU (K:PySem.W.Frag) (vs:List V) (H:Hp) (Q:VK):Prop
  | mk (b t:Addr) (n:Int) (as:List Addr) (_:vs = [.ref b,.ref t]) (_:BoxAt H b n) (_:n < 1099511627000) (_:t ≠ b) (_:H t = some (.lst (as.map V.ref))) (_:as.length <= 1000) (_:(∀ a ∈ as,PlA H a)) (_:∀ (p:Addr) H',SameB b H H' -> BoxAt H' b (n + 3) -> H p = none -> PlA H' p -> Q (.ref p) H'):wU K vs H Q
def xo (K:PySem.W.Frag):Sp:=fun vs H Q _=>wU K vs H Q
theorem QL:zx ["_law_box_here", "_law_taken", "_law_most", "_law_x", "_law_y", "_law_turn"] ["_law_box_here", "_law_taken"] (zo (zu 25)):=⟨rfl,rfl,rfl,by decide +kernel,rfl,by decide +kernel,by decide +kernel⟩
def Jp (b:_) (t:_) (y:_) (H:_) (n:_):=fun (i:Nat) (σ:St) (H4:Hp)=>(Ex3 fun (v2 v5:Option V) (x:Int)=>An5 (σ = [some (.ref b),some (.ref t),v2,some (.int x),some (.int y),v5]) (0 <= x) (x <= 1000) (SameB b H H4) (BoxAt H4 b (n + 1 + 1 + 1)):Prop)
theorem Vh {f:Addr} {fd:FuncData} (F:Fun K "_law_place" "_law_place" (zu 25) f fd) (B:Blt mg) (D_take:Dfn P w K mg base "_law_take" 1 ["_law_box_here", "_law_size"] jr):FnOk P w K mg base CX0 2 f fd ["_law_box_here", "_law_taken"] (xo K):=by
  have nd:=QL.nd
  refine F.ok QL (fun vs H Q E h=>?_) (fun cdv A outer s H vs Q E hr h=>?_)
  · obtain ⟨b,t,n,as,rfl,_⟩:=h
    rfl
  · obtain ⟨b,t,n,as,rfl,B0,hn,ntb,ht,hal,pa,k⟩:=h
    have hu64:=hr.units
    have e62:(2:Int) ^ 62 = 4611686018427387904:=by decide
    have el:(as.map V.ref).length = as.length:=List.length_map ..
    refine ⟨_,(zf (zv (i:=2) nd rfl (Or.inl rfl) (jH (zS jf (zj D_take (hr.mono (by decide)) rfl (za (pv 0) (za ze zd))) ze (zJ _)) ze ze))
      (zf (Z5 (i:=3) (j:=4) rfl nd rfl rfl (by decide) rfl rfl (za (zj D_take (hr.mono (by decide)) rfl (za (pv 0) (za (pv 2) zd))) (za (zj D_take (hr.mono (by decide)) rfl (za (pv 0) (za (pv 2) zd))) zd)) (by rfl))
      (zf (zQ PassesOwn.never rfl (zI rfl B.range (za (zr zF (zn zB rfl B.len boot_len (za (pv 1) zd)) ze) zd)) (zt (i:=5) nd rfl (Or.inl rfl))
      (zm (j5 (zS (Wo hu64) (zG (za (pv 3) (za (pv 4) zd))) (pv 1) (by with_unfolding_all rfl))
        (zm (zv (i:=3) nd rfl (Or.inl rfl) (zr qJ (zr zF (pv 3) ze) ze)))
        qA)))
      (zm (zC (zG (za (pv 3) (za (pv 4) zd)))))))),?_⟩
    refine ⟨_,rfl,b,4,n,rfl,B0,by omega,by decide,by decide,fun r H1 r0 r1 B1 S1=>⟨rfl,_,rfl,xP (fun c=>?_) (fun c=>?_)⟩⟩
    all_goals
      refine ⟨_,rfl,_,rfl,b,_,n + 1,rfl,B1,by omega,by decide,by decide,fun x H2 x0 x1 B2 S2=>⟨_,rfl,_,rfl,b,_,n + 1 + 1,rfl,B2,by omega,by decide,by decide,fun y H3 y0 y1 B3 S3=>⟨_,_,rfl,?_⟩⟩⟩
      have S4:=S1.trans (S2.trans S3)
      have ht3:=S4 t _ ht ntb
      refine ⟨_,rfl,t,_,rfl,.inl (SqL.of ht3),_,_,rfl,rfl,_,rfl,(by rw [e62,el];omega),(by rw [e62,el];omega),?_⟩
      refine zV (Jp b t y H n) ⟨_,none,x,rfl,x0,by omega,S4,B3⟩ ?_ ?_
      · rintro i σ H4 _ ⟨v2,v5,x,rfl,x0',x1',S5,B5⟩
        refine ⟨_,rfl,_,rfl,le2,fun p hp=>⟨_,rfl,p,t,_,_,rfl,rfl,SqT.of zc,rfl,SqL.of ((S5.new hp) t _ ht ntb),fun v hv=>?_,fun q=>⟨_,rfl,xP (fun d=>?_) (fun d=>?_)⟩⟩⟩
        · obtain ⟨c,hc,rfl⟩:=List.mem_map.mp hv
          obtain ⟨cx,cy,hcc,_⟩:=(pa c hc).draw B0 (S5.new (o:=.tup [.int x,.int y]) hp)
          exact ⟨c,_,rfl,SqT.of hcc,rfl⟩
        · exact ⟨_,rfl,_,_,rfl,rfl,_,_,rfl,rfl,(by show (0:Int) < 1001;decide),_,_,_,rfl,Int.emod_nonneg _ (by decide),by have:=Int.emod_lt_of_pos (x + 1) (by decide:(0:Int) < 1001);omega,S5.new hp,B5.new hp⟩
        · exact ⟨_,_,x,rfl,x0',x1',S5.new hp,B5.new hp⟩
      · rintro σ H4 ⟨v2,v5,x,rfl,x0',x1',S5,B5⟩
        have B6:BoxAt H4 b (n + 3):=by
          have e:n + 3 = n + 1 + 1 + 1:=by omega
          rw [e];exact B5
        exact ⟨_,rfl,_,rfl,le2,fun p hp=>k p _ (S5.new hp) (B6.new hp) (S5.none hp (B5.nne hp)) ⟨x,y,zc,x0',x1',y0,by omega⟩⟩
inductive vF (vs:List V) (H:Hp) (Q:VK):Prop
  | mk (b:Addr) (m n:Int) (_:vs = [.ref b,.int m]) (_:BoxAt H b n) (_:n < 1000000) (_:0 <= m) (_:m <= 100) (_:∀ (l:Addr) (as:List Addr) H',SameB b H H' -> BoxAt H' b (n + 400) -> l ≠ b -> H l = none -> H' l = some (.lst (as.map V.ref)) -> (∀ a ∈ as,PlA H' a) -> (as.length:Int) = m -> Q (.ref l) H'):vF  vs H Q
def vG:Sp:=fun vs H Q _=>vF  vs H Q
theorem Zi:zx ["_law_box_here", "_law_many", "_law_found", "_law_k"] ["_law_box_here", "_law_many"] (zo (zu 26)):=⟨rfl,rfl,rfl,by decide +kernel,rfl,by decide +kernel,by decide +kernel⟩
def Jo (b:_) (m:_) (l:_) (H:_) (n:_):=fun (i:Nat) (σ:St) (H4:Hp)=>(Ex2 fun (as:List Addr) (v3:Option V)=>An6 (σ = [some (.ref b),some (.int m),some (.ref l),v3]) (SameB b H H4) (BoxAt H4 b (n + 3 * i)) (H4 l = some (.lst (as.map V.ref))) ((∀ a ∈ as,PlA H4 a)) (as.length = i):Prop)
theorem JN {f:Addr} {fd:FuncData} (F:Fun K "_law_places" "_law_places" (zu 26) f fd) (B:Blt mg) (D_place:Dfn P w K mg base "_law_place" 2 ["_law_box_here", "_law_taken"] (xo K)):FnOk P w K mg base CX0 3 f fd ["_law_box_here", "_law_many"] vG:=by
  have nd:=Zi.nd
  refine F.ok Zi (fun vs H Q E h=>?_) (fun cdv A outer s H vs Q E hr h=>?_)
  · obtain ⟨b,m,n,rfl,_⟩:=h
    rfl
  · obtain ⟨b,m,n,rfl,B0,hn,m0,m1,k⟩:=h
    have hbig:100000 < sizeLine:=by rw [sizeLine_eq];decide
    have e62:(2:Int) ^ 62 = 4611686018427387904:=by decide
    refine ⟨_,(zf (zv (i:=2) nd rfl (Or.inl rfl) (zU zd))
      (zf (zQ PassesOwn.never rfl (zI rfl B.range (za (pv 1) zd)) (zt (i:=3) nd rfl (Or.inl rfl))
      (zm (qD (xw PySem.F.plainAttrs_list PySem.F.slot_list_append PySem.F.type_list_append qe (pv 2) (za (zj D_place (hr.mono (by decide)) rfl (za (pv 0) (za (pv 2) zd))) zd)))))
      (zm (zC (pv 2))))),?_⟩
    refine ⟨le0,fun l hl=>?_⟩
    have nl:=B0.nne hl
    refine ⟨_,rfl,_,rfl,(by rw [e62];omega),(by rw [e62];omega),?_⟩
    refine zV (Jo b m l H n) ⟨[],_,rfl,(SameB.refl b H).new hl,(B0.new hl).mono (by omega),zc,(fun x h=>nomatch h),rfl⟩ ?_ ?_
    · rintro i σ H4 hi ⟨as,v3,rfl,S4,B4,L4,P4,asl⟩
      refine ⟨_,rfl,.inl ⟨rfl,_,SqL.of L4⟩,_,rfl,_,rfl,b,l,_,as,rfl,B4,by omega,nl,L4,by omega,P4,fun p H5 S5 B5 pN pp=>⟨l,_,_,rfl,rfl,S5 l _ L4 nl,by rw [List.length_map,asl];omega,?_⟩⟩
      have L5:=S5 l _ L4 nl
      have keep:∀ {a:Addr},PlA H5 a -> PlA (upd H5 l (.lst (as.map V.ref ++ [.ref p]))) a:=fun {a} h=>by
        obtain ⟨x,y,e,r⟩:=h
        exact ⟨x,y,by rw [zi (QX e L5 (by intro z;cases z))];exact e,r⟩
      refine ⟨as ++ [p],_,rfl,(S4.trans S5).put hl,(B5.other nl).mono (by omega),by rw [zc,List.map_append];rfl,fun a ha=>?_,by rw [List.length_append,asl];rfl⟩
      rcases List.mem_append.mp ha with q | q
      · exact keep ((P4 a q).draw B4 S5)
      · rw [List.mem_singleton.mp q];exact keep pp
    · rintro σ H4 ⟨as,v3,rfl,S4,B4,L4,P4,asl⟩
      exact ⟨_,rfl,k l as H4 S4 (B4.mono (by omega)) nl hl L4 P4 (by omega)⟩
inductive Zb (K:PySem.W.Frag) (vs:List V) (H:Hp) (Q:VK):Prop
  | mk (b a:Addr) (n:Int) (xs:List V) (_:vs = [.ref b,.ref a]) (_:BoxAt H b n) (_:n < 1000000) (_:a ≠ b) (_:H a = some (.lst xs)) (_:xs.length <= 1000) (_:∀ (l:Addr) (ys:List V) H',SameB b H H' -> BoxAt H' b (n + xs.length) -> l ≠ b -> H l = none -> H' l = some (.lst ys) -> ys.Perm xs -> Q (.ref l) H'):Zb K vs H Q
def yp (K:PySem.W.Frag):Sp:=fun vs H Q _=>Zb K vs H Q
theorem XA:zx ["_law_box_here", "_law_some", "_law_found", "_law_one"] ["_law_box_here", "_law_some"] (zo (zu 27)):=⟨rfl,rfl,rfl,by decide +kernel,rfl,by decide +kernel,by decide +kernel⟩
def Jn (b:_) (a:_) (l:_) (H:_) (n:_) (xs:List V):=fun (i:Nat) (σ:St) (H4:Hp)=>(Ex2 fun (ys:List V) (v3:Option V)=>An6 (σ = [some (.ref b),some (.ref a),some (.ref l),v3]) (SameB b H H4) (BoxAt H4 b (n + i)) (H4 a = some (.lst xs)) (H4 l = some (.lst ys)) (ys.Perm (xs.take i)):Prop)
theorem Wu {f:Addr} {fd:FuncData} (F:Fun K "_law_shuffled" "_law_shuffled" (zu 27) f fd) (B:Blt mg) (D_take:Dfn P w K mg base "_law_take" 1 ["_law_box_here", "_law_size"] jr):FnOk P w K mg base CX0 2 f fd ["_law_box_here", "_law_some"] (yp K):=by
  have nd:=XA.nd
  refine F.ok XA (fun vs H Q E h=>?_) (fun cdv A outer s H vs Q E hr h=>?_)
  · obtain ⟨b,a,n,xs,rfl,_⟩:=h
    rfl
  · obtain ⟨b,a,n,xs,rfl,B0,hn,nab,ha,hxl,k⟩:=h
    have hbig:100000 < sizeLine:=by rw [sizeLine_eq];decide
    have e62:(2:Int) ^ 62 = 4611686018427387904:=by decide
    refine ⟨_,(zf (zv (i:=2) nd rfl (Or.inl rfl) (zU zd))
      (zf (zQ PassesOwn.never rfl (z6 (pv 1)) (zt (i:=3) nd rfl (Or.inl rfl))
      (zm (qD (xw PySem.F.plainAttrs_list PySem.F.slot_list_insert PySem.F.type_list_insert JR (pv 2) (za (zj D_take (hr.mono (by decide)) rfl (za (pv 0) (za (zr zF (zn zB rfl B.len boot_len (za (pv 2) zd)) ze) zd))) (za (pv 3) zd))))))
      (zm (zC (pv 2))))),?_⟩
    refine ⟨le0,fun l hl=>?_⟩
    have nl:=B0.nne hl
    have nal:a ≠ l:=zg ha hl
    refine ⟨_,rfl,a,rfl,⟨_,SqL.of ((zb hl) _ _ ha)⟩,jh (K:=K) (a:=a) (xs:=xs) (Jn b a l H n xs)
      ⟨[],_,rfl,(SameB.refl b H).new hl,(B0.new hl).mono (by omega),(zb hl) _ _ ha,zc,.nil⟩ (fun i σ H4 _ ⟨_,_,_,_,_,h,_,_⟩=>SqL.of h) ?_ ?_⟩
    · rintro i x σ H4 hx ⟨ys,v3,rfl,S4,B4,A4,L4,pm⟩
      have hi:=(List.getElem?_eq_some_iff.mp hx).1
      have yl:ys.length = i:=by rw [pm.length_eq,List.length_take];omega
      refine ⟨_,rfl,.inl ⟨rfl,_,SqL.of L4⟩,_,rfl,_,rfl,l,_,rfl,.inl (SqL.of L4),_,_,rfl,rfl,b,_,_,rfl,B4,by omega,by omega,by omega,fun q H5 q0 q1 B5 S5=>⟨_,rfl,?_⟩⟩
      refine ⟨l,ys,q,x,rfl,rfl,S5 l _ L4 nl,q0,by rw [e62];omega,by omega,?_⟩
      refine ⟨_,_,rfl,(S4.trans S5).put hl,(B5.other nl).mono (by omega),by rw [zi nal];exact S5 a _ A4 nab,zc,?_⟩
      have e1:xs.take (i + 1) = xs.take i ++ [x]:=by
        obtain ⟨h1,h2⟩:=List.getElem?_eq_some_iff.mp hx
        rw [<- h2,List.take_append_getElem]
      rw [e1]
      refine List.perm_middle.trans ?_
      rw [List.take_append_drop]
      exact ((List.Perm.cons x pm).trans (List.perm_append_singleton x _).symm)
    · rintro σ H4 ⟨ys,v3,rfl,S4,B4,A4,L4,pm⟩
      rw [List.take_length] at pm
      exact ⟨_,rfl,k l ys H4 S4 B4 nl hl L4 pm⟩
end
def SameT (H H':Hp):Prop:=∀ a u,H a = some u -> (∀ xs,u ≠ .lst xs) -> (∀ kvs,u ≠ .dK kvs) -> H' a = some u
theorem SameT.refl (H:Hp):SameT H H:=fun _ _ e _ _=>e
theorem SameT.trans {H H1 H2:Hp} (a:SameT H H1) (b:SameT H1 H2):SameT H H2:=fun c u e h i=>b c u (a c u e h i) h i
theorem SameT.of {H H':Hp} (s:Same H H'):SameT H H':=fun a u e _ _=>s a u e
theorem SameT.draw {H H':Hp} {b:Addr} {n:Int} (B:BoxAt H b n) (s:SameB b H H'):SameT H H':=fun a u e h _=>by
  obtain ⟨b0,b1,b2,eb,_⟩:=B
  exact s a u e (fun z=>by rw [z,eb] at e;cases e;exact h _ rfl)
theorem SameT.put {H:Hp} {l:Addr} {xs ys:List V} (h:H l = some (.lst xs)):SameT H (upd H l (.lst ys)):=fun a u e hu _=>by
  rw [zi (fun z=>by rw [z,h] at e;cases e;exact hu _ rfl)];exact e
theorem SameT.putD {H:Hp} {l:Addr} {kvs:List (Key × V)} {o:HO} (h:H l = some (.dK kvs)):SameT H (upd H l o):=fun a u e _ hu=>by
  rw [zi (fun z=>by rw [z,h] at e;cases e;exact hu _ rfl)];exact e
mutual
def Dat.imm:Dat -> Bool
  | .lst _=>false
  | .tup ds=>Dat.imms ds
  | _=>true
def Dat.imms:List Dat -> Bool
  | []=>true
  | d :: ds=>d.imm && Dat.imms ds
end
section
variable {P:Program} {w:World} {K:PySem.W.Frag} {mg:Str -> Option Value} {base:Heap}
theorem SqT.keep {H H':Hp} {a:Addr} {xs:List V} (q:SqT K H a xs) (s:SameT H H'):SqT K H' a xs:=by
  rcases q with (q | ⟨o,q⟩) | q
  · exact .inl (.inl (s a _ q (fun z h=>nomatch h) (fun z h=>nomatch h)))
  · exact .inl (.inr ⟨o,s a _ q (fun z h=>nomatch h) (fun z h=>nomatch h)⟩)
  · exact .inr q
mutual
theorem Rep.keep {H H':Hp} (s:SameT H H'):∀ {d:Dat} {v:V},d.imm = true -> Rep K H d v -> Rep K H' d v
  | .non,_,_,h=>h
  | .bl _,_,_,h=>h
  | .int _,_,_,h=>h
  | .str _,_,_,h=>h
  | .lst _,_,i,_=>by cases i
  | .tup ds,_,i,h=>by
    obtain ⟨a,xs,e,q,r⟩:=h
    exact ⟨a,xs,e,q.keep s,Reps.keep s (ds:=ds) i r⟩
theorem Reps.keep {H H':Hp} (s:SameT H H'):∀ {ds:List Dat} {xs:List V},Dat.imms ds = true -> Reps K H ds xs -> Reps K H' ds xs
  | [],_,_,h=>h
  | d :: ds,_,i,h=>by
    obtain ⟨x,r,e,h1,h2⟩:=h
    have i':(d.imm && Dat.imms ds) = true:=i
    rw [Bool.and_eq_true] at i'
    exact ⟨x,r,e,Rep.keep s i'.1 h1,Reps.keep s i'.2 h2⟩
end
theorem Reps.snoc {H:Hp} {d:Dat} {v:V} (h:Rep K H d v):∀ {ds:List Dat} {xs:List V},Reps K H ds xs -> Reps K H (ds ++ [d]) (xs ++ [v])
  | [],_,e=>by rw [show _ = _ from e];exact ⟨v,[],rfl,h,rfl⟩
  | _ :: _,_,e=>by
    obtain ⟨x,r,e1,h1,h2⟩:=e
    subst e1
    exact ⟨x,r ++ [v],rfl,h1,Reps.snoc h h2⟩
end
theorem xu {α β:Type} {f:α -> β} {ys ws:List β} (h:ys.Perm ws):∀ {xs:List α},ws = xs.map f -> ∃ zs:List α,zs.Perm xs /\ ys = zs.map f:=by
  induction h with
  | nil=>
    intro xs e
    have:xs = []:=by simpa using e.symm
    exact ⟨[],by rw [this],rfl⟩
  | @cons x l1 l2 p ih=>
    intro xs e
    cases xs with
    | nil=>simp at e
    | cons a as=>
      rw [List.map_cons] at e
      injection e with e1 e2
      obtain ⟨zs,p1,p2⟩:=ih e2
      exact ⟨a :: zs,p1.cons a,by rw [List.map_cons,<- p2,<- e1]⟩
  | swap x y l=>
    intro xs e
    cases xs with
    | nil=>simp at e
    | cons a as=>
      cases as with
      | nil=>simp at e
      | cons c cs=>
        rw [List.map_cons,List.map_cons] at e
        injection e with e1 e2
        injection e2 with e2 e3
        exact ⟨c :: a :: cs,.swap a c cs,by rw [List.map_cons,List.map_cons,<- e1,<- e2,<- e3]⟩
  | trans p q ih1 ih2=>
    intro xs e
    obtain ⟨zs,p1,p2⟩:=ih2 e
    obtain ⟨us,p3,p4⟩:=ih1 p2
    exact ⟨us,p3.trans p1,p4⟩
def jI (p:Nat × Nat):Dat:=.tup [.int p.1,.int p.2]
def vw (as:List (Nat × Nat)):Dat:=.tup (as.map jI)
theorem je:∀ (as:List (Nat × Nat)),Dat.imms (as.map jI) = true
  | []=>rfl
  | p :: as=>by
    show (Dat.imm (jI p) && Dat.imms (as.map jI)) = true
    rw [je as];rfl
def ByOrd (ord:List Nat) (as:List (Nat × Nat)):Prop:=∀ p ∈ as,∃ k l:Nat,k < l /\ ord[k]? = some p.1 /\ ord[l]? = some p.2
section
variable {P:Program} {w:World} {K:PySem.W.Frag} {mg:Str -> Option Value} {base:Heap}
theorem Reps.take {H:Hp}:∀ (n:Nat) {ds:List Dat} {xs:List V},Reps K H ds xs -> Reps K H (ds.take n) (xs.take n)
  | 0,_,_,_=>rfl
  | n + 1,[],_,h=>by rw [show _ = _ from h];exact rfl
  | n + 1,d :: ds,_,h=>by
    obtain ⟨x,r,e,h1,h2⟩:=h
    subst e
    exact ⟨x,r.take n,rfl,h1,Reps.take n h2⟩
theorem Reps.app {H:Hp}:∀ {ds es:List Dat} {xs ys:List V},Reps K H ds xs -> Reps K H es ys -> Reps K H (ds ++ es) (xs ++ ys)
  | [],_,_,_,h,h'=>by rw [show _ = _ from h];exact h'
  | d :: ds,_,_,_,h,h'=>by
    obtain ⟨x,r,e,h1,h2⟩:=h
    subst e
    exact ⟨x,r ++ _,rfl,h1,Reps.app h2 h'⟩
inductive vH (K:PySem.W.Frag) (vs:List V) (H:Hp) (Q:VK):Prop
  | mk (b:Addr) (m n:Int) (_:vs = [.ref b,.int m]) (_:BoxAt H b n) (_:n < 1000000) (_:0 <= m) (_:m <= 100) (_:∀ (p:Addr) (as:List (Nat × Nat)) (ord:List Nat) H',SameB b H H' -> BoxAt H' b (n + 800) -> Rep K H' (vw as) (.ref p) -> ord.Perm (List.range m.toNat) -> ByOrd ord as -> as.length <= 300 -> Q (.ref p) H'):vH K vs H Q
def vI (K:PySem.W.Frag):Sp:=fun vs H Q _=>vH K vs H Q
theorem Zj:zx ["_law_box_here", "_law_many", "_law_order", "_law_found", "_law_turn", "_law_k"] ["_law_box_here", "_law_many"] (zo (zu 29)):=⟨rfl,rfl,rfl,by decide +kernel,rfl,by decide +kernel,by decide +kernel⟩
theorem za0 {m r:Int} (h:0 <= r) (h':r < 4) (m2:2 <= m) (m1:m <= 100):∃ z:Int,atI [V.int 1,V.int 4,V.int 13,V.int (2 * m)] r = some (.int z) /\ 1 <= z /\ z <= 200:=by
  have hc:r = 0 \/ r = 1 \/ r = 2 \/ r = 3:=by omega
  rcases hc with rfl | rfl | rfl | rfl
  · exact ⟨1,rfl,by omega,by omega⟩
  · exact ⟨4,rfl,by omega,by omega⟩
  · exact ⟨13,rfl,by omega,by omega⟩
  · exact ⟨2 * m,rfl,by omega,by omega⟩
theorem Vb {ord:List Nat} {i:Int} (h:0 <= i) (h':i < ord.length):∃ x:Nat,atI (ord.map fun i:Nat=>V.int (i:Int)) i = some (.int (x:Int)) /\ ord[i.toNat]? = some x:=by
  obtain ⟨v,e1,e2⟩:=Qr (xs:=ord.map fun i:Nat=>V.int (i:Int)) h (by rw [List.length_map];exact h')
  rw [List.getElem?_map] at e2
  obtain ⟨x,hx,rfl⟩:=Option.map_eq_some_iff.mp e2
  exact ⟨x,e1,hx⟩
def Jm (b:_) (m:_) (o:_) (R:_) (H:_) (n:_) (ord:_) (K:_):=fun (i:Nat) (σ:St) (H5:Hp)=>(Ex4 fun (as:List (Nat × Nat)) (xs:List V) (v4 v5:Option V)=>An8 (σ = [some (.ref b),some (.int m),some (.ref o),some (.ref R),v4,v5]) (SameB b H H5) (BoxAt H5 b (n + 110 + 2 * i)) (H5 o = some (.lst (ord.map fun i:Nat=>V.int (i:Int)))) (H5 R = some (.lst xs)) (Reps K H5 (as.map jI) xs) (ByOrd ord as) (as.length = i):Prop)
theorem JO {f:Addr} {fd:FuncData} (F:Fun K "_law_aheads" "_law_aheads" (zu 29) f fd) (B:Blt mg) (D_take:Dfn P w K mg base "_law_take" 1 ["_law_box_here", "_law_size"] jr) (D_shuffled:Dfn P w K mg base "_law_shuffled" 2 ["_law_box_here", "_law_some"] (yp K)):FnOk P w K mg base CX0 3 f fd ["_law_box_here", "_law_many"] (vI K):=by
  have nd:=Zj.nd
  refine F.ok Zj (fun vs H Q E h=>?_) (fun cdv A outer s H vs Q E hr h=>?_)
  · obtain ⟨b,m,n,rfl,_⟩:=h
    rfl
  · obtain ⟨b,m,n,rfl,B0,hn,m0,m1,k⟩:=h
    have hbig:100000 < sizeLine:=by rw [sizeLine_eq];decide
    have e62:(2:Int) ^ 62 = 4611686018427387904:=by decide
    refine ⟨_,(zf (Z5 (i:=2) (j:=3) rfl nd rfl rfl (by decide) rfl rfl (za (zj D_shuffled (hr.mono (by decide)) rfl (za (pv 0) (za (yB rfl rfl B.list rfl B.range qO (za (pv 1) zd)) zd))) (za (zU zd) zd)) (by rfl))
      (zf (j5 (zS Yp (pv 1) ze (zJ _))
      (zm (zC (zG zd)))
      qA)
      (zf (zQ PassesOwn.never rfl (zI rfl B.range (za (zj D_take (hr.mono (by decide)) rfl (za (pv 0) (za (zy zP (zU (za ze (za ze (za ze (za (zr qQ ze (pv 1)) zd))))) (zj D_take (hr.mono (by decide)) rfl (za (pv 0) (za ze zd))) (fun _ _=>rfl)) zd))) zd)) (zt (i:=4) nd rfl (Or.inl rfl))
      (zf (zv (i:=5) nd rfl (Or.inl rfl) (zj D_take (hr.mono (by decide)) rfl (za (pv 0) (za (zr jJ (pv 1) ze) zd))))
        (zm (qD (xw PySem.F.plainAttrs_list PySem.F.slot_list_append PySem.F.type_list_append qe (pv 3) (za (zG (za (zy zP (pv 2) (pv 5) (fun _ _=>rfl)) (za (zy zP (pv 2) (zr zF (zr zF (pv 5) ze) (zj D_take (hr.mono (by decide)) rfl (za (pv 0) (za (zr jJ (zr jJ (pv 1) ze) (pv 5)) zd)))) (fun _ _=>rfl)) zd))) zd))))))
      (zm (zC (zM zR rfl B.tuple zY (za (zr Vd (pv 3) (jF yu (pv 3) vm (jT (zM yd rfl B.int wg (za (qE jf (zj D_take (hr.mono (by decide)) rfl (za (pv 0) (za ze zd))) ze (zJ _)) zd))))) zd))))))),?_⟩
    refine ⟨_,rfl,_,rfl,m,rfl,m0,by omega,fun l0 h0=>?_⟩
    have len0:((List.range m.toNat).map fun i:Nat=>V.int (i:Int)).length = m.toNat:=by rw [List.length_map,List.length_range]
    refine ⟨b,l0,n,_,rfl,B0.new h0,by omega,B0.nne h0,zc,by rw [len0];omega,fun o ys H1 S1 B1 no oN ho pm=>⟨le0,fun R hR=>⟨_,_,rfl,?_⟩⟩⟩
    obtain ⟨ord,op,rfl⟩:=xu pm rfl
    have ol:ord.length = m.toNat:=by rw [op.length_eq,List.length_range]
    rw [len0] at B1
    have nR:=B1.nne hR
    have oR:o ≠ R:=zg ho hR
    have S1':=((SameB.refl b H).new h0).trans S1
    have RH:H R = none:=S1'.none hR nR
    have S2:=S1'.new (o:=.lst []) hR
    have B2:=B1.new (o:=.lst []) hR
    have O2:=(zb (o:=.lst []) hR) _ _ ho
    have R2:upd H1 R (.lst []) R = some (.lst []):=zc
    generalize upd H1 R (.lst []) = H2 at S2 B2 O2 R2
    refine ⟨_,rfl,_,_,rfl,rfl,_,rfl,xP (fun c=>?_) (fun c=>?_)⟩
    · exact ⟨le0,fun p hp=>k p [] ord _ (S2.new hp) ((B2.new hp).mono (by omega)) ⟨p,[],rfl,SqT.of zc,rfl⟩ op (fun p h=>nomatch h) (Nat.zero_le _)⟩
    have m2:2 <= m:=by
      have:¬ m < 2:=fun z=>c (decide_eq_true z)
      omega
    refine ⟨_,rfl,_,rfl,_,_,rfl,rfl,.inl ⟨by decide,by decide⟩,le4,fun l1 h1=>⟨_,rfl,b,4,_,rfl,B2.new h1,by omega,by decide,by decide,fun r H3 r0 r1 B3 S3=>?_⟩⟩
    have L3:=S3 l1 _ zc (B2.nne h1)
    obtain ⟨z,ez,z0,z1⟩:=za0 r0 r1 m2 m1
    refine ⟨l1,_,_,_,rfl,rfl,SqL.of L3,ez,b,z,_,rfl,B3,by omega,by omega,by omega,fun cnt H4 c0 c1 B4 S4=>⟨_,rfl,(by rw [e62];omega),(by rw [e62];omega),?_⟩⟩
    have U4:=((SameB.refl b H2).new h1).trans (S3.trans S4)
    have S4':=S2.trans U4
    have O4:=U4 _ _ O2 no
    have R4:=U4 _ _ R2 nR
    clear S2 B2 O2 R2 S3 S4 U4 L3 h1 B3
    refine zV (Jm b m o R H n ord K)
      ⟨[],[],_,_,rfl,S4',B4.mono (by omega),O4,R4,rfl,(fun p h=>nomatch h),rfl⟩ ?_ ?_
    · rintro i σ H5 hi ⟨as,xs,v4,v5,rfl,S5,B5,O5,R5,rp,bo,asl⟩
      have xl:xs.length = i:=by rw [rp.len,List.length_map,asl]
      refine ⟨_,rfl,_,rfl,_,_,rfl,rfl,b,_,_,rfl,B5,by omega,by omega,by omega,fun kk H6 k0 k1 B6 S6=>?_⟩
      have O6:=S6 _ _ O5 no
      obtain ⟨x1,ex1,ox1⟩:=Vb (ord:=ord) k0 (by omega)
      refine ⟨_,rfl,.inl ⟨rfl,_,SqL.of (S6 _ _ R5 nR)⟩,_,rfl,_,rfl,o,_,_,_,rfl,rfl,SqL.of O6,ex1,?_⟩
      refine ⟨_,rfl,_,rfl,_,_,rfl,rfl,_,rfl,_,rfl,_,_,rfl,rfl,_,rfl,_,_,rfl,rfl,b,_,_,rfl,B6,by omega,by omega,by omega,fun q H7 q0 q1 B7 S7=>⟨_,_,rfl,rfl,?_⟩⟩
      have O7:=S7 _ _ O6 no
      have R7:=S7 _ _ (S6 _ _ R5 nR) nR
      obtain ⟨x2,ex2,ox2⟩:=Vb (ord:=ord) (i:=kk + 1 + q) (by omega) (by omega)
      refine ⟨o,_,_,_,rfl,rfl,SqL.of O7,ex2,le2,fun T hT=>⟨R,xs,.ref T,rfl,rfl,(zb hT) _ _ R7,by omega,?_⟩⟩
      have R8:=(zb (o:=.tup [.int (x1:Int),.int (x2:Int)]) hT) _ _ R7
      have st:SameT H5 (upd (upd H7 T (.tup [.int (x1:Int),.int (x2:Int)])) R (.lst (xs ++ [.ref T]))):=((SameT.draw B5 (S6.trans S7)).trans (.of (zb hT))).trans (.put R8)
      refine ⟨as ++ [(x1,x2)],_,_,_,rfl,(((S5.trans S6).trans S7).new hT).put RH,((B7.new hT).other nR).mono (by omega),by rw [zi oR];exact (zb hT) _ _ O7,zc,?_,fun pq hpq=>?_,by rw [List.length_append,asl];rfl⟩
      · rw [List.map_append]
        refine Reps.snoc ?_ (Reps.keep st (je as) rp)
        refine ⟨T,_,rfl,SqT.of ?_,_,_,rfl,rfl,_,_,rfl,rfl,rfl⟩
        rw [zi (fun zz=>by rw [zz,R7] at hT;cases hT)]
        exact zc
      · rcases List.mem_append.mp hpq with w1 | w1
        · exact bo pq w1
        · rw [List.mem_singleton.mp w1]
          exact ⟨kk.toNat,(kk + 1 + q).toNat,by omega,ox1,ox2⟩
    · rintro σ H5 ⟨as,xs,v4,v5,rfl,S5,B5,O5,R5,rp,bo,asl⟩
      have xl:xs.length = as.length:=by rw [rp.len,List.length_map]
      refine ⟨_,rfl,_,rfl,_,rfl,b,4,_,rfl,B5,by omega,by decide,by decide,fun r9 H6 r90 r91 B6 S6=>⟨rfl,.inr ⟨_,rfl,_,rfl,R,xs,rfl,SqL.of (S6 _ _ R5 nR),fun s1 hs1=>?_⟩⟩⟩
      have R6:=S6 _ _ R5 nR
      obtain ⟨t,et⟩:∃ t:Nat,qK xs none (some (if decide (V.int r9 = V.int 0) = true then (1:Int) else 0)) = xs.take t /\ t <= 1:=by
        unfold qK
        by_cases hd:decide (V.int r9 = V.int 0) = true
        · rw [if_pos hd,show (some (1:Int)) = some ((1:Nat):Int) from rfl,HT.sIx_nat,HT.sIx_none]
          refine ⟨min 1 xs.length,by simp,by omega⟩
        · rw [if_neg hd,show (some (0:Int)) = some ((0:Nat):Int) from rfl,HT.sIx_nat,HT.sIx_none]
          refine ⟨0,by simp,by omega⟩
      rw [et.1]
      have st:SameT H5 H6:=.draw B5 S6
      have rp6:=Reps.keep st (je as) rp
      have tl:(xs.take t).length <= 1:=by rw [List.length_take];omega
      refine ⟨R,s1,_,_,rfl,rfl,(zb hs1) _ _ R6,zc,by omega,fun c1 hc1=>⟨c1,_,rfl,.inl ⟨SqL.of zc,fun p hp=>?_⟩⟩⟩
      have sm:=((zb (o:=.lst (xs.take t)) hs1).trans (zb (o:=.lst (xs ++ xs.take t)) hc1)).trans (zb (o:=.tup (xs ++ xs.take t)) hp)
      refine k p (as ++ as.take t) ord _ ((((S5.trans S6).new hs1).new hc1).new hp) ((((B6.new hs1).new hc1).new hp).mono (by omega)) ⟨p,_,rfl,SqT.of zc,?_⟩ op (fun pq hpq=>?_) (by rw [List.length_append,List.length_take];omega)
      · have rp7:=Reps.keep (SameT.of sm) (je as) rp6
        have rt:=Reps.take t rp7
        rw [<- List.map_take] at rt
        have:=Reps.app rp7 rt
        rw [<- List.map_append] at this
        exact this
      · rcases List.mem_append.mp hpq with w1 | w1
        · exact bo pq w1
        · exact bo pq (List.mem_of_mem_take w1)
end
structure xK where
  k:Str
  x:Int
  y:Int
structure jC where
  k:Str
  x:Int
  y:Int
  m:Int
def qw (p:xK):Dat:=.tup [.str p.k,.tup [.int p.x,.int p.y]]
def qX (p:jC):Dat:=.tup [.str p.k,.tup [.int p.x,.int p.y],.int p.m]
theorem jX:∀ (as:List jC),Dat.imms (as.map qX) = true
  | []=>rfl
  | p :: as=>by
    show (Dat.imm (qX p) && Dat.imms (as.map qX)) = true
    rw [jX as];rfl
theorem qN:∀ (as:List xK),Dat.imms (as.map qw) = true
  | []=>rfl
  | p :: as=>by
    show (Dat.imm (qw p) && Dat.imms (as.map qw)) = true
    rw [qN as];rfl
def inP (x y:Int):Prop:=0 <= x /\ x <= 1000 /\ 0 <= y /\ y <= 1000
section
variable {P:Program} {w:World} {K:PySem.W.Frag} {mg:Str -> Option Value} {base:Heap}
inductive Zg (K:PySem.W.Frag) (vs:List V) (H:Hp) (Q:VK):Prop
  | mk (b ks ps:Addr) (pl:Bool) (n:Int) (kinds:List Str) (parts:List xK) (_:vs = [.ref b,.ref ks,.ref ps,.bl pl]) (_:BoxAt H b n) (_:n < 900000) (_:ks ≠ b) (_:Row H ks kinds) (_:1 <= kinds.length) (_:kinds.length <= 12) (_:Rep K H (.tup (parts.map qw)) (.ref ps)) (_:parts.length <= 100) (_:∀ (p:Addr) (fs:List jC) (es:List Str) H',SameB b H H' -> BoxAt H' b (n + 400) -> Rep K H' (.tup (fs.map qX)) (.ref p) -> (fs.map (·.k)).Perm (kinds ++ es) -> (∀ e ∈ es,e ∈ kinds) -> fs.length <= 40 -> (∀ f ∈ fs,Nm f.k /\ inP f.x f.y /\ 0 <= f.m /\ f.m <= 400) -> Q (.ref p) H'):Zg K vs H Q
def Z0 (K:PySem.W.Frag):Sp:=fun vs H Q _=>Zg K vs H Q
theorem XG:zx ["_law_box_here", "_law_kinds", "_law_parts", "_law_plenty", "_law_great", "_law_more", "_law_some", "_law_found", "_law_kind", "_law_need", "_law_many"] ["_law_box_here", "_law_kinds", "_law_parts", "_law_plenty"] (zo (zu 28)):=⟨rfl,rfl,rfl,by decide +kernel,rfl,by decide +kernel,by decide +kernel⟩
theorem Xk {ns:List Str} {i:Int} (h:0 <= i) (h':i < ns.length):∃ x,atI (ns.map V.str) i = some (.str x) /\ x ∈ ns:=by
  obtain ⟨v,e1,e2⟩:=Qr (xs:=ns.map V.str) h (by rw [List.length_map];exact h')
  rw [List.getElem?_map] at e2
  obtain ⟨x,hx,rfl⟩:=Option.map_eq_some_iff.mp e2
  exact ⟨x,e1,List.mem_of_getElem? hx⟩
theorem zaZ {a c r:Int} (h:0 <= r) (h':r < 3) (a0:0 <= a) (a1:a <= 400) (c0:0 <= c) (c1:c <= 400):∃ z:Int,atI [V.int a,V.int c,V.int 400] r = some (.int z) /\ 0 <= z /\ z <= 400:=by
  have hc:r = 0 \/ r = 1 \/ r = 2:=by omega
  rcases hc with rfl | rfl | rfl
  · exact ⟨a,rfl,a0,a1⟩
  · exact ⟨c,rfl,c0,c1⟩
  · exact ⟨400,rfl,by omega,by omega⟩
def Jl (b:_) (ks:_) (ps:_) (pl:_) (r:_) (H:_) (n:_):=fun (σ':St) (H':Hp)=>(Ex1 fun (more:Int)=>An5 (σ' = [some (.ref b),some (.ref ks),some (.ref ps),some (.bl pl),some (.bl (decide (V.int r = V.int 0))),some (.int more),none,none,none,none,none]) (0 <= more) (more <= 20) (SameB b H H') (BoxAt H' b (n + 2)):Prop)
theorem WA {f:Addr} {fd:FuncData} (F:Fun K "_law_feeders" "_law_feeders" (zu 28) f fd) (B:Blt mg) (D_take:Dfn P w K mg base "_law_take" 1 ["_law_box_here", "_law_size"] jr) (D_shuffled:Dfn P w K mg base "_law_shuffled" 2 ["_law_box_here", "_law_some"] (yp K)) (D_place:Dfn P w K mg base "_law_place" 2 ["_law_box_here", "_law_taken"] (xo K)):FnOk P w K mg base CX0 3 f fd ["_law_box_here", "_law_kinds", "_law_parts", "_law_plenty"] (Z0 K):=by
  have nd:=XG.nd
  refine F.ok XG (fun vs H Q E h=>?_) (fun cdv A outer s H vs Q E hr h=>?_)
  · obtain ⟨b,ks,ps,pl,n,kinds,parts,rfl,_⟩:=h
    rfl
  · obtain ⟨b,ks,ps,pl,n,kinds,parts,rfl,B0,hn,nk,Rk,k0,k1,hp,lp,k⟩:=h
    have hbig:100000 < sizeLine:=by rw [sizeLine_eq];decide
    have e62:(2:Int) ^ 62 = 4611686018427387904:=by decide
    have ek:(kinds.map V.str).length = kinds.length:=List.length_map ..
    refine ⟨_,(zf (zv (i:=4) nd rfl (Or.inl rfl) (qE jf (zj D_take (hr.mono (by decide)) rfl (za (pv 0) (za ze zd))) ze (zJ _)))
      (zf (yy (zv (i:=5) nd rfl (Or.inl rfl) (zj D_take (hr.mono (by decide)) rfl (za (pv 0) (za (jH (xf (pv 4)) (zr jJ ze (zn zB rfl B.len boot_len (za (pv 1) zd))) ze) zd)))))
      (zf (zv (i:=6) nd rfl (Or.inl rfl) (zr Vd (pv 1) (jG ["_law_kinds", "_law_box_here"] [1,0] rfl rfl (by kernel_rfl) (zI rfl B.range (za (pv 5) zd)) (fun _ _ _ _=>qc) (fun _ _ _ _=>(zy (ZB (K:=K) rfl) (pv 1) (zj D_take (hr.mono (by decide)) rfl (za (pv 2) (za (zn (j8 (K:=K) rfl) rfl B.len boot_len (za (pv 1) zd)) zd))) (fun _ _=>rfl))))))
      (zf (zv (i:=7) nd rfl (Or.inl rfl) (zU zd))
      (zf (zQ PassesOwn.never rfl (z6 (zj D_shuffled (hr.mono (by decide)) rfl (za (pv 0) (za (pv 6) zd)))) (zt (i:=8) nd rfl (Or.inr rfl))
      (zf (zv (i:=9) nd rfl (Or.inl rfl) (zn zB rfl B.len boot_len (za (jG ["_law_kind"] [8] rfl rfl (by kernel_rfl) (xg (pv 2)) (fun _ _ _ _=>(xM (zS jf (zy (zO (K:=K) rfl) (pv 0) ze (fun _ _=>rfl)) (pv 1) (zJ _)))) (fun _ _ _ _=>(pv 0))) zd)))
        (zf (yy (zv (i:=10) nd rfl (Or.inl rfl) (jH (xf (pv 3)) (zy zP (zU (za (pv 9) (za (zr zF (pv 9) (zj D_take (hr.mono (by decide)) rfl (za (pv 0) (za ze zd)))) (za ze zd)))) (zj D_take (hr.mono (by decide)) rfl (za (pv 0) (za ze zd))) (fun _ _=>rfl)) (zj D_take (hr.mono (by decide)) rfl (za (pv 0) (za ze zd))))))
        (zm (qD (xw PySem.F.plainAttrs_list PySem.F.slot_list_append PySem.F.type_list_append qe (pv 7) (za (zG (za (pv 8) (za (zj D_place (hr.mono (by decide)) rfl (za (pv 0) (za (zU zd) zd))) (za (pv 10) zd)))) zd)))))))
      (zm (zC (zM zR rfl B.tuple zY (za (pv 7) zd))))))))),?_⟩
    refine ⟨_,rfl,b,8,n,rfl,B0,by omega,by decide,by decide,fun r H1 r0 r1 B1 S1=>⟨rfl,?_⟩⟩
    have Rk1:=Rk.draw S1 nk
    refine ⟨Jl b ks ps pl r H n,?_,?_⟩
    · refine ⟨_,rfl,_,rfl,_,rfl,xP (fun c=>?_) (fun c=>?_)⟩
      · exact ⟨_,rfl,ks,_,rfl,.inl (SqL.of Rk1.1),_,_,rfl,rfl,b,_,_,rfl,B1,by omega,by omega,by omega,fun more H2 a0 a1 B2 S2=>⟨_,rfl,a0,by omega,S1.trans S2,B2.mono (by omega)⟩⟩
      · exact ⟨b,4,_,rfl,B1,by omega,by decide,by decide,fun more H2 a0 a1 B2 S2=>⟨_,rfl,a0,by omega,S1.trans S2,B2.mono (by omega)⟩⟩
    rintro σ' H2 ⟨more,rfl,mo0,mo1,S2,B2⟩
    clear S1 B1 Rk1
    have Rk2:=Rk.draw S2 nk
    refine ⟨_,rfl,_,rfl,_,rfl,(by rw [e62];omega),(by rw [e62];omega),Zx (fun j zs H3=>Ex1 fun (es:List Str)=>An5 (zs = es.map V.str) (es.length = j) ((∀ x ∈ es,x ∈ kinds)) (SameB b H2 H3) (BoxAt H3 b (n + 2 + j))) ⟨[],rfl,rfl,(fun x h=>nomatch h),SameB.refl _ _,B2.mono (by omega)⟩ ?_ ?_⟩
    · rintro j zs H3 hj ⟨es,rfl,el,ee,S3,B3⟩
      refine ⟨rfl,⟨_,rfl,_,rfl,_,rfl,ks,_,rfl,.inl (SqL.of (Rk2.draw S3 nk).1),b,_,_,rfl,B3,by omega,by omega,by omega,fun q H4 q0 q1 B4 S4=>?_⟩⟩
      obtain ⟨y,ey,my⟩:=Xk (ns:=kinds) q0 (by omega)
      refine ⟨ks,_,_,_,rfl,rfl,SqL.of (Rk2.draw (S3.trans S4) nk).1,ey,by rw [List.length_map,el];omega,es ++ [y],by rw [List.map_append];rfl,by rw [List.length_append,el];rfl,fun x hx=>?_,S3.trans S4,B4.mono (by omega)⟩
      rcases List.mem_append.mp hx with pq | pq
      · exact ee x pq
      · rw [List.mem_singleton.mp pq];exact my
    rintro zs H3 ⟨es,rfl,el,ee,S3,B3⟩
    refine ⟨by rw [List.length_map,el];omega,fun D hD=>?_⟩
    have S3':=(S2.trans S3).new (o:=.lst (es.map V.str)) hD
    have Rk3:=(Rk2.draw S3 nk).same (zb (o:=.lst (es.map V.str)) hD)
    refine ⟨ks,D,_,_,rfl,rfl,Rk3.1,zc,by rw [ek,List.length_map,el];omega,fun sm hs=>?_⟩
    have B4:=(B3.new (o:=.lst (es.map V.str)) hD).new (o:=.lst (kinds.map V.str ++ es.map V.str)) hs
    have S4:=S3'.new (o:=.lst (kinds.map V.str ++ es.map V.str)) hs
    have ns:=(B3.new (o:=.lst (es.map V.str)) hD).nne hs
    have M4:upd (upd H3 D (.lst (es.map V.str))) sm (.lst (kinds.map V.str ++ es.map V.str)) sm = some (.lst ((kinds ++ es).map V.str)):=by rw [zc,List.map_append]
    generalize upd (upd H3 D (.lst (es.map V.str))) sm (.lst (kinds.map V.str ++ es.map V.str)) = H4 at B4 S4 M4
    clear S2 S3 S3' Rk2 Rk3 B2 B3 hD hs
    refine ⟨le0,fun R hR=>?_⟩
    have nR:=B4.nne hR
    have RH:H R = none:=S4.none hR nR
    have lenk:((kinds ++ es).map V.str).length <= 32:=by rw [List.length_map,List.length_append,el];omega
    refine ⟨_,rfl,_,rfl,b,sm,_,_,rfl,B4.new hR,by omega,ns,(zb hR) _ _ M4,by omega,fun l ys H5 S5 B5 nl lN hl pm=>?_⟩
    obtain ⟨sh,shp,rfl⟩:=xu pm rfl
    have S5':=(S4.new (o:=.lst []) hR).trans S5
    have R5:H5 R = some (.lst []):=S5 _ _ zc nR
    have lR:l ≠ R:=fun z=>by rw [z,zc] at lN;cases lN
    have shl:sh.length <= 32:=by rw [shp.length_eq];rw [List.length_map] at lenk;exact lenk
    have shn:∀ x ∈ sh,Nm x:=fun x hx=>by
      rcases List.mem_append.mp (shp.mem_iff.mp hx) with q | q
      · exact Rk.2 x q
      · exact Rk.2 x (ee x q)
    clear pm M4 S4 S5 B4 hR
    refine ⟨l,rfl,⟨_,SqL.of hl⟩,jh (K:=K) (a:=l) (xs:=sh.map V.str) (fun i σ H6=>Ex6 fun (fs:List jC) (xs:List V) (v6 v8 v9 v10:Option V)=>An8 (σ = [some (.ref b),some (.ref ks),some (.ref ps),some (.bl pl),some (.bl (decide (V.int r = V.int 0))),some (.int more),v6,some (.ref R),v8,v9,v10]) (SameB b H H6) (BoxAt H6 b (n + 60 + 6 * i)) (H6 l = some (.lst (sh.map V.str))) (H6 R = some (.lst xs)) (Reps K H6 (fs.map qX) xs) (fs.map (·.k) = sh.take i) (∀ f ∈ fs,Nm f.k /\ inP f.x f.y /\ 0 <= f.m /\ f.m <= 400))
      ⟨[],[],_,_,_,_,rfl,S5',B5.mono (by omega),hl,R5,rfl,rfl,(fun f h=>nomatch h)⟩ (fun i σ H6 _ ⟨_,_,_,_,_,_,_,_,_,h,_,_,_,_⟩=>SqL.of h) ?_ ?_⟩
    · rintro i x σ H6 hx ⟨fs,xs,v6,v8,v9,v10,rfl,S6,B6,L6,R6,rp,fk,fa⟩
      rw [List.getElem?_map] at hx
      obtain ⟨kd,hkd,rfl⟩:=Option.map_eq_some_iff.mp hx
      have hi:=(List.getElem?_eq_some_iff.mp hkd).1
      have fl:fs.length = i:=by
        have:=congrArg List.length fk
        rw [List.length_map,List.length_take] at this
        omega
      have xl:xs.length = i:=by rw [rp.len,List.length_map,fl]
      have hp6:=Rep.keep (d:=.tup (parts.map qw)) (SameT.draw B0 S6) (qN parts) hp
      obtain ⟨_,pxs,ep,hq,hps⟩:=hp6
      cases ep
      have pl':pxs.length = parts.length:=by rw [hps.len,List.length_map]
      refine ⟨_,rfl,ps,rfl,⟨_,hq⟩,yG (K:=K) (a:=ps) (xs:=pxs) (fun j zs H7=>zs.length <= j /\ Same H6 H7) ⟨Nat.le_refl _,Same.refl _⟩ (fun j zs H7 ⟨_,s7⟩=>s7.sqT hq) ?_ ?_⟩
      · rintro j v zs H7 hv ⟨zl,s7⟩
        have hj:=(List.getElem?_eq_some_iff.mp hv).1
        obtain ⟨d,hd,rd⟩:=hps.get hv
        rw [List.getElem?_map] at hd
        obtain ⟨pt,_,rfl⟩:=Option.map_eq_some_iff.mp hd
        obtain ⟨c,cxs,rfl,hc,u1,r1',e1,e2,e3⟩:=rd
        subst e1
        cases (show u1 = .str pt.k from e2)
        refine ⟨rfl,⟨_,rfl,c,_,_,.str pt.k,rfl,rfl,s7.sqT hc,qZ (j:=0) rfl,_,rfl,rfl,_,rfl,xP (fun dd=>⟨_,rfl,by omega,by rw [List.length_append];simp;omega,s7⟩) (fun dd=>⟨by omega,s7⟩)⟩⟩
      rintro zs H7 ⟨zl,s7⟩
      refine ⟨by omega,fun D2 hD2=>⟨D2,zs,rfl,.inl (SqL.of zc),?_⟩⟩
      have s8:=s7.trans (zb (o:=.lst zs) hD2)
      have B8:=B6.same s8
      generalize upd H7 D2 (.lst zs) = H8 at s8 B8
      refine ⟨fun σ' H'=>Ex1 fun (many:Int)=>An5 (σ' = [some (.ref b),some (.ref ks),some (.ref ps),some (.bl pl),some (.bl (decide (V.int r = V.int 0))),some (.int more),v6,some (.ref R),some (.str kd),some (.int (zs.length:Int)),some (.int many)]) (0 <= many) (many <= 400) (SameB b H8 H') (BoxAt H' b (n + 60 + 6 * i + 2)),?_,?_⟩
      · refine ⟨_,rfl,_,rfl,xP (fun c=>?_) (fun c=>?_)⟩
        · refine ⟨_,rfl,_,rfl,_,rfl,b,9,_,rfl,B8,by omega,by decide,by decide,fun q9 H9 a0 a1 B9 S9=>⟨_,_,rfl,rfl,le3,fun l3 h3=>⟨_,rfl,b,3,_,rfl,B9.new h3,by omega,by decide,by decide,fun q3 H10 c0 c1 B10 S10=>?_⟩⟩⟩
          have L10:=S10 l3 _ zc (B9.nne h3)
          obtain ⟨z,ez,z0,z1⟩:=zaZ (a:=(zs.length:Int)) (c:=(zs.length:Int) + q9) c0 c1 (by omega) (by omega) (by omega) (by omega)
          exact ⟨l3,_,_,_,rfl,rfl,SqL.of L10,ez,z,rfl,z0,z1,(S9.new h3).trans S10,B10.mono (by omega)⟩
        · exact ⟨_,rfl,b,4,_,rfl,B8,by omega,by decide,by decide,fun q9 H9 a0 a1 B9 S9=>⟨q9,rfl,a0,by omega,S9,B9.mono (by omega)⟩⟩
      rintro σ' H9 ⟨many,rfl,y0,y1,S9,B9⟩
      have S9':=(SameB.of (b:=b) s8).trans S9
      have R9:=S9' _ _ R6 nR
      refine ⟨_,rfl,.inl ⟨rfl,_,SqL.of R9⟩,_,rfl,_,rfl,le0,fun e he=>⟨b,e,_,[],rfl,B9.new he,by omega,B9.nne he,zc,Nat.zero_le _,(fun a h=>nomatch h),fun pp H10 S10 B10 ppN pa=>⟨_,rfl,le3,fun T hT=>?_⟩⟩⟩
      obtain ⟨px,py,hpp,b1,b2,b3,b4⟩:=pa
      have R10:=S10 _ _ ((zb he) _ _ R9) nR
      have R11:=(zb (o:=.tup [.str kd,.ref pp,.int many]) hT) _ _ R10
      refine ⟨R,xs,.ref T,rfl,rfl,R11,by omega,?_⟩
      have S11:=(S9'.new he).trans (S10.new (o:=.tup [.str kd,.ref pp,.int many]) hT)
      have st:SameT H6 (upd (upd H10 T (.tup [.str kd,.ref pp,.int many])) R (.lst (xs ++ [.ref T]))):=(SameT.draw B6 S11).trans (.put R11)
      have TR:T ≠ R:=fun z=>by rw [z,R10] at hT;cases hT
      have ppR:pp ≠ R:=fun z=>by rw [z,R10] at hpp;cases hpp
      have ppT:pp ≠ T:=fun z=>by rw [z,hT] at hpp;cases hpp
      refine ⟨fs ++ [⟨kd,px,py,many⟩],_,_,_,_,_,rfl,(S6.trans S11).put RH,((B10.new hT).other nR).mono (by omega),by rw [zi lR];exact S11 _ _ L6 nl,zc,?_,?_,fun g hgm=>?_⟩
      · rw [List.map_append]
        refine Reps.snoc ?_ (Reps.keep st (jX fs) rp)
        refine ⟨T,_,rfl,SqT.of (by rw [zi TR];exact zc),_,_,rfl,rfl,_,_,rfl,⟨pp,_,rfl,SqT.of (by rw [zi ppR,zi ppT];exact hpp),_,_,rfl,rfl,_,_,rfl,rfl,rfl⟩,_,_,rfl,rfl,rfl⟩
      · rw [List.map_append,fk]
        obtain ⟨h1,h2⟩:=List.getElem?_eq_some_iff.mp hkd
        rw [<- List.take_append_getElem h1,h2]
        rfl
      · rcases List.mem_append.mp hgm with q | q
        · exact fa g q
        · rw [List.mem_singleton.mp q]
          exact ⟨shn kd (List.mem_of_getElem? hkd),⟨b1,b2,b3,b4⟩,y0,y1⟩
    · rintro σ H6 ⟨fs,xs,v6,v8,v9,v10,rfl,S6,B6,L6,R6,rp,fk,fa⟩
      rw [List.length_map,List.take_length] at fk
      have fl:fs.length <= 32:=by
        have:=congrArg List.length fk
        rw [List.length_map] at this
        omega
      refine ⟨_,rfl,R,xs,rfl,.inl ⟨SqL.of R6,fun p hp'=>?_⟩⟩
      refine k p fs es _ (S6.new hp') ((B6.new hp').mono (by rw [List.length_map] at *;omega)) ⟨p,_,rfl,SqT.of zc,Reps.keep (SameT.of (zb hp')) (jX fs) rp⟩ (by rw [fk];exact shp) ee (by omega) fa
end
structure Job where
  gx:Int
  gy:Int
  hd:Int
  fs:List jC
  ps:List xK
  as:List (Nat × Nat)
def jx (J:Job):Dat:=.tup [.tup [.int J.gx,.int J.gy],.int J.hd,.tup (J.fs.map qX),.tup (J.ps.map qw),vw J.as]
structure Jg (J:Job) (ord:List Nat):Prop where
  gate:inP J.gx J.gy
  hd0:1 <= J.hd
  hd1:J.hd <= 4
  fl:J.fs.length <= 40
  fa:∀ f ∈ J.fs,Nm f.k /\ inP f.x f.y /\ 0 <= f.m /\ f.m <= 400
  pl:J.ps.length <= 60
  pa:∀ p ∈ J.ps,Nm p.k /\ inP p.x p.y /\ ∃ f ∈ J.fs,f.k = p.k
  op:ord.Perm (List.range J.ps.length)
  bo:ByOrd ord J.as
  al:J.as.length <= 300
  f0:1 <= J.fs.length
theorem Wi {r:Int} (h0:0 <= r) (h1:r < 4):∃ z:Int,atI [V.int 3,V.int 3,V.int 3,V.int 12] r = some (.int z) /\ 3 <= z /\ z <= 12:=by
  have hc:r = 0 \/ r = 1 \/ r = 2 \/ r = 3:=by omega
  rcases hc with rfl | rfl | rfl | rfl
  · exact ⟨3,rfl,by decide,by decide⟩
  · exact ⟨3,rfl,by decide,by decide⟩
  · exact ⟨3,rfl,by decide,by decide⟩
  · exact ⟨12,rfl,by decide,by decide⟩
section
variable {P:Program} {w:World} {K:PySem.W.Frag} {mg:Str -> Option Value} {base:Heap}
inductive QC (K:PySem.W.Frag) (vs:List V) (H:Hp) (Q:VK):Prop
  | mk (b:Addr) (few most n:Int) (pl:Bool) (_:vs = [.ref b,.int few,.int most,.bl pl]) (_:BoxAt H b n) (_:n < 500000) (_:0 <= few) (_:few <= 60) (_:0 <= most) (_:most <= 60) (_:∀ (p:Addr) (J:Job) (ord:List Nat) H',SameB b H H' -> BoxAt H' b (n + 3000) -> Rep K H' (jx J) (.ref p) -> Jg J ord -> Q (.ref p) H'):QC K vs H Q
def Xp (K:PySem.W.Frag):Sp:=fun vs H Q _=>QC K vs H Q
theorem Yc:zx ["_law_box_here", "_law_few", "_law_most", "_law_plenty", "_law_many", "_law_kinds", "_law_parts", "_law_feeders_here"] ["_law_box_here", "_law_few", "_law_most", "_law_plenty"] (zo (zu 30)):=⟨rfl,rfl,rfl,by decide +kernel,rfl,by decide +kernel,by decide +kernel⟩
def Jk (b:_) (few:_) (most:_) (pl:_) (H:_) (n:_):=fun (σ':St) (H':Hp)=>(Ex1 fun (m:Int)=>An5 (σ' = [some (.ref b),some (.int few),some (.int most),some (.bl pl),some (.int m),none,none,none]) (0 <= m) (m <= 60) (SameB b H H') (BoxAt H' b (n + 2)):Prop)
theorem Y8 {f:Addr} {fd:FuncData} (F:Fun K "_law_job" "_law_job" (zu 30) f fd) (B:Blt mg) (D_take:Dfn P w K mg base "_law_take" 1 ["_law_box_here", "_law_size"] jr) (D_names:Dfn P w K mg base "_law_names" 3 ["_law_box_here", "_law_many"] yq) (D_place:Dfn P w K mg base "_law_place" 2 ["_law_box_here", "_law_taken"] (xo K)) (D_places:Dfn P w K mg base "_law_places" 3 ["_law_box_here", "_law_many"] vG)
    (D_feeders:Dfn P w K mg base "_law_feeders" 3 ["_law_box_here", "_law_kinds", "_law_parts", "_law_plenty"] (Z0 K)) (D_aheads:Dfn P w K mg base "_law_aheads" 3 ["_law_box_here", "_law_many"] (vI K)):FnOk P w K mg base CX0 4 f fd ["_law_box_here", "_law_few", "_law_most", "_law_plenty"] (Xp K):=by
  have nd:=Yc.nd
  refine F.ok Yc (fun vs H Q E h=>?_) (fun cdv A outer s H vs Q E hr h=>?_)
  · obtain ⟨b,few,most,n,pl,rfl,_⟩:=h
    rfl
  · obtain ⟨b,few,most,n,pl,rfl,B0,hn,f0,f1,mo0,mo1,k⟩:=h
    have hbig:100000 < sizeLine:=by rw [sizeLine_eq];decide
    refine ⟨_,(zf (yy (zv (i:=4) nd rfl (Or.inl rfl) (zj D_take (hr.mono (by decide)) rfl (za (pv 0) (za (zr zF (jH (zS Yq (zj D_take (hr.mono (by decide)) rfl (za (pv 0) (za ze zd))) ze (zJ _)) (pv 1) (pv 2)) ze) zd)))))
      (zf (zv (i:=5) nd rfl (Or.inr rfl) (zj D_names (hr.mono (by decide)) rfl (za (pv 0) (za (zr zF ze (zj D_take (hr.mono (by decide)) rfl (za (pv 0) (za (zy zP (zU (za ze (za ze (za ze (za ze zd))))) (zj D_take (hr.mono (by decide)) rfl (za (pv 0) (za ze zd))) (fun _ _=>rfl)) zd)))) zd))))
      (zf (zv (i:=6) nd rfl (Or.inl rfl) (zM zR rfl B.tuple zY (za (jG ["_law_kinds", "_law_box_here"] [5,0] rfl rfl (by kernel_rfl) (z6 (zj D_places (hr.mono (by decide)) rfl (za (pv 0) (za (pv 4) zd)))) (fun _ _ _ _=>qc) (fun _ _ _ _=>(zG (za (zy (ZB (K:=K) rfl) (pv 1) (zj D_take (hr.mono (by decide)) rfl (za (pv 2) (za (zn (j8 (K:=K) rfl) rfl B.len boot_len (za (pv 1) zd)) zd))) (fun _ _=>rfl)) (za (pv 0) zd))))) zd)))
      (zf (zv (i:=7) nd rfl (Or.inl rfl) (zj D_feeders (hr.mono (by decide)) rfl (za (pv 0) (za (pv 5) (za (pv 6) (za (pv 3) zd))))))
      (zm (zC (zG (pa5 (zj D_place (hr.mono (by decide)) rfl (za (pv 0) (za (zU zd) zd))) (zr zF ze (zj D_take (hr.mono (by decide)) rfl (za (pv 0) (za ze zd)))) (pv 7) (pv 6) (zj D_aheads (hr.mono (by decide)) rfl (za (pv 0) (za (pv 4) zd))))))))))),?_⟩
    refine ⟨Jk b few most pl H n,?_,?_⟩
    · refine ⟨_,rfl,_,rfl,b,8,n,rfl,B0,by omega,by decide,by decide,fun r H1 r0 r1 B1 S1=>⟨_,_,rfl,rfl,_,rfl,xP (fun c=>⟨_,rfl,_,_,rfl,rfl,?_⟩) (fun c=>⟨_,rfl,_,_,rfl,rfl,?_⟩)⟩⟩
      · exact ⟨b,_,_,rfl,B1,by omega,by omega,by omega,fun m H2 a0 a1 B2 S2=>⟨m,rfl,a0,by omega,S1.trans S2,B2.mono (by omega)⟩⟩
      · exact ⟨b,_,_,rfl,B1,by omega,by omega,by omega,fun m H2 a0 a1 B2 S2=>⟨m,rfl,a0,by omega,S1.trans S2,B2.mono (by omega)⟩⟩
    rintro σ' H2 ⟨m,rfl,m0,m1,S2,B2⟩
    refine ⟨_,rfl,_,rfl,le4,fun l1 h1=>⟨_,rfl,b,4,_,rfl,B2.new h1,by omega,by decide,by decide,fun r H3 r0 r1 B3 S3=>?_⟩⟩
    have L3:=S3 l1 _ zc (B2.nne h1)
    obtain ⟨z,ez,z0,z1⟩:=Wi r0 r1
    refine ⟨l1,_,_,_,rfl,rfl,SqL.of L3,ez,b,z,_,rfl,B3,by omega,by omega,by omega,fun q H4 q0 q1 B4 S4=>⟨_,_,rfl,rfl,b,1 + q,_,rfl,B4,by omega,by omega,by omega,fun ks kinds H5 S5 B5 nk kN Rk kl=>?_⟩⟩
    have S5':=(((S2.new h1).trans S3).trans S4).trans S5
    have ek:(kinds.map V.str).length = kinds.length:=List.length_map ..
    clear S2 S3 S4 S5 B2 B3 B4 L3 h1
    refine ⟨_,rfl,_,rfl,b,m,_,rfl,B5,by omega,m0,by omega,fun l as H6 S6 B6 nl lN hl pa al=>?_⟩
    have Rk6:=Rk.draw S6 nk
    refine ⟨l,rfl,⟨_,SqL.of hl⟩,yH (K:=K) (a:=l) (xs:=as.map V.ref) (fun j zs H7=>Ex1 fun (qs:List xK)=>An5 (Reps K H7 (qs.map qw) zs) (qs.length = j) ((∀ q ∈ qs,q.k ∈ kinds /\ inP q.x q.y)) (SameB b H6 H7) (BoxAt H7 b (n + 700 + j))) ⟨[],rfl,rfl,(fun x h=>nomatch h),SameB.refl _ _,B6.mono (by omega)⟩ (fun j zs H7 ⟨_,_,_,_,s7,_⟩=>SqL.of (s7 _ _ hl nl)) ?_ ?_⟩
    · rintro j x zs H7 hx ⟨qs,rq,ql,qa,S7,B7⟩
      rw [List.getElem?_map] at hx
      obtain ⟨a,ha,rfl⟩:=Option.map_eq_some_iff.mp hx
      have hj:=(List.getElem?_eq_some_iff.mp ha).1
      have zl:zs.length = j:=by rw [rq.len,List.length_map,ql]
      refine ⟨rfl,⟨_,rfl,_,rfl,_,rfl,ks,_,rfl,.inl (SqL.of (Rk6.draw S7 nk).1),b,_,_,rfl,B7,by omega,by omega,by omega,fun q H8 c0 c1 B8 S8=>?_⟩⟩
      obtain ⟨y,ey,my⟩:=Xk (ns:=kinds) c0 (by omega)
      obtain ⟨px,py,hpp,b1,b2,b3,b4⟩:=(pa a (List.mem_of_getElem? ha)).draw B6 (S7.trans S8)
      refine ⟨ks,_,_,_,rfl,rfl,SqL.of (Rk6.draw (S7.trans S8) nk).1,ey,_,rfl,le2,fun T hT=>⟨by omega,qs ++ [⟨y,px,py⟩],?_,by rw [List.length_append,ql];rfl,fun q hq=>?_,(S7.trans S8).new hT,(B8.new hT).mono (by omega)⟩⟩
      · rw [List.map_append]
        have rT:Rep K (upd H8 T (.tup [.str y,.ref a])) (qw ⟨y,px,py⟩) (.ref T):=⟨T,_,rfl,SqT.of zc,_,_,rfl,rfl,_,_,rfl,⟨a,_,rfl,SqT.of ((zb hT) _ _ hpp),_,_,rfl,rfl,_,_,rfl,rfl,rfl⟩,rfl⟩
        exact Reps.snoc rT (Reps.keep ((SameT.draw B7 S8).trans (.of (zb hT))) (qN qs) rq)
      · rcases List.mem_append.mp hq with w1 | w1
        · exact qa q w1
        · rw [List.mem_singleton.mp w1];exact ⟨my,b1,b2,b3,b4⟩
    rintro zs H7 ⟨qs,rq,ql,qa,S7,B7⟩
    rw [List.length_map] at ql
    have B7:BoxAt H7 b (n + 800):=B7.mono (by rw [List.length_map];omega)
    have zl:zs.length = as.length:=by rw [rq.len,List.length_map,ql]
    refine ⟨by omega,fun D hD=>⟨D,zs,rfl,.inl ⟨SqL.of zc,fun ps hps=>?_⟩⟩⟩
    have sm:=(zb (o:=.lst zs) hD).trans (zb (o:=.tup zs) hps)
    have S8:=(S5'.trans S6).trans (S7.trans (SameB.of (b:=b) sm))
    have B8:=B7.same sm
    have Rk8:=(Rk6.draw S7 nk).same sm
    have P8:Rep K (upd (upd H7 D (.lst zs)) ps (.tup zs)) (.tup (qs.map qw)) (.ref ps):=⟨ps,_,rfl,SqT.of zc,Reps.keep (.of sm) (qN qs) rq⟩
    generalize upd (upd H7 D (.lst zs)) ps (.tup zs) = H8 at sm S8 B8 Rk8 P8
    clear S5' S6 S7 B5 B6 B7 Rk Rk6 rq hD hps pa hl
    refine ⟨_,rfl,_,rfl,_,rfl,_,rfl,b,ks,ps,pl,_,kinds,qs,rfl,B8,by omega,nk,Rk8,by omega,by omega,P8,by omega,fun fp fs es H9 S9 B9 F9 fperm ee fl fa=>?_⟩
    have P9:=Rep.keep (d:=.tup (qs.map qw)) (SameT.draw B8 S9) (qN qs) P8
    refine ⟨_,rfl,le0,fun t ht=>⟨b,t,_,[],rfl,B9.new ht,by omega,B9.nne ht,zc,Nat.zero_le _,(fun a h=>nomatch h),fun gp H10 S10 B10 gN ga=>?_⟩⟩
    obtain ⟨gx,gy,hgp,g1,g2,g3,g4⟩:=ga
    refine ⟨_,rfl,b,4,_,rfl,B10,by omega,by decide,by decide,fun hd H11 d0 d1 B11 S11=>⟨_,_,rfl,rfl,_,rfl,_,rfl,_,rfl,_,rfl,b,m,_,rfl,B11,by omega,m0,by omega,fun ap aas ord H12 S12 B12 A12 op bo al2=>⟨leN (by show 5 <= 1000;decide),fun p hp=>?_⟩⟩⟩
    have t9:SameT H9 H12:=((SameT.of (zb ht)).trans (.draw (B9.new ht) S10)).trans ((SameT.draw B10 S11).trans (.draw B11 S12))
    have t10:SameT H10 H12:=(SameT.draw B10 S11).trans (.draw B11 S12)
    have up:Same H12 (upd H12 p (.tup [.ref gp,.int (1 + hd),.ref fp,.ref ps,.ref ap])):=zb hp
    have F12:=Rep.keep (d:=.tup (fs.map qX)) (t9.trans (.of up)) (jX fs) F9
    have P12:=Rep.keep (d:=.tup (qs.map qw)) (t9.trans (.of up)) (qN qs) P9
    have A13:=Rep.keep (d:=vw aas) (.of up) (je aas) A12
    have G12:=(t10.trans (.of up)) gp _ hgp (fun xs h=>nomatch h) (fun xs h=>nomatch h)
    have qlm:qs.length = m.toNat:=by omega
    have fk:∀ kd ∈ kinds,∃ f ∈ fs,f.k = kd:=fun kd hkd=>by
      have:=fperm.mem_iff.mpr (List.mem_append_left es hkd)
      obtain ⟨f,hf,e⟩:=List.mem_map.mp this
      exact ⟨f,hf,e⟩
    refine k p ⟨gx,gy,1 + hd,fs,qs,aas⟩ ord _ (((S8.trans S9).trans ((SameB.of (zb ht)).trans S10)).trans ((S11.trans S12).new hp)) ((B12.new hp).mono (by omega)) ?_ ?_
    · exact ⟨p,_,rfl,SqT.of zc,_,_,rfl,⟨gp,_,rfl,SqT.of G12,_,_,rfl,rfl,_,_,rfl,rfl,rfl⟩,_,_,rfl,rfl,_,_,rfl,F12,_,_,rfl,P12,_,_,rfl,A13,rfl⟩
    · refine ⟨⟨g1,g2,g3,g4⟩,by show 1 <= 1 + hd;omega,by show 1 + hd <= 4;omega,fl,fa,by show qs.length <= 60;omega,fun q hq=>?_,by show ord.Perm (List.range qs.length);rw [qlm];exact op,bo,al2,?_⟩
      · obtain ⟨hk,hi⟩:=qa q hq
        exact ⟨Rk8.2 q.k hk,hi,fk q.k hk⟩
      · have:=fperm.length_eq
        rw [List.length_map,List.length_append] at this
        show 1 <= fs.length
        omega
end
section
variable {P:Program} {w:World} {K:PySem.W.Frag} {mg:Str -> Option Value} {base:Heap}
def prD (p:Int × Int):Dat:=.tup [.int p.1,.int p.2]
inductive wR (K:PySem.W.Frag) (vs:List V) (H:Hp) (Q:VK):Prop
  | mk (t:Addr) (xs:List V) (as:List (Int × Int)) (_:vs = [.ref t]) (_:SqT K H t xs) (_:Reps K H (as.map prD) xs) (_:as.length <= 1000) (_:∀ (l:Addr) (ys:List V) H',Same H H' -> H' l = some (.lst ys) -> Reps K H' (as.map fun p=>prD p.swap) ys -> Q (.ref l) H'):wR K vs H Q
def ym (K:PySem.W.Frag):Sp:=fun vs H Q _=>wR K vs H Q
theorem QI:zx ["pairs"] ["pairs"] (zo (zu 3)):=⟨rfl,rfl,rfl,by decide +kernel,rfl,by decide +kernel,by decide +kernel⟩
theorem Ve {f:Addr} {fd:FuncData} (F:Fun K "turned" "turned" (zu 3) f fd) (B:Blt mg):FnOk P w K mg base CX0 1 f fd ["pairs"] (ym K):=by
  have nd:=QI.nd
  refine F.ok QI (fun vs H Q E h=>?_) (fun cdv A outer s H vs Q E hr h=>?_)
  · obtain ⟨t,xs,as,rfl,_⟩:=h
    rfl
  · obtain ⟨t,xs,as,rfl,ht,rp,la,k⟩:=h
    have hbig:100000 < sizeLine:=by rw [sizeLine_eq];decide
    have lx:=rp.len
    rw [List.length_map] at lx
    refine ⟨_,(zm (zC (Qc [] [] rfl rfl (by kernel_rfl) (xg (pv 0)) (fun _ _ _ _=>qc) (fun _ _ _ _=>(zG (za (pv 1) (za (pv 0) zd))))))),?_⟩
    have l2:∀ x y:V,[x,y].length <= sizeLine:=fun x y=>by rw [sizeLine_eq];show 2 <= _;decide
    refine ⟨_,rfl,t,rfl,⟨_,ht⟩,yG (K:=K) (a:=t) (xs:=xs) (fun i zs H'=>Reps K H' ((as.take i).map fun p=>prD p.swap) zs /\ Same H H') ⟨rfl,Same.refl _⟩ (fun i zs H' ⟨_,sm⟩=>sm.sqT ht) ?_ ?_⟩
    · rintro i x zs H1 hx ⟨rz,sm⟩
      obtain ⟨d,e1,r1⟩:=(rp.same sm).get hx
      rw [List.getElem?_map] at e1
      obtain ⟨p,ep,rfl⟩:=Option.map_eq_some_iff.mp e1
      have hi:i < as.length:=(List.getElem?_eq_some_iff.mp ep).1
      obtain ⟨a,ws,rfl,qa,x1,r1',rfl,e2,x2,r2',rfl,e3,e4⟩:=r1
      cases e2
      cases e3
      cases e4
      refine ⟨a,_,rfl,qa,rfl,_,_,rfl,_,_,rfl,rfl,rfl,?_⟩
      refine ⟨_,rfl,_,rfl,l2 _ _,fun q hq=>⟨?_,?_,sm.trans (zb hq)⟩⟩
      · have:=rz.len
        rw [List.length_map,List.length_take] at this
        omega
      · have e5:as.take (i + 1) = as.take i ++ [p]:=by
          obtain ⟨h1,h2⟩:=List.getElem?_eq_some_iff.mp ep
          rw [<- h2,List.take_append_getElem]
        rw [e5,List.map_append]
        exact Reps.snoc (d:=prD p.swap) ⟨q,_,rfl,SqT.of zc,_,_,rfl,rfl,_,_,rfl,rfl,rfl⟩ (rz.same (zb hq))
    · rintro zs H1 ⟨rz,sm⟩
      rw [lx,List.take_length] at rz
      refine ⟨by have:=rz.len;rw [List.length_map] at this;omega,fun l hl=>k l zs _ (sm.trans (zb hl)) zc (rz.same (zb hl))⟩
end
section
variable {P:Program} {w:World} {K:PySem.W.Frag} {mg:Str -> Option Value} {base:Heap}
def jq (as:List (Int × Int)) (i:Int):List Int:=(as.filter fun p=>decide (p.1 = i)).map (·.2)
structure NB (H0 H:Hp) (kvs:List (Key × V)) (as:List (Int × Int)):Prop where
  at_:∀ i v,zK kvs (Sum.inl i) = some v -> ∃ l,v = .ref l /\ H0 l = none /\ H l = some (.lst ((jq as i).map V.int))
  no:∀ i,zK kvs (Sum.inl i) = none -> jq as i = []
  inj:∀ i j l,zK kvs (Sum.inl i) = some (.ref l) -> zK kvs (Sum.inl j) = some (.ref l) -> i = j
  few:kvs.length <= as.length
theorem jS (as:List (Int × Int)) (x y i:Int):jq (as ++ [(x,y)]) i = jq as i ++ (if x = i then [y] else []):=by
  unfold jq
  rw [List.filter_append,List.map_append]
  congr 1
  by_cases h:x = i <;> simp [h]
theorem V7 (as:List (Int × Int)) (i:Int):(jq as i).length <= as.length:=by
  unfold jq
  rw [List.length_map]
  exact List.length_filter_le _ _
theorem NB.old {H0 H H1:Hp} {kvs:List (Key × V)} {as:List (Int × Int)} {x y:Int} {l:Addr} (n:NB H0 H kvs as) (s:Same H H1) (e:zK kvs (Sum.inl x) = some (.ref l)) :
    NB H0 (upd H1 l (.lst ((jq as x).map V.int ++ [.int y]))) kvs (as ++ [(x,y)]):=by
  refine ⟨fun i v hv=>?_,fun i hv=>?_,n.inj,by rw [List.length_append];have:=n.few;omega⟩
  · obtain ⟨l',rfl,h0,h1⟩:=n.at_ i v hv
    refine ⟨l',rfl,h0,?_⟩
    rw [jS]
    by_cases hx:x = i
    · subst hx
      rw [e] at hv
      cases hv
      rw [zc,if_pos rfl,List.map_append]
      rfl
    · have ne:l' ≠ l:=fun z=>hx (n.inj x i l e (by rw [<- z];exact hv))
      rw [zi ne,if_neg hx,List.append_nil]
      exact s _ _ h1
  · rw [jS,n.no i hv,if_neg (fun z=>by rw [<- z,e] at hv;cases hv)]
    rfl
theorem NB.new {H0 H:Hp} {kvs:List (Key × V)} {as:List (Int × Int)} {x y:Int} {m d:Addr} (n:NB H0 H kvs as) (hm:H m = none) (h0:H0 m = none) (hd:H d = some (.dK kvs)) (e:zK kvs (Sum.inl x) = none) :
    NB H0 (upd (upd (upd H m (.lst [])) d (.dK (qq kvs (Sum.inl x) (.ref m)))) m (.lst ([] ++ [.int y]))) (qq kvs (Sum.inl x) (.ref m)) (as ++ [(x,y)]):=by
  have old:∀ i l,zK kvs (Sum.inl i) = some (.ref l) -> H l = some (.lst ((jq as i).map V.int)) /\ l ≠ m /\ l ≠ d:=fun i l h=>by
    obtain ⟨l',z,_,h1⟩:=n.at_ i _ h
    cases z
    refine ⟨h1,fun z=>?_,fun z=>?_⟩
    · rw [z,hm] at h1;cases h1
    · rw [z,hd] at h1;cases h1
  refine ⟨fun i v hv=>?_,fun i hv=>?_,fun i j l hi hj=>?_,?_⟩
  · rw [vz] at hv
    rw [jS]
    by_cases hx:i = x
    · subst hx
      rw [if_pos rfl] at hv
      cases hv
      refine ⟨m,rfl,h0,?_⟩
      rw [zc,n.no _ e,if_pos rfl]
      rfl
    · rw [if_neg (fun z=>hx (Sum.inl.inj z))] at hv
      obtain ⟨l,rfl,h1,h2⟩:=n.at_ i v hv
      obtain ⟨_,n1,n2⟩:=old i l hv
      refine ⟨l,rfl,h1,?_⟩
      rw [zi n1,zi n2,zi n1,if_neg (Ne.symm hx),List.append_nil]
      exact h2
  · rw [vz] at hv
    by_cases hx:i = x
    · subst hx;rw [if_pos rfl] at hv;cases hv
    · rw [if_neg (fun z=>hx (Sum.inl.inj z))] at hv
      rw [jS,n.no i hv,if_neg (Ne.symm hx)]
      rfl
  · rw [vz] at hi hj
    by_cases h1:i = x <;> by_cases h2:j = x
    · rw [h1,h2]
    · rw [if_pos (by rw [h1])] at hi
      rw [if_neg (fun z=>h2 (Sum.inl.inj z))] at hj
      cases hi
      exact absurd rfl (old j _ hj).2.1
    · rw [if_neg (fun z=>h1 (Sum.inl.inj z))] at hi
      rw [if_pos (by rw [h2])] at hj
      cases hj
      exact absurd rfl (old i _ hi).2.1
    · rw [if_neg (fun z=>h1 (Sum.inl.inj z))] at hi
      rw [if_neg (fun z=>h2 (Sum.inl.inj z))] at hj
      exact n.inj i j l hi hj
  · have:=qh kvs (Sum.inl x) (.ref m)
    have:=n.few
    rw [List.length_append,List.length_singleton]
    omega
inductive Zd (K:PySem.W.Frag) (vs:List V) (H:Hp) (Q:VK):Prop
  | mk (t:Addr) (xs:List V) (as:List (Int × Int)) (_:vs = [.ref t]) (_:(SqL K H t xs \/ SqT K H t xs)) (_:Reps K H (as.map prD) xs) (_:as.length <= 1000) (_:∀ (d:Addr) (kvs:List (Key × V)) H',Same H H' -> H d = none -> H' d = some (.dK kvs) -> NB H H' kvs as -> Q (.ref d) H'):Zd K vs H Q
def ZX (K:PySem.W.Frag):Sp:=fun vs H Q _=>Zd K vs H Q
theorem XD:zx ["pairs", "rows", "one", "other"] ["pairs"] (zo (zu 4)):=⟨rfl,rfl,rfl,by decide +kernel,rfl,by decide +kernel,by decide +kernel⟩
theorem Ww {f:Addr} {fd:FuncData} (F:Fun K "next_by" "next_by" (zu 4) f fd) (B:Blt mg):FnOk P w K mg base CX0 1 f fd ["pairs"] (ZX K):=by
  have nd:=XD.nd
  refine F.ok XD (fun vs H Q E h=>?_) (fun cdv A outer s H vs Q E hr h=>?_)
  · obtain ⟨t,xs,as,rfl,_⟩:=h
    rfl
  · obtain ⟨t,xs,as,rfl,ht,rp,la,k⟩:=h
    have hbig:100000 < sizeLine:=by rw [sizeLine_eq];decide
    have hu1:=ZC hr
    have lx:=rp.len
    rw [List.length_map] at lx
    refine ⟨_,(zf (zv (i:=1) nd rfl (Or.inl rfl) X6)
      (zf (zQ PassesOwn.never rfl (YU (pv 0)) (z9 rfl (zw (zt (i:=2) nd rfl (Or.inl rfl)) (zw (zt (i:=3) nd rfl (Or.inl rfl)) zW)))
      (zm (qD (xw PySem.F.plainAttrs_list PySem.F.slot_list_append PySem.F.type_list_append qe (YZ (pv 1) (pv 2) (zU zd) ⟨rfl,rfl,rfl,rfl⟩) (za (pv 3) zd)))))
      (zm (zC (pv 1))))),?_⟩
    refine fun d hd=>?_
    have e0:NB H (upd H d (.dK [])) [] ([]:List (Int × Int)):=⟨(fun i v z=>nomatch z),(fun _ _=>rfl),(fun i j l z=>nomatch z),Nat.le_refl _⟩
    have s0:Same H (upd H d (.dK [])):=zb hd
    have step:∀ (i:Nat) (x:V) (H1:Hp) (kvs:List (Key × V)),xs[i]? = some x -> H1 d = some (.dK kvs) -> NB H H1 kvs (as.take i) -> Same H H1 -> ∃ (a:Addr) (p:Int × Int),x = .ref a /\ SqT K H1 a [.int p.1,.int p.2] /\ as[i]? = some p /\ i < as.length /\ as.take (i + 1) = as.take i ++ [p]:=fun i x H1 kvs hx _ _ sm=>by
      obtain ⟨dd,e1,r1⟩:=(rp.same sm).get hx
      rw [List.getElem?_map] at e1
      obtain ⟨p,ep,rfl⟩:=Option.map_eq_some_iff.mp e1
      obtain ⟨h1,h2⟩:=List.getElem?_eq_some_iff.mp ep
      obtain ⟨a,ws,rfl,qa,x1,r1',rfl,e2,x2,r2',rfl,e3,e4⟩:=r1
      cases e2
      cases e3
      cases e4
      exact ⟨a,p,rfl,qa,ep,h1,by rw [<- h2,List.take_append_getElem]⟩
    refine ⟨_,rfl,t,rfl,ht.elim (fun hL=>.inl ⟨⟨_,s0.seq hL⟩,jh (K:=K) (a:=t) (xs:=xs) (fun i σ H'=>Ex3 fun (v2 v3:Option V) (kvs:List (Key × V))=>An4 (σ = [some (.ref t),some (.ref d),v2,v3]) (H' d = some (.dK kvs)) (NB H H' kvs (as.take i)) (Same H H'))
      ⟨_,_,[],rfl,zc,e0,s0⟩ (fun i σ H' _ ⟨_,_,_,_,_,_,sm⟩=>sm.seq hL) ?s1 ?e1⟩) (fun hT=>.inr ⟨⟨_,s0.sqT hT⟩,yK (K:=K) (a:=t) (xs:=xs) (fun i σ H'=>Ex3 fun (v2 v3:Option V) (kvs:List (Key × V))=>An4 (σ = [some (.ref t),some (.ref d),v2,v3]) (H' d = some (.dK kvs)) (NB H H' kvs (as.take i)) (Same H H'))
      ⟨_,_,[],rfl,zc,e0,s0⟩ (fun i σ H' _ ⟨_,_,_,_,_,_,sm⟩=>sm.sqT hT) ?s2 ?e2⟩)⟩
    case e1 | e2=>
      rintro σ H1 ⟨v2,v3,kvs,rfl,h1,n1,sm⟩
      rw [lx,List.take_length] at n1
      exact ⟨_,rfl,k d kvs H1 sm hd h1 n1⟩
    case s1 | s2=>
      rintro i x σ H1 hx ⟨v2,v3,kvs,rfl,h1,n1,sm⟩
      obtain ⟨a,p,rfl,qa,ep,hi,et⟩:=step i x H1 kvs hx h1 n1 sm
      rw [et]
      have few:=n1.few
      rw [List.length_take] at few
      refine ⟨a,_,rfl,qa,rfl,_,_,rfl,_,_,rfl,rfl,?_⟩
      refine ⟨_,rfl,d,rfl,.inl ⟨_,.inl h1⟩,_,rfl,le0,fun m hm=>⟨kvs,Sum.inl p.1,(zb (o:=.lst []) hm) _ _ h1,rfl,by omega,fun v hv=>?_,fun hv=>?_⟩⟩
      · obtain ⟨l,rfl,l0,ll⟩:=n1.at_ _ v hv
        have L:=(zb (o:=.lst []) hm) _ _ ll
        have nd:d ≠ l:=fun z=>by rw [<- z,h1] at ll;cases ll
        have sl:=V7 (as.take i) p.1
        rw [List.length_take] at sl
        refine ⟨.inl ⟨rfl,_,SqL.of L⟩,_,rfl,l,_,_,rfl,rfl,L,by rw [List.length_map];omega,?_⟩
        exact ⟨_,_,kvs,rfl,by rw [zi nd];exact (zb (o:=.lst []) hm) _ _ h1,n1.old (zb hm) hv,fun c o e=>by rw [zi (zg e l0)];exact (zb hm) _ _ (sm _ _ e)⟩
      · have nmd:m ≠ d:=fun z=>by rw [z,h1] at hm;cases hm
        have m0:H m = none:=by
          cases z:H m with
          | none=>rfl
          | some o=>rw [sm _ _ z] at hm;cases hm
        have L:upd (upd H1 m (.lst [])) d (.dK (qq kvs (Sum.inl p.1) (.ref m))) m = some (.lst []):=by rw [zi nmd];exact zc
        refine ⟨.inl ⟨rfl,_,SqL.of L⟩,_,rfl,m,_,_,rfl,rfl,L,by show 0 < _;omega,?_⟩
        exact ⟨_,_,_,rfl,by rw [zi (Ne.symm nmd)];exact zc,n1.new hm m0 h1 hv,fun c o e=>by rw [zi (zg e m0),zi (zg e hd),zi (zg e m0)];exact sm _ _ e⟩
end
def Wk (as:List (Int × Int)):Nat -> Int -> Int -> Prop
  | 0,i,j=>i = j
  | n + 1,i,j=>∃ m,(i,m) ∈ as /\ Wk as n m j
section
variable {as:List (Int × Int)}
theorem Wk.snoc:∀ {n:Nat} {i j k:Int},Wk as n i j -> (j,k) ∈ as -> Wk as (n + 1) i k
  | 0,i,j,k,h,e=>by cases (show i = j from h);exact ⟨k,e,rfl⟩
  | n + 1,i,j,k,⟨m,h,h'⟩,e=>⟨m,h,Wk.snoc h' e⟩
theorem Wk.add:∀ {n m:Nat} {i j k:Int},Wk as n i j -> Wk as m j k -> Wk as (n + m) i k
  | 0,m,i,j,k,h,e=>by cases (show i = j from h);rw [Nat.zero_add];exact e
  | n + 1,m,i,j,k,⟨x,h,h'⟩,e=>by rw [Nat.add_right_comm];exact ⟨x,h,Wk.add h' e⟩
theorem Wk.split:∀ {n m:Nat} {i k:Int},Wk as (n + m) i k -> ∃ j,Wk as n i j /\ Wk as m j k
  | 0,m,i,k,h=>by rw [Nat.zero_add] at h;exact ⟨i,rfl,h⟩
  | n + 1,m,i,k,h=>by
    rw [Nat.add_right_comm] at h
    obtain ⟨x,h1,h2⟩:=h
    obtain ⟨j,h3,h4⟩:=Wk.split h2
    exact ⟨j,⟨x,h1,h3⟩,h4⟩
theorem Wk.closed {C:Int -> Prop} (c:∀ x y,C x -> (x,y) ∈ as -> C y):∀ {n:Nat} {i j:Int},C i -> Wk as n i j -> C j
  | 0,i,j,h,e=>by cases (show i = j from e);exact h
  | n + 1,i,j,h,⟨m,e,w⟩=>Wk.closed c (c i m h e) w
theorem Wk.back:∀ {n:Nat} {i j:Int},Wk as n i j -> Wk (as.map Prod.swap) n j i
  | 0,i,j,h=>Eq.symm h
  | n + 1,i,j,⟨m,e,w⟩=>Wk.snoc (Wk.back w) (List.mem_map.mpr ⟨(i,m),e,rfl⟩)
theorem Zu {i j:Int}:j ∈ jq as i ↔ (i,j) ∈ as:=by
  unfold jq
  rw [List.mem_map]
  constructor
  · rintro ⟨⟨a,b⟩,h,rfl⟩
    obtain ⟨h1,h2⟩:=List.mem_filter.mp h
    rw [<- of_decide_eq_true h2]
    exact h1
  · intro h
    exact ⟨(i,j),List.mem_filter.mpr ⟨h,decide_eq_true rfl⟩,rfl⟩
end
theorem wz (as:List (Int × Int)):(as.map Prod.swap).map Prod.swap = as:=by
  rw [List.map_map]
  exact List.map_id'' (fun _=>rfl) as
def dkI (ps:List (Int × Int)):List (Key × V):=ps.map fun p=>(Sum.inl p.1,V.int p.2)
theorem Q8 (ps:List (Int × Int)):(dkI ps).length = ps.length:=List.length_map _
theorem yM:∀ (ps:List (Int × Int)) (i:Int),(∃ v,zK (dkI ps) (Sum.inl i) = some (.int v) /\ i ∈ ps.map (·.1)) \/ (zK (dkI ps) (Sum.inl i) = none /\ i ∉ ps.map (·.1))
  | [],i=>.inr ⟨rfl,by simp⟩
  | p :: ps,i=>by
    by_cases h:p.1 = i
    · exact .inl ⟨p.2,zT (by show Sum.inl p.1 = _;rw [h]),by simp [h]⟩
    · have e:zK (dkI (p :: ps)) (Sum.inl i) = zK (dkI ps) (Sum.inl i):=zZ (fun z=>h (Sum.inl.inj z))
      rcases yM ps i with ⟨v,h1,h2⟩ | ⟨h1,h2⟩
      · exact .inl ⟨v,e.trans h1,by simp only [List.map_cons,List.mem_cons];exact .inr h2⟩
      · exact .inr ⟨e.trans h1,by simp only [List.map_cons,List.mem_cons];rintro (z | z);exact h z.symm;exact h2 z⟩
theorem WS {ps:List (Int × Int)} {i v:Int} (h:zK (dkI ps) (Sum.inl i) = none):qq (dkI ps) (Sum.inl i) (.int v) = dkI (ps ++ [(i,v)]):=by
  rw [XT _ h]
  unfold dkI
  rw [List.map_append]
  rfl
theorem w4 {α:Type} [DecidableEq α]:∀ {l m:List α},l.Nodup -> (∀ x ∈ l,x ∈ m) -> l.length <= m.length
  | [],_,_,_=>Nat.zero_le _
  | x :: l,m,h,s=>by
    have hx:=s x (by simp)
    have h':=List.nodup_cons.mp h
    have:=w4 (l:=l) (m:=m.erase x) h'.2 fun y hy=>(List.mem_erase_of_ne (fun e:y = x=>h'.1 (e ▸ hy))).mpr (s y (List.mem_cons_of_mem _ hy))
    rw [List.length_erase_of_mem hx] at this
    have:=List.length_pos_of_mem hx
    rw [List.length_cons];omega
def InN (n:Nat) (i:Int):Prop:=0 <= i /\ i < n
theorem vQ {n:Nat} {l:List Int} (h:l.Nodup) (s:∀ x ∈ l,InN n x):l.length <= n:=by
  have:=w4 (m:=(List.range n).map fun k:Nat=>(k:Int)) h fun x hx=>by
    obtain ⟨h0,h1⟩:=s x hx
    exact List.mem_map.mpr ⟨x.toNat,List.mem_range.mpr (by omega),by omega⟩
  rwa [List.length_map,List.length_range] at this
theorem Qf {α:Type} {l:List α} {x:α} (h:l.Nodup) (hx:x ∉ l):(l ++ [x]).Nodup:=by
  rw [List.nodup_append]
  exact ⟨h,by simp,fun a ha b hb e=>hx (by rw [List.mem_singleton] at hb;rw [<- hb,<- e];exact ha)⟩
structure RowsOk (H:Hp) (rk:List (Key × V)) (as:List (Int × Int)):Prop where
  at_:∀ i v,zK rk (Sum.inl i) = some v -> ∃ l,v = .ref l /\ H l = some (.lst ((jq as i).map V.int))
  no:∀ i,zK rk (Sum.inl i) = none -> jq as i = []
theorem RowsOk.same {H H':Hp} {rk:List (Key × V)} {as:List (Int × Int)} (r:RowsOk H rk as) (s:Same H H'):RowsOk H' rk as:=⟨fun i v e=>let ⟨l,a,b⟩:=r.at_ i v e;⟨l,a,s _ _ b⟩,r.no⟩
def WSt (H:Hp) (as:List (Int × Int)) (n:Nat) (s:Int) (r d:Addr) (m:Nat) (σ:St) (H':Hp):Prop:=
  ∃ (e:Addr) (es:List Int) (ps:List (Int × Int)) (v4 v5 v6:Option V),σ = [some (.int s),some (.ref r),some (.ref d),some (.ref e),v4,v5,v6] /\ H e = none /\ e ≠ d /\ H' e = some (.lst (es.map V.int)) /\ H' d = some (.dK (dkI ps)) /\ Same H H' /\
    (ps.map (·.1)).Nodup /\ (∀ j ∈ ps.map (·.1),∃ k,Wk as k s j) /\ s ∈ ps.map (·.1) /\ (∀ j ∈ es,j ∈ ps.map (·.1)) /\ (∀ x ∈ ps.map (·.1),x ∉ es -> ∀ y,(x,y) ∈ as -> y ∈ ps.map (·.1)) /\ es.length <= 60 /\ m = 2 * (n - ps.length) + (if es = [] then 0 else 1)
structure RSt (as:List (Int × Int)) (s:Int) (d l:Addr) (ps:List (Int × Int)) (H H':Hp) (qs:List (Int × Int)) (rs:List Int):Prop where
  hd:H' d = some (.dK (dkI qs))
  hl:H' l = some (.lst (rs.map V.int))
  sm:Same H H'
  nd:(qs.map (·.1)).Nodup
  snd:∀ j ∈ qs.map (·.1),∃ k,Wk as k s j
  eq:qs.map (·.1) = ps.map (·.1) ++ rs
section
variable {P:Program} {w:World} {K:PySem.W.Frag} {mg:Str -> Option Value} {base:Heap}
inductive wS (K:PySem.W.Frag) (vs:List V) (H:Hp) (Q:VK):Prop
  | mk (s:Int) (r:Addr) (rk:List (Key × V)) (as:List (Int × Int)) (n:Nat) (_:vs = [.int s,.ref r]) (_:H r = some (.dK rk)) (_:RowsOk H rk as) (_:n <= 60) (_:InN n s) (_:(∀ p ∈ as,InN n p.2)) (_:as.length <= 1000) (_:∀ (d:Addr) (ps:List (Int × Int)) H',Same H H' -> H d = none -> H' d = some (.dK (dkI ps)) -> (ps.map (·.1)).Nodup -> ps.length <= n -> (∀ j,j ∈ ps.map (·.1) ↔ ∃ k,Wk as k s j) -> Q (.ref d) H'):wS K vs H Q
def yn (K:PySem.W.Frag):Sp:=fun vs H Q _=>wS K vs H Q
theorem QJ:zx ["start", "rows", "steps", "edge", "reached", "part", "other"] ["start", "rows"] (zo (zu 5)):=⟨rfl,rfl,rfl,by decide +kernel,rfl,by decide +kernel,by decide +kernel⟩
theorem Vf {f:Addr} {fd:FuncData} (F:Fun K "steps_from" "steps_from" (zu 5) f fd) (B:Blt mg):FnOk P w K mg base CX0 1 f fd ["start", "rows"] (yn K):=by
  have nd:=QJ.nd
  refine F.ok QJ (fun vs H Q E h=>?_) (fun cdv A outer s H vs Q E hr h=>?_)
  · obtain ⟨s,r,rk,as,n,rfl,_⟩:=h
    rfl
  · obtain ⟨s,r,rk,as,n,rfl,hR,ro,n60,ins,ina,al,k⟩:=h
    have hbig:100000 < sizeLine:=by rw [sizeLine_eq];decide
    have hu1:=ZC hr
    refine ⟨_,(zf (zv (i:=2) nd rfl (Or.inl rfl) (Wm (Zn (pv 0) ze QR) rfl rfl (by intro z;cases z) (by show 1 <= 15;decide)))
      (zf (zv (i:=3) nd rfl (Or.inl rfl) (zU (za (pv 0) zd)))
      (zf (XV PassesOwn.never (Wf (pv 3))
      (zf (zv (i:=4) nd rfl (Or.inl rfl) (zU zd))
        (zf (zQ PassesOwn.never rfl (z6 (pv 3)) (zt (i:=5) nd rfl (Or.inl rfl))
        (zm (zQ PassesOwn.never rfl (z6 (X9 hu1 (pv 1) (pv 5) (zU zd) ⟨rfl,rfl,rfl,rfl⟩)) (zt (i:=6) nd rfl (Or.inl rfl))
          (zm (j5 (YQ (JM hu1 (pv 6) (pv 2)))
            (zf (Wg hu1 (pv 2) (pv 6) (zr zF (yC hu1 (pv 2) (pv 5) (fun _ _=>rfl)) ze) rfl)
              (zm (qD (xw PySem.F.plainAttrs_list PySem.F.slot_list_append PySem.F.type_list_append qe (pv 4) (za (pv 6) zd)))))
            qA)))))
        (zm (zv (i:=3) nd rfl (Or.inl rfl) (pv 4))))))
      (zm (zC (pv 2)))))),?_⟩
    refine fun d hd=>⟨_,rfl,zc,[(Sum.inl s,.int 0)],rfl,(by show 1 <= 15;decide),_,rfl,le1,fun e he=>?_⟩
    have ed:e ≠ d:=fun z=>by rw [z,zc] at he;cases he
    have e0:H e = none:=by rw [zi ed,zi ed] at he;exact he
    have s0:Same H (upd (upd (upd H d (.dK [])) d (.dK (ju [] [(Sum.inl s,V.int 0)]))) e (.lst [.int s])):=fun c o z=>by rw [zi (zg z e0),zi (zg z hd),zi (zg z hd)];exact z
    have dd0:(upd (upd (upd H d (.dK [])) d (.dK (ju [] [(Sum.inl s,V.int 0)]))) e (.lst [.int s])) d = some (.dK (dkI [(s,0)])):=by rw [zi (Ne.symm ed),zc];rfl
    have ee0:(upd (upd (upd H d (.dK [])) d (.dK (ju [] [(Sum.inl s,V.int 0)]))) e (.lst [.int s])) e = some (.lst ([s].map V.int)):=zc
    generalize upd (upd (upd H d (.dK [])) d (.dK (ju [] [(Sum.inl s,V.int 0)]))) e (.lst [.int s]) = H1 at s0 dd0 ee0
    refine ⟨WSt H as n s r d,⟨_,e,[s],[(s,0)],_,_,_,rfl,e0,ed,ee0,dd0,s0,by simp,fun j hj=>⟨0,by simp at hj;exact hj.symm⟩,by simp,by simp,fun x hx hn=>absurd hx (by simpa using hn),by simp,rfl⟩,?_⟩
    rintro m σ H2 ⟨e,es,ps,v4,v5,v6,rfl,en,ned,he2,hd2,s2,nd2,snd,hs2,sub2,cl2,el,rfl⟩
    have inn:∀ j ∈ ps.map (·.1),InN n j:=fun j hj=>by
      obtain ⟨k,wk⟩:=snd j hj
      exact Wk.closed (C:=InN n) (fun x y _ h=>ina _ h) ins wk
    have pl:ps.length <= n:=by have:=vQ nd2 inn;rwa [List.length_map] at this
    refine ⟨_,rfl,e,_,rfl,SqL.of he2,?_⟩
    cases es with
    | nil=>
      refine ifF (by rfl) ?_
      refine ⟨_,rfl,k d ps H2 s2 hd hd2 nd2 pl fun j=>⟨snd j,fun ⟨k,wk⟩=>Wk.closed (C:=fun j=>j ∈ ps.map (·.1)) (fun x y hx h=>cl2 x hx (by simp) y h) hs2 wk⟩⟩
    | cons e1 er=>
      refine ifT (by rfl) ?_
      refine ⟨fun σ' H'=>∃ m',m' < 2 * (n - ps.length) + (if e1 :: er = [] then 0 else 1) /\ WSt H as n s r d m' σ' H',fun _ _ h=>h,?_⟩
      refine ⟨le0,fun l hl=>?_⟩
      have lH:H l = none:=by
        cases z:H l with
        | none=>rfl
        | some o=>rw [s2 _ _ z] at hl;cases hl
      have ld:l ≠ d:=fun z=>by rw [z,hd2] at hl;cases hl
      have le:l ≠ e:=fun z=>by rw [z,he2] at hl;cases hl
      refine ⟨_,rfl,e,rfl,⟨_,SqL.of ((zb hl) _ _ he2)⟩,jh (K:=K) (a:=e) (xs:=(e1 :: er).map V.int) (fun i σ H'=>Ex4 fun (v5 v6:Option V) (qs:List (Int × Int)) (rs:List Int)=>An4 (σ = [some (.int s),some (.ref r),some (.ref d),some (.ref e),some (.ref l),v5,v6]) (H' e = some (.lst ((e1 :: er).map V.int))) (RSt as s d l ps H H' qs rs) ((∀ x ∈ (e1 :: er).take i,∀ y,(x,y) ∈ as -> y ∈ qs.map (·.1))))
        ⟨_,_,ps,[],rfl,(zb hl) _ _ he2,⟨(zb hl) _ _ hd2,zc,s2.trans (zb hl),nd2,snd,by simp⟩,by simp⟩ (fun i σ H' _ ⟨_,_,_,_,_,h,_,_⟩=>SqL.of h) ?_ ?_⟩
      · rintro i x σ H3 hx ⟨v5,v6,qs,rs,rfl,he3,R3,cl3⟩
        rw [List.getElem?_map] at hx
        obtain ⟨x,ex,rfl⟩:=Option.map_eq_some_iff.mp hx
        have et:(e1 :: er).take (i + 1) = (e1 :: er).take i ++ [x]:=by
          obtain ⟨h1,h2⟩:=List.getElem?_eq_some_iff.mp ex
          rw [<- h2,List.take_append_getElem]
        have xk:x ∈ ps.map (·.1):=sub2 x (List.mem_of_getElem? ex)
        have xq:x ∈ qs.map (·.1):=by rw [R3.eq];exact List.mem_append_left _ xk
        refine ⟨_,rfl,r,rfl,.inl ⟨_,.inl (R3.sm _ _ hR)⟩,_,rfl,le0,fun q hq=>?_⟩
        have sq:=zb (H:=H3) (o:=.lst []) hq
        have qd:q ≠ d:=fun z=>by rw [z,R3.hd] at hq;cases hq
        have ql:q ≠ l:=fun z=>by rw [z,R3.hl] at hq;cases hq
        refine ⟨_,.inl ⟨rk,Sum.inl x,.inl (sq _ _ (R3.sm _ _ hR)),rfl,rfl⟩,?_⟩
        have tt:∃ t,(zK rk (Sum.inl x)).getD (.ref q) = .ref t /\ upd H3 q (.lst []) t = some (.lst ((jq as x).map V.int)) /\ t ≠ d /\ t ≠ l:=by
          cases z:zK rk (Sum.inl x) with
          | none=>exact ⟨q,rfl,by rw [ro.no x z];exact zc,qd,ql⟩
          | some v=>
            obtain ⟨t,rfl,ht⟩:=ro.at_ x v z
            exact ⟨t,rfl,sq _ _ (R3.sm _ _ ht),zg ht hd,zg ht lH⟩
        obtain ⟨t,etq,ht,td,tl⟩:=tt
        rw [etq]
        refine ⟨t,rfl,⟨_,SqL.of ht⟩,jh (K:=K) (a:=t) (xs:=(jq as x).map V.int) (fun k σ H'=>Ex3 fun (v6:Option V) (qs:List (Int × Int)) (rs:List Int)=>An6 (σ = [some (.int s),some (.ref r),some (.ref d),some (.ref e),some (.ref l),some (.int x),v6]) (H' e = some (.lst ((e1 :: er).map V.int))) (H' t = some (.lst ((jq as x).map V.int))) (RSt as s d l ps H H' qs rs) ((∀ x ∈ (e1 :: er).take i,∀ y,(x,y) ∈ as -> y ∈ qs.map (·.1))) (∀ y ∈ (jq as x).take k,y ∈ qs.map (·.1)))
          ⟨_,qs,rs,rfl,sq _ _ he3,ht,⟨sq _ _ R3.hd,sq _ _ R3.hl,R3.sm.trans sq,R3.nd,R3.snd,R3.eq⟩,cl3,by simp⟩ (fun i σ H' _ ⟨_,_,_,_,_,h,_,_,_⟩=>SqL.of h) ?_ ?_⟩
        · rintro j y σ H4 hy ⟨v6,qs,rs,rfl,he4,ht4,R4,cl4,dn4⟩
          rw [List.getElem?_map] at hy
          obtain ⟨y,ey,rfl⟩:=Option.map_eq_some_iff.mp hy
          have ety:(jq as x).take (j + 1) = (jq as x).take j ++ [y]:=by
            obtain ⟨h1,h2⟩:=List.getElem?_eq_some_iff.mp ey
            rw [<- h2,List.take_append_getElem]
          have xy:(x,y) ∈ as:=Zu.mp (List.mem_of_getElem? ey)
          have xk4:x ∈ qs.map (·.1):=by rw [R4.eq];exact List.mem_append_left _ xk
          refine ⟨_,rfl,_,rfl,d,_,rfl,.inl ⟨_,Sum.inl y,.inl R4.hd,rfl,rfl⟩,?_⟩
          rcases yM qs y with ⟨v,hv,my⟩ | ⟨hv,my⟩
          · rw [hv]
            refine ⟨_,rfl,ifF (by rfl) ?_⟩
            refine ⟨_,qs,rs,rfl,he4,ht4,R4,cl4,fun z hz=>?_⟩
            rw [ety] at hz
            rcases List.mem_append.mp hz with h | h
            · exact dn4 z h
            · rw [List.mem_singleton.mp h];exact my
          · rw [hv]
            refine ⟨_,rfl,ifT (by rfl) ?_⟩
            rcases yM qs x with ⟨vx,hvx,_⟩ | ⟨_,z⟩
            · have inq:∀ j ∈ qs.map (·.1),InN n j:=fun j hj=>by
                obtain ⟨k,wk⟩:=R4.snd j hj
                exact Wk.closed (C:=InN n) (fun x y _ h=>ina _ h) ins wk
              have ql:qs.length <= n:=by have:=vQ R4.nd inq;rwa [List.length_map] at this
              have lq:qs.length = ps.length + rs.length:=by
                have:=congrArg List.length R4.eq
                rwa [List.length_append,List.length_map,List.length_map] at this
              refine ⟨_,rfl,_,rfl,d,_,rfl,.inl ⟨_,Sum.inl x,.inl R4.hd,rfl,hvx.symm⟩,_,_,rfl,rfl,_,rfl,_,rfl,d,_,rfl,.inl ⟨_,Sum.inl y,R4.hd,rfl,by rw [Q8];omega,rfl⟩,?_⟩
              rw [WS hv]
              have H5l:upd H4 d (.dK (dkI (qs ++ [(y,vx + 1)]))) l = some (.lst (rs.map V.int)):=by rw [zi ld];exact R4.hl
              refine ⟨_,rfl,.inl ⟨rfl,_,SqL.of H5l⟩,_,rfl,l,_,_,rfl,rfl,H5l,by rw [List.length_map];omega,?_⟩
              refine ⟨_,qs ++ [(y,vx + 1)],rs ++ [y],rfl,by rw [zi (Ne.symm le),zi ned];exact he4,by rw [zi tl,zi td];exact ht4,⟨by rw [zi (Ne.symm ld)];exact zc,by rw [zc,List.map_append];rfl,fun c o z=>by rw [zi (zg z lH),zi (zg z hd)];exact R4.sm _ _ z,?_,?_,by rw [List.map_append,R4.eq,List.append_assoc];rfl⟩,fun z hz u hu=>?_,fun z hz=>?_⟩
              · rw [List.map_append]
                exact Qf R4.nd my
              · intro z hz
                rw [List.map_append] at hz
                rcases List.mem_append.mp hz with h | h
                · exact R4.snd z h
                · obtain ⟨k,wk⟩:=R4.snd x xk4
                  rw [List.mem_singleton.mp h]
                  exact ⟨k + 1,wk.snoc xy⟩
              · rw [List.map_append]
                exact List.mem_append_left _ (cl4 z hz u hu)
              · rw [ety] at hz
                rw [List.map_append]
                rcases List.mem_append.mp hz with h | h
                · exact List.mem_append_left _ (dn4 z h)
                · exact List.mem_append_right _ h
            · exact absurd xk4 z
        · rintro σ H4 ⟨v6,qs,rs,rfl,he4,ht4,R4,cl4,dn4⟩
          rw [List.length_map,List.take_length] at dn4
          refine ⟨_,_,qs,rs,rfl,he4,R4,fun z hz y hy=>?_⟩
          rw [et] at hz
          rcases List.mem_append.mp hz with h | h
          · exact cl4 z h y hy
          · rw [List.mem_singleton.mp h] at hy
            exact dn4 y (Zu.mpr hy)
      · rintro σ H3 ⟨v5,v6,qs,rs,rfl,he3,R3,cl3⟩
        rw [List.length_map,List.take_length] at cl3
        have inq:∀ j ∈ qs.map (·.1),InN n j:=fun j hj=>by
          obtain ⟨k,wk⟩:=R3.snd j hj
          exact Wk.closed (C:=InN n) (fun x y _ h=>ina _ h) ins wk
        have ql:qs.length <= n:=by have:=vQ R3.nd inq;rwa [List.length_map] at this
        have lq:qs.length = ps.length + rs.length:=by
          have:=congrArg List.length R3.eq
          rwa [List.length_append,List.length_map,List.length_map] at this
        refine ⟨_,rfl,2 * (n - qs.length) + (if rs = [] then 0 else 1),?_,l,rs,qs,_,_,_,rfl,lH,ld,R3.hl,R3.hd,R3.sm,R3.nd,R3.snd,by rw [R3.eq];exact List.mem_append_left _ hs2,fun j hj=>by rw [R3.eq];exact List.mem_append_right _ hj,fun x hx hn y hy=>?_,by omega,rfl⟩
        · rw [if_neg (by simp:¬ e1 :: er = [])]
          split
          · omega
          · rename_i h
            have:=List.length_pos_iff.mpr h
            omega
        · rw [R3.eq] at hx
          rcases List.mem_append.mp hx with h | h
          · by_cases hx2:x ∈ e1 :: er
            · exact cl3 x hx2 y hy
            · rw [R3.eq];exact List.mem_append_left _ (cl2 x h hx2 y hy)
          · exact absurd h hn
end
theorem zaw {ms ns:List Int} (p:ms.Perm ns) (nd:ns.Nodup) (h:ms.Pairwise (· <= ·)):ms.Pairwise (· < ·):=by
  have n':ms.Pairwise (· ≠ ·):=p.nodup_iff.mpr nd
  exact (h.and n').imp fun ⟨a,b⟩=>by omega
section
variable {P:Program} {w:World} {K:PySem.W.Frag} {mg:Str -> Option Value} {base:Heap}
inductive QH (K:PySem.W.Frag) (vs:List V) (H:Hp) (Q:VK):Prop
  | mk (s:Int) (r:Addr) (rk:List (Key × V)) (as:List (Int × Int)) (n:Nat) (_:vs = [.int s,.ref r]) (_:H r = some (.dK rk)) (_:RowsOk H rk as) (_:n <= 60) (_:InN n s) (_:(∀ p ∈ as,InN n p.2)) (_:as.length <= 1000) (_:∀ (l:Addr) (ms:List Int) H',Same H H' -> H l = none -> H' l = some (.lst (ms.map V.int)) -> ms.length <= 60 -> ms.Pairwise (· < ·) -> (∀ j,j ∈ ms ↔ j ≠ s /\ ∃ k,Wk as k s j) -> Q (.ref l) H'):QH K vs H Q
def Xt (K:PySem.W.Frag):Sp:=fun vs H Q _=>QH K vs H Q
theorem Yg:zx ["part", "rows"] ["part", "rows"] (zo (zu 6)):=⟨rfl,rfl,rfl,by decide +kernel,rfl,by decide +kernel,by decide +kernel⟩
theorem zac {f:Addr} {fd:FuncData} (F:Fun K "all_from" "all_from" (zu 6) f fd) (B:Blt mg) (Dsteps_from:Dfn P w K mg base "steps_from" 1 ["start", "rows"] (yn K)):FnOk P w K mg base CX0 2 f fd ["part", "rows"] (Xt K):=by
  have nd:=Yg.nd
  refine F.ok Yg (fun vs H Q E h=>?_) (fun cdv A outer s H vs Q E hr h=>?_)
  · obtain ⟨s,r,rk,as,n,rfl,_⟩:=h
    rfl
  · obtain ⟨s,r,rk,as,n,rfl,hR,ro,n60,ins,ina,al,k⟩:=h
    have hbig:100000 < sizeLine:=by rw [sizeLine_eq];decide
    refine ⟨_,(zm (zC (zn yO rfl B.sorted x6 (za (jG ["part"] [0] rfl rfl (by kernel_rfl) (X1 (zj Dsteps_from (hr.mono (by decide)) rfl (za (pv 0) (za (pv 1) zd)))) (fun _ _ _ _=>(xM (zS QU (pv 0) (pv 1) (zJ _)))) (fun _ _ _ _=>(pv 0))) zd)))),?_⟩
    refine ⟨_,rfl,_,rfl,s,r,rk,as,n,rfl,hR,ro,n60,ins,ina,al,fun d ps H1 s1 hd hd1 nd1 lp mem=>⟨d,_,rfl,hd1,fun o=>Vx (d:=d) (o:=o) (kvs:=dkI ps) (fun i zs H'=>zs = (((ps.take i).map (·.1)).filter fun j=>decide (j ≠ s)).map V.int /\ H' = upd H1 d (.frz o (.dK (dkI ps)))) ⟨rfl,rfl⟩ (fun i zs H' ⟨_,h⟩=>by rw [h];exact zc) ?_ ?_⟩⟩
    · rintro i kk v zs H2 hx ⟨rfl,rfl⟩
      unfold dkI at hx
      rw [List.getElem?_map] at hx
      obtain ⟨p,ep,e1⟩:=Option.map_eq_some_iff.mp hx
      cases e1
      have et:ps.take (i + 1) = ps.take i ++ [p]:=by
        obtain ⟨h1,h2⟩:=List.getElem?_eq_some_iff.mp ep
        rw [<- h2,List.take_append_getElem]
      have hi:=(List.getElem?_eq_some_iff.mp ep).1
      rw [et,List.map_append,List.filter_append,List.map_append]
      have lf:=List.length_filter_le (fun j=>decide (j ≠ s)) ((ps.take i).map (·.1))
      rw [List.length_map,List.length_take] at lf
      refine ⟨rfl,_,rfl,_,rfl,rfl,_,rfl,?_⟩
      by_cases c:p.1 = s
      · refine ifF (by show (!decide (V.int p.1 = V.int s)) = false;rw [c];simp) ⟨?_,rfl⟩
        simp [c]
      · refine ifT (by show (!decide (V.int p.1 = V.int s)) = true;rw [decide_eq_false (fun z=>c (V.int.inj z))];rfl) ⟨_,rfl,by rw [List.length_map];omega,?_,rfl⟩
        simp [c,kV]
    · rintro zs H2 ⟨rfl,rfl⟩
      rw [Q8,List.take_length]
      have lf:=List.length_filter_le (fun j=>decide (j ≠ s)) (ps.map (·.1))
      rw [List.length_map] at lf
      refine ⟨by rw [List.length_map];omega,fun l hl=>⟨l,(ps.map (·.1)).filter fun j=>decide (j ≠ s),rfl,SqL.of zc,by omega,fun l2 ms hl2 pm pw=>?_⟩⟩
      have ld:l ≠ d:=fun z=>by rw [z,zc] at hl;cases hl
      have h1l:H1 l = none:=by rw [zi ld] at hl;exact hl
      have s3:Same H (upd (upd H1 d (.frz o (.dK (dkI ps)))) l (.lst (((ps.map (·.1)).filter fun j=>decide (j ≠ s)).map V.int))):=fun c o z=>by
        rw [zi (zg (s1 _ _ z) h1l),zi (zg z hd)]
        exact s1 _ _ z
      refine k l2 ms _ (s3.trans (zb hl2)) ?_ zc (by rw [pm.length_eq];omega) (zaw pm (nd1.filter _) pw) fun j=>?_
      · cases z:H l2 with
        | none=>rfl
        | some o=>rw [s3 _ _ z] at hl2;cases hl2
      · rw [pm.mem_iff,List.mem_filter,mem j]
        constructor
        · rintro ⟨a,b⟩;exact ⟨of_decide_eq_true b,a⟩
        · rintro ⟨a,b⟩;exact ⟨b,decide_eq_true a⟩
def asI (J:Job):List (Int × Int):=J.as.map fun p=>((p.1:Int),(p.2:Int))
theorem W0 (J:Job):(asI J).map prD = J.as.map jI:=by
  unfold asI
  rw [List.map_map]
  rfl
theorem yT (J:Job):(asI J).length = J.as.length:=List.length_map _
inductive wW (K:PySem.W.Frag) (vs:List V) (H:Hp) (Q:VK):Prop
  | mk (s:Int) (p:Addr) (J:Job) (_:vs = [.ref p,.int s]) (_:Rep K H (jx J) (.ref p)) (_:J.ps.length <= 60) (_:InN J.ps.length s) (_:(∀ q ∈ asI J,InN J.ps.length q.1 /\ InN J.ps.length q.2)) (_:J.as.length <= 300) (_:∀ (l:Addr) (ms:List Int) H',Same H H' -> H l = none -> H' l = some (.lst (ms.map V.int)) -> ms.length <= 60 -> ms.Pairwise (· < ·) -> (∀ j,j ∈ ms ↔ j ≠ s /\ ∃ k,Wk (asI J) k j s) -> Q (.ref l) H'):wW K vs H Q
def yr (K:PySem.W.Frag):Sp:=fun vs H Q _=>wW K vs H Q
theorem Qk {J:Job} {H:Hp} {p:Addr} (h:Rep K H (jx J) (.ref p)):∃ (t:Addr) (x0 x1 x2 x3:V) (xs:List V),SqT K H p [x0,x1,x2,x3,.ref t] /\ SqT K H t xs /\ Reps K H ((asI J).map prD) xs:=by
  obtain ⟨a,xs,e,qa,x0,_,rfl,_,x1,_,rfl,_,x2,_,rfl,_,x3,_,rfl,_,x4,r4,rfl,e4,rfl⟩:=h
  cases e
  obtain ⟨t,ys,rfl,qt,ry⟩:=e4
  exact ⟨t,_,_,_,_,ys,qa,qt,by rw [W0];exact ry⟩
theorem QN:zx ["job", "part"] ["job", "part"] (zo (zu 7)):=⟨rfl,rfl,rfl,by decide +kernel,rfl,by decide +kernel,by decide +kernel⟩
theorem Vj {f:Addr} {fd:FuncData} (F:Fun K "ahead_of" "ahead_of" (zu 7) f fd) (B:Blt mg) (Dturned:Dfn P w K mg base "turned" 1 ["pairs"] (ym K)) (Dnext_by:Dfn P w K mg base "next_by" 1 ["pairs"] (ZX K)) (Dall_from:Dfn P w K mg base "all_from" 2 ["part", "rows"] (Xt K)):FnOk P w K mg base CX0 3 f fd ["job", "part"] (yr K):=by
  have nd:=QN.nd
  refine F.ok QN (fun vs H Q E h=>?_) (fun cdv A outer s H vs Q E hr h=>?_)
  · obtain ⟨s,p,J,rfl,_⟩:=h
    rfl
  · obtain ⟨s,p,J,rfl,rp,n60,ins,ina,al,k⟩:=h
    have hbig:100000 < sizeLine:=by rw [sizeLine_eq];decide
    refine ⟨_,(zm (zC (zj Dall_from (hr.mono (by decide)) rfl (za (pv 1) (za (zj Dnext_by (hr.mono (by decide)) rfl (za (zj Dturned (hr.mono (by decide)) rfl (za (zy zX (pv 0) ze (fun _ _=>rfl)) zd)) zd)) zd))))),?_⟩
    obtain ⟨t,x0,x1,x2,x3,xs,qa,qt,rx⟩:=Qk rp
    refine ⟨_,rfl,_,rfl,p,_,_,_,rfl,rfl,qa,rfl,t,xs,asI J,rfl,qt,rx,by rw [yT];omega,fun l0 ys H0 s0 hl0 ry=>?_⟩
    have em:((asI J).map Prod.swap).map prD = (asI J).map fun p=>prD p.swap:=by rw [List.map_map];rfl
    refine ⟨l0,ys,(asI J).map Prod.swap,rfl,.inl (SqL.of hl0),by rw [em];exact ry,by rw [List.length_map,yT];omega,fun d kvs H1 s1 hd hd1 nb=>?_⟩
    refine ⟨s,d,kvs,(asI J).map Prod.swap,J.ps.length,rfl,hd1,⟨fun i v hv=>let ⟨l,a,_,b⟩:=nb.at_ i v hv;⟨l,a,b⟩,nb.no⟩,n60,ins,fun q hq=>?_,by rw [List.length_map,yT];omega,fun l ms H2 s2 hl hl2 mlen pw mem=>?_⟩
    · obtain ⟨q',hq',rfl⟩:=List.mem_map.mp hq
      exact (ina q' hq').1
    refine k l ms H2 (s0.trans (s1.trans s2)) ?_ hl2 mlen pw fun j=>?_
    · cases z:H l with
      | none=>rfl
      | some o=>rw [s1 _ _ (s0 _ _ z)] at hl;cases hl
    · rw [mem j]
      refine ⟨fun ⟨a,k,b⟩=>⟨a,k,?_⟩,fun ⟨a,k,b⟩=>⟨a,k,b.back⟩⟩
      have:=b.back
      rwa [wz] at this
end
theorem jn {α:Type} {l:List α} {i:Nat} {x:α} (h:l[i]? = some x):l.take (i + 1) = l.take i ++ [x]:=by
  obtain ⟨h1,h2⟩:=List.getElem?_eq_some_iff.mp h
  rw [<- h2,List.take_append_getElem]
def vg (os:List Nat):List V:=os.map fun i:Nat=>V.int (i:Int)
theorem xx (os:List Nat):(vg os).length = os.length:=List.length_map ..
theorem Zr {os:List Nat} {i:Nat} {x:V} (h:(vg os)[i]? = some x):∃ k,os[i]? = some k /\ x = .int (k:Int):=by
  unfold vg at h
  rw [List.getElem?_map] at h
  obtain ⟨k,hk,rfl⟩:=Option.map_eq_some_iff.mp h
  exact ⟨k,hk,rfl⟩
theorem Same.none {H H1:Hp} {t:Addr} (s:Same H H1) (h:H1 t = Option.none):H t = Option.none:=s.free h
def atK (fs:List jC) (kd:Str) (n:Nat):List Nat:=(List.range n).filter fun i=>decide (fs[i]?.map jC.k = some kd)
theorem yR (fs:List jC) (kd:Str) (n:Nat):(atK fs kd n).length <= n:=Nat.le_trans (List.length_filter_le _ _) (by rw [List.length_range];exact Nat.le_refl _)
theorem WY {fs:List jC} {kd:Str} {n:Nat} {f:jC} (h:fs[n]? = some f) (e:f.k = kd):atK fs kd (n + 1) = atK fs kd n ++ [n]:=by
  unfold atK
  rw [List.range_succ,List.filter_append,List.filter_cons_of_pos (by rw [h];exact decide_eq_true (by show some f.k = _;rw [e]))]
  rfl
theorem WZ {fs:List jC} {kd:Str} {n:Nat} {f:jC} (h:fs[n]? = some f) (e:f.k ≠ kd):atK fs kd (n + 1) = atK fs kd n:=by
  unfold atK
  rw [List.range_succ,List.filter_append,List.filter_cons_of_neg (by rw [h];simpa using e),List.filter_nil,List.append_nil]
theorem JQ (os:List Nat) (n:Nat):vg (os ++ [n]) = vg os ++ [.int (n:Int)]:=by
  unfold vg
  rw [List.map_append]
  rfl
section
variable {P:Program} {w:World} {K:PySem.W.Frag} {mg:Str -> Option Value} {base:Heap}
theorem jY {H:Hp} {p:jC} {x:V} (h:Rep K H (qX p) x):∃ a c,x = .ref a /\ SqT K H a [.str p.k,.ref c,.int p.m] /\ SqT K H c [.int p.x,.int p.y]:=by
  obtain ⟨a,xs,rfl,q,y0,r0,f0,g0,y1,r1,f1,g1,y2,r2,f2,g2,f3⟩:=h
  subst f0 f1 f2
  cases (show r2 = [] from f3)
  cases (show y0 = _ from g0)
  cases (show y2 = _ from g2)
  obtain ⟨c,ys,rfl,q',z0,s0,e0,i0,z1,s1,e1,i1,e2⟩:=g1
  subst e0 e1
  cases (show s1 = [] from e2)
  cases (show z0 = _ from i0)
  cases (show z1 = _ from i1)
  exact ⟨a,c,rfl,q,q'⟩
theorem qm {H:Hp} {J:Job} {jp:Addr} (h:Rep K H (jx J) (.ref jp)):∃ (g fs ps as:Addr) (fv pv:List V),SqT K H jp [.ref g,.int J.hd,.ref fs,.ref ps,.ref as] /\ Rep K H (.tup [.int J.gx,.int J.gy]) (.ref g) /\ SqT K H fs fv /\ Reps K H (J.fs.map qX) fv /\ SqT K H ps pv /\ Reps K H (J.ps.map qw) pv /\ Rep K H (vw J.as) (.ref as):=by
  obtain ⟨a,xs,e,q,x0,r0,e0,h0,x1,r1,e1,h1,x2,r2,e2,h2,x3,r3,e3,h3,x4,r4,e4,h4,e5⟩:=h
  cases e
  subst e0 e1 e2 e3 e4
  have e5':r4 = []:=e5
  subst e5'
  have h1':x1 = .int J.hd:=h1
  subst h1'
  obtain ⟨g,gx,rfl,gq⟩:=h0
  obtain ⟨fs,fx,rfl,fq,fr⟩:=h2
  obtain ⟨ps,px,rfl,pq,pr⟩:=h3
  obtain ⟨as,ax,rfl,aq⟩:=h4
  exact ⟨g,fs,ps,as,fx,px,q,⟨g,gx,rfl,gq⟩,fq,fr,pq,pr,⟨as,ax,rfl,aq⟩⟩
inductive QD (K:PySem.W.Frag) (vs:List V) (H:Hp) (Q:VK):Prop
  | mk (jp:Addr) (J:Job) (kd:Str) (_:vs = [.ref jp,.str kd]) (_:Rep K H (jx J) (.ref jp)) (_:J.fs.length <= 100) (_:∀ (l:Addr) H',H l = none -> Same H H' -> H' l = some (.lst (vg (atK J.fs kd J.fs.length))) -> Q (.ref l) H'):QD K vs H Q
def Xq (K:PySem.W.Frag):Sp:=fun vs H Q _=>QD K vs H Q
theorem Yd:zx ["job", "kind"] ["job", "kind"] (zo (zu 8)):=⟨rfl,rfl,rfl,by decide +kernel,rfl,by decide +kernel,by decide +kernel⟩
theorem Y9 {f:Addr} {fd:FuncData} (F:Fun K "feeders_for" "feeders_for" (zu 8) f fd) (B:Blt mg):FnOk P w K mg base CX0 1 f fd ["job", "kind"] (Xq K):=by
  have nd:=Yd.nd
  refine F.ok Yd (fun vs H Q E h=>?_) (fun cdv A outer s H vs Q E hr h=>?_)
  · obtain ⟨jp,J,kd,rfl,_⟩:=h
    rfl
  · obtain ⟨jp,J,kd,rfl,rj,fl,k⟩:=h
    have hbig:100000 < sizeLine:=by rw [sizeLine_eq];decide
    obtain ⟨g,fs,ps,as,fv,pxs,qj,_,qf,rf,qp,rp,_⟩:=qm rj
    have lf:=rf.len
    rw [List.length_map] at lf
    refine ⟨_,(zm (zC (Qc ["kind"] [1] rfl rfl (by kernel_rfl) (X0 rfl B.enumerate (za (zy zX (pv 0) ze (fun _ _=>rfl)) zd)) (fun _ _ _ _=>(xM (zS jf (zy (zO (K:=K) rfl) (pv 1) ze (fun _ _=>rfl)) (pv 2) (zJ _)))) (fun _ _ _ _=>(pv 0))))),?_⟩
    refine ⟨_,rfl,jp,_,_,_,rfl,rfl,qj,rfl,fs,rfl,⟨_,qf⟩,Vw (K:=K) (a:=fs) (xs:=fv) (fun i zs H3=>zs = vg (atK J.fs kd i) /\ Same H H3) ⟨rfl,Same.refl _⟩ (fun i zs H3 ⟨_,s3⟩=>s3.sqT qf) ?_ ?_⟩
    · rintro i x zs H3 T hx ⟨rfl,s3⟩ hT
      obtain ⟨d,e1,r1⟩:=(rf.same s3).get hx
      rw [List.getElem?_map] at e1
      obtain ⟨fe,efe,rfl⟩:=Option.map_eq_some_iff.mp e1
      have hi:=(List.getElem?_eq_some_iff.mp efe).1
      have sT:=s3.trans (zb (o:=.tup [.int (i:Int),x]) hT)
      obtain ⟨fa,fc,rfl,qfa,_⟩:=jY (r1.same (zb (o:=.tup [.int (i:Int),x]) hT))
      have le:=yR J.fs kd i
      refine ⟨T,_,rfl,SqT.of zc,rfl,_,_,rfl,_,_,rfl,rfl,rfl,?_⟩
      refine ⟨_,rfl,fa,_,_,_,rfl,rfl,qfa,rfl,_,rfl,rfl,_,rfl,xP (fun c=>⟨_,rfl,?_,?_,sT⟩) (fun c=>⟨?_,sT⟩)⟩
      · rw [xx];omega
      · rw [WY efe (V.str.inj (of_decide_eq_true c)),JQ]
      · rw [WZ efe fun z=>c (decide_eq_true (by rw [z]))]
    · rintro zs H3 ⟨rfl,s3⟩
      rw [lf]
      have le:=yR J.fs kd J.fs.length
      exact ⟨by rw [xx];omega,fun l hl=>k l _ (s3.none hl) (s3.trans (zb hl)) zc⟩
end
def zbl (x1 y1 x2 y2:Int):Int:=if wI (y1 - y2) > wI (x1 - x2) then wI (y1 - y2) else wI (x1 - x2)
def qF (p q:Int × Int):Int:=zbl p.1 p.2 q.1 q.2
def plD (p:Int × Int):Dat:=.tup [.int p.1,.int p.2]
section
variable {P:Program} {w:World} {K:PySem.W.Frag} {mg:Str -> Option Value} {base:Heap}
theorem qV {H:Hp} {p:Int × Int} {x:V} (h:Rep K H (plD p) x):∃ a,x = .ref a /\ SqT K H a [.int p.1,.int p.2]:=by
  obtain ⟨pa,xs,rfl,qp',y0,r0,f0,g0,y1,r1',f1,g1,f2⟩:=h
  subst f0 f1
  cases (show r1' = [] from f2)
  cases (show y0 = _ from g0)
  cases (show y1 = _ from g1)
  exact ⟨pa,rfl,qp'⟩
theorem qP {H:Hp} {a:Addr} {x y:Int} (h:SqT K H a [.int x,.int y]):Rep K H (plD (x,y)) (.ref a):=⟨a,_,rfl,h,_,_,rfl,rfl,_,_,rfl,rfl,rfl⟩
inductive Qx (K:PySem.W.Frag) (vs:List V) (H:Hp) (Q:VK):Prop
  | mk (u v:V) (p q:Int × Int) (_:vs = [u,v]) (_:Rep K H (plD p) u) (_:Rep K H (plD q) v) (_:Q (.int (qF p q)) H):Qx K vs H Q
def vE (K:PySem.W.Frag):Sp:=fun vs H Q _=>Qx K vs H Q
theorem zaJ:zx ["one", "other"] ["one", "other"] (zo (zu 1)):=⟨rfl,rfl,rfl,by decide +kernel,rfl,by decide +kernel,by decide +kernel⟩
theorem Y4 {f:Addr} {fd:FuncData} (F:Fun K "way_between" "way_between" (zu 1) f fd) (B:Blt mg):FnOk P w K mg base CX0 1 f fd ["one", "other"] (vE K):=by
  refine F.ok zaJ (fun vs H Q E h=>?_) (fun cdv A outer s H vs Q E hr h=>?_)
  · obtain ⟨u,v,p,q,rfl,_⟩:=h
    rfl
  · obtain ⟨u,v,p,q,rfl,hu',hv',k⟩:=h
    obtain ⟨a,rfl,ha⟩:=qV hu'
    obtain ⟨b,rfl,hb⟩:=qV hv'
    refine ⟨_,(zm (zC (zn (xR rfl) rfl B.max wf (za (zn ji rfl B.abs jk (za (zr jJ (zy zX (pv 0) ze (fun _ _=>rfl)) (zy zX (pv 1) ze (fun _ _=>rfl))) zd)) (za (zn ji rfl B.abs jk (za (zr jJ (zy zX (pv 0) ze (fun _ _=>rfl)) (zy zX (pv 1) ze (fun _ _=>rfl))) zd)) zd))))),?_⟩
    refine ⟨_,rfl,a,_,_,_,rfl,rfl,ha,rfl,_,rfl,b,_,_,_,rfl,rfl,hb,rfl,_,_,rfl,rfl,_,rfl,_,rfl,a,_,_,_,rfl,rfl,ha,rfl,_,rfl,b,_,_,_,rfl,rfl,hb,rfl,_,_,rfl,rfl,_,rfl,_,_,rfl,k⟩
theorem YJ:zx ["_law_one", "_law_other"] ["_law_one", "_law_other"] (zo (zu 31)):=⟨rfl,rfl,rfl,by decide +kernel,rfl,by decide +kernel,by decide +kernel⟩
theorem Wx {f:Addr} {fd:FuncData} (F:Fun K "_law_way" "_law_way" (zu 31) f fd) (B:Blt mg):FnOk P w K mg base CX0 1 f fd ["_law_one", "_law_other"] (vE K):=by
  refine F.ok YJ (fun vs H Q E h=>?_) (fun cdv A outer s H vs Q E hr h=>?_)
  · obtain ⟨u,v,p,q,rfl,_⟩:=h
    rfl
  · obtain ⟨u,v,p,q,rfl,hu',hv',k⟩:=h
    obtain ⟨a,rfl,ha⟩:=qV hu'
    obtain ⟨b,rfl,hb⟩:=qV hv'
    refine ⟨_,(zm (zC (zn (xR rfl) rfl B.max wf (za (zn ji rfl B.abs jk (za (zr jJ (zy zX (pv 0) ze (fun _ _=>rfl)) (zy zX (pv 1) ze (fun _ _=>rfl))) zd)) (za (zn ji rfl B.abs jk (za (zr jJ (zy zX (pv 0) ze (fun _ _=>rfl)) (zy zX (pv 1) ze (fun _ _=>rfl))) zd)) zd))))),?_⟩
    refine ⟨_,rfl,a,_,_,_,rfl,rfl,ha,rfl,_,rfl,b,_,_,_,rfl,rfl,hb,rfl,_,_,rfl,rfl,_,rfl,_,rfl,a,_,_,_,rfl,rfl,ha,rfl,_,rfl,b,_,_,_,rfl,rfl,hb,rfl,_,_,rfl,rfl,_,rfl,_,_,rfl,k⟩
theorem xO {H:Hp} {p:xK} {x:V} (h:Rep K H (qw p) x):∃ a c,x = .ref a /\ SqT K H a [.str p.k,.ref c] /\ SqT K H c [.int p.x,.int p.y]:=by
  obtain ⟨a,xs,rfl,q,y0,r0,f0,g0,y1,r1,f1,g1,f3⟩:=h
  subst f0 f1
  cases (show r1 = [] from f3)
  cases (show y0 = _ from g0)
  obtain ⟨c,ys,rfl,q',z0,s0,e0,i0,z1,s1,e1,i1,e2⟩:=g1
  subst e0 e1
  cases (show s1 = [] from e2)
  cases (show z0 = _ from i0)
  cases (show z1 = _ from i1)
  exact ⟨a,c,rfl,q,q'⟩
theorem yQ {H:Hp} {α:Type} {f:α -> Dat} {as:List α} {xs:List V} (h:Reps K H (as.map f) xs) {i:Nat} {a:α} (hi:as[i]? = some a):∃ v,xs[i]? = some v /\ Rep K H (f a) v:=by
  have hl:=h.len
  rw [List.length_map] at hl
  have hlt:i < xs.length:=by have:=(List.getElem?_eq_some_iff.mp hi).1;omega
  obtain ⟨d,e,r⟩:=h.get (i:=i) (x:=xs[i]) (by simp [hlt])
  rw [List.getElem?_map,hi] at e
  cases e
  exact ⟨xs[i],by simp [hlt],r⟩
inductive Xo (K:PySem.W.Frag) (vs:List V) (H:Hp) (Q:VK):Prop
  | mk (jp:Addr) (J:Job) (i:Nat) (p:xK) (_:vs = [.ref jp,.int (i:Int)]) (_:Rep K H (jx J) (.ref jp)) (_:J.ps[i]? = some p) (_:Q (.str p.k) H):Xo K vs H Q
def Wa (K:PySem.W.Frag):Sp:=fun vs H Q _=>Xo K vs H Q
theorem zaL:zx ["job", "part"] ["job", "part"] (zo (zu 10)):=⟨rfl,rfl,rfl,by decide +kernel,rfl,by decide +kernel,by decide +kernel⟩
theorem za6 {f:Addr} {fd:FuncData} (F:Fun K "kind_of" "kind_of" (zu 10) f fd) (B:Blt mg):FnOk P w K mg base CX0 1 f fd ["job", "part"] (Wa K):=by
  have nd:=zaL.nd
  refine F.ok zaL (fun vs H Q E h=>?_) (fun cdv A outer s H vs Q E hr h=>?_)
  · obtain ⟨jp,J,i,p,rfl,_⟩:=h
    rfl
  · obtain ⟨jp,J,i,p,rfl,rj,hp,k⟩:=h
    obtain ⟨g,fs,ps,as,fv,pxs,qj,_,qf,rf,qp,rp,_⟩:=qm rj
    obtain ⟨v,hv,rv⟩:=yQ rp hp
    obtain ⟨pa,pc,rfl,qpa,_⟩:=xO rv
    refine ⟨_,(zm (zC (zy zX (zy zX (zy zX (pv 0) ze (fun _ _=>rfl)) (pv 1) (fun _ _=>rfl)) ze (fun _ _=>rfl)))),?_⟩
    exact ⟨_,rfl,jp,_,_,_,rfl,rfl,qj,rfl,_,rfl,ps,_,_,_,rfl,rfl,qp,qZ hv,pa,_,_,_,rfl,rfl,qpa,rfl,k⟩
end
abbrev Pl:=Int × Int
def plK (p:Pl):List Key:=[.inl p.1,.inl p.2]
theorem QS {p q:Pl} (h:plK p = plK q):p = q:=by
  obtain ⟨a,b⟩:=p
  obtain ⟨c,d⟩:=q
  injection h with h1 h2
  injection h2 with h2 _
  exact Prod.ext (Sum.inl.inj h1) (Sum.inl.inj h2)
abbrev En:=Pl × (Int × List Int)
def qM (e:En) (g:Int × Pl):En:=(g.2,(e.2.1 + qF e.1 g.2,e.2.2 ++ [g.1]))
def Bst (cs es:List En):Prop:=(∀ e ∈ es,e ∈ cs) /\ (∀ c ∈ cs,∃ e ∈ es,e.1 = c.1 /\ e.2.1 <= c.2.1) /\ es.length <= cs.length
theorem Bst.nil:Bst [] []:=⟨(fun _ h=>nomatch h),(fun _ h=>nomatch h),Nat.le_refl _⟩
theorem Bst.snoc {cs es:List En} {c:En} (h:Bst cs es):Bst (cs ++ [c]) (es ++ [c]):=by
  refine ⟨fun e he=>?_,fun d hd=>?_,by rw [List.length_append,List.length_append];exact Nat.add_le_add_right h.2.2 _⟩
  · rcases List.mem_append.mp he with a | a
    · exact List.mem_append_left _ (h.1 e a)
    · exact List.mem_append_right _ a
  · rcases List.mem_append.mp hd with a | a
    · obtain ⟨e,x,y⟩:=h.2.1 d a
      exact ⟨e,List.mem_append_left _ x,y⟩
    · cases List.mem_singleton.mp a
      exact ⟨c,List.mem_append_right _ (List.mem_singleton.mpr rfl),rfl,Int.le_refl _⟩
theorem Yr {es:List En} (nd:(es.map Prod.fst).Nodup) {a b:En} (ha:a ∈ es) (hb:b ∈ es) (e:a.1 = b.1):a = b:=by
  obtain ⟨i,hi,rfl⟩:=List.getElem_of_mem ha
  obtain ⟨j,hj,rfl⟩:=List.getElem_of_mem hb
  have e1:(es.map Prod.fst)[i]? = some es[i].1:=by simp [hi]
  have e2:(es.map Prod.fst)[j]? = some es[i].1:=by rw [e];simp [hj]
  have:=(List.getElem?_inj (by rw [List.length_map];exact hi) nd).mp (e1.trans e2.symm)
  subst this
  rfl
def reE (es:List En) (c:En) (v:Int × List Int):List En:=es.map fun e=>if e.1 = c.1 then (e.1,v) else e
theorem XI (es:List En) (c:En) (v:Int × List Int):(reE es c v).map Prod.fst = es.map Prod.fst:=by
  unfold reE
  rw [List.map_map]
  refine List.map_congr_left fun e _=>?_
  show (if e.1 = c.1 then (e.1,v) else e).1 = e.1
  split <;> rfl
theorem Bst.re {cs es:List En} {c e0:En} (h:Bst cs es) (nd:(es.map Prod.fst).Nodup) (h0:e0 ∈ es) (e:e0.1 = c.1):Bst (cs ++ [c]) (reE es c (if ltW e0.2 c.2 = true then e0.2 else c.2)):=by
  have l1:(if ltW e0.2 c.2 = true then e0.2 else c.2).1 <= e0.2.1:=by
    split
    · exact Int.le_refl _
    · rename_i z;exact Vp (by simpa using z)
  have l2:(if ltW e0.2 c.2 = true then e0.2 else c.2).1 <= c.2.1:=by
    split
    · rename_i z;exact Vo z
    · exact Int.le_refl _
  have m0:(c.1,if ltW e0.2 c.2 = true then e0.2 else c.2) ∈ reE es c (if ltW e0.2 c.2 = true then e0.2 else c.2):=List.mem_map.mpr ⟨e0,h0,by rw [if_pos e,e]⟩
  refine ⟨fun d hd=>?_,fun d hd=>?_,by unfold reE;rw [List.length_append,List.length_map];exact Nat.le_succ_of_le h.2.2⟩
  · obtain ⟨x,hx,rfl⟩:=List.mem_map.mp hd
    by_cases z:x.1 = c.1
    · rw [if_pos z]
      cases Yr nd hx h0 (z.trans e.symm)
      split
      · exact List.mem_append_left _ (h.1 _ h0)
      · rw [z];exact List.mem_append_right _ (List.mem_singleton.mpr rfl)
    · rw [if_neg z];exact List.mem_append_left _ (h.1 _ hx)
  · rcases List.mem_append.mp hd with a | a
    · obtain ⟨x,hx,y1,y2⟩:=h.2.1 d a
      by_cases z:x.1 = c.1
      · cases Yr nd hx h0 (z.trans e.symm)
        exact ⟨_,m0,z.symm.trans y1,Int.le_trans l1 y2⟩
      · exact ⟨x,List.mem_map.mpr ⟨x,hx,if_neg z⟩,y1,y2⟩
    · cases List.mem_singleton.mp a
      exact ⟨_,m0,rfl,l2⟩
section
variable {P:Program} {w:World} {K:PySem.W.Frag} {mg:Str -> Option Value} {base:Heap}
theorem SqT.updX {H:Hp} {D a:Addr} {φ:Heap -> Prop} {o:HO} {xs:List V} (q:SqT K H a xs) (h:H D = some (.ext φ)):SqT K (upd H D o) a xs:=by
  rcases q with (q | ⟨u,q⟩) | q
  · exact .inl (.inl (by rw [zi (fun z=>by rw [z,h] at q;cases q)];exact q))
  · exact .inl (.inr ⟨u,by rw [zi (fun z=>by rw [z,h] at q;cases q)];exact q⟩)
  · exact .inr q
inductive Yn (K:PySem.W.Frag) (x y:V) (H:Hp) (Q:VK):Prop
  | mk (a b:Addr) (xs ys:List V) (_:x = .ref a) (_:y = .ref b) (_:SqT K H a xs) (_:SqT K H b ys) (_:xs.length + ys.length <= sizeLine) (_:∀ p H',Same H H' -> SqT K H' p (xs ++ ys) -> Q (.ref p) H'):Yn K x y H Q
theorem Wq {X:Cx}:OpR X (binaryOp .Add) (Yn X.K):=by
  intro pins s σ H x y v u Q I rx ry h
  obtain ⟨a,b,xs,ys,rfl,rfl,ha,hb,hl,q⟩:=h
  by_cases e:xs = []
  · subst e
    exact Vc pins s σ H v u Q I rx ry ⟨a,b,ys,rfl,rfl,ha,hb,q b H (Same.refl _) hb⟩
  · refine Wp pins s σ H _ _ v u Q I rx ry ⟨a,b,xs,ys,rfl,rfl,ha,hb,e,hl,fun z=>?_,fun z p hp=>q p _ (zb hp) (SqT.of zc)⟩
    exact q a H (Same.refl _) (by rw [z,List.append_nil];exact ha)
structure EnAt (K:PySem.W.Frag) (H:Hp) (l:List Key) (xs:PEs) (es:List En):Prop where
  len:xs.length = es.length
  nd:(es.map Prod.fst).Nodup
  at_:∀ (i:Nat) x e,xs[i]? = some x -> es[i]? = some e -> x.1 = (l,plK e.1) /\ WkAt K H x.2.2 e.2 /\ KyAt K H x.1 x.2.1
theorem EnAt.nil {H:Hp} {l:List Key}:EnAt K H l [] []:=⟨rfl,List.nodup_nil,fun i x e h=>by simp at h⟩
theorem KyAt.same {H H':Hp} {k:PKy} {a:Addr} (h:KyAt K H k a) (s:Same H H'):KyAt K H' k a:=let ⟨B,C,a,b,c⟩:=h;⟨B,C,s.sqT a,s.sqT b,s.sqT c⟩
theorem KyAt.updX {H:Hp} {k:PKy} {a D:Addr} {φ:Heap -> Prop} {o:HO} (h:KyAt K H k a) (z:H D = some (.ext φ)):KyAt K (upd H D o) k a:=let ⟨B,C,a,b,c⟩:=h;⟨B,C,a.updX z,b.updX z,c.updX z⟩
theorem WkAt.same {H H':Hp} {a:Addr} {p:Int × List Int} (h:WkAt K H a p) (s:Same H H'):WkAt K H' a p:=let ⟨U,a,b⟩:=h;⟨U,s.sqT a,s.sqT b⟩
theorem WkAt.updX {H:Hp} {a D:Addr} {p:Int × List Int} {φ:Heap -> Prop} {o:HO} (h:WkAt K H a p) (z:H D = some (.ext φ)):WkAt K (upd H D o) a p:=let ⟨U,a,b⟩:=h;⟨U,a.updX z,b.updX z⟩
theorem EnAt.same {H H':Hp} {l:List Key} {xs:PEs} {es:List En} (h:EnAt K H l xs es) (s:Same H H'):EnAt K H' l xs es:=⟨h.len,h.nd,fun i x e a b=>let ⟨c,d,f⟩:=h.at_ i x e a b;⟨c,d.same s,f.same s⟩⟩
theorem EnAt.updX {H:Hp} {D:Addr} {l:List Key} {xs:PEs} {es:List En} {φ:Heap -> Prop} {o:HO} (h:EnAt K H l xs es) (z:H D = some (.ext φ)):EnAt K (upd H D o) l xs es:=⟨h.len,h.nd,fun i x e a b=>let ⟨c,d,f⟩:=h.at_ i x e a b;⟨c,d.updX z,f.updX z⟩⟩
theorem EnAt.get {H:Hp} {l:List Key} {xs:PEs} {es:List En} (h:EnAt K H l xs es) {i:Nat} {x:PKy × Addr × Addr} (hx:xs[i]? = some x):∃ e,es[i]? = some e /\ x.1 = (l,plK e.1) /\ WkAt K H x.2.2 e.2 /\ KyAt K H x.1 x.2.1:=by
  have hl:=(List.getElem?_eq_some_iff.mp hx).1
  rw [h.len] at hl
  exact ⟨es[i],by simp [hl],h.at_ i x _ hx (by simp [hl])⟩
theorem EnAt.kys {H:Hp} {l:List Key} {xs:PEs} {es:List En} (h:EnAt K H l xs es):ZO K H xs:=fun x hx=>by
  obtain ⟨i,hi⟩:=List.mem_iff_getElem?.mp hx
  obtain ⟨e,_,_,_,k⟩:=h.get hi
  exact k
theorem EnAt.look {H:Hp} {l:List Key} {xs:PEs} {es:List En} (h:EnAt K H l xs es) (p:Pl):(lkP xs (l,plK p) = none /\ ∀ e ∈ es,e.1 ≠ p) \/ ∃ a v e,lkP xs (l,plK p) = some (a,v) /\ e ∈ es /\ e.1 = p /\ WkAt K H v e.2:=by
  unfold lkP
  cases z:xs.find? fun x=>decide (x.1 = (l,plK p)) with
  | none=>
    refine .inl ⟨rfl,fun e he q=>?_⟩
    obtain ⟨i,hi⟩:=List.mem_iff_getElem?.mp he
    have hl:=(List.getElem?_eq_some_iff.mp hi).1
    rw [<- h.len] at hl
    have:=List.find?_eq_none.mp z xs[i] (List.getElem_mem hl)
    exact this (decide_eq_true (by rw [<- q];exact (h.at_ i _ _ (by simp [hl]) hi).1))
  | some x=>
    have e1:=List.find?_some z
    obtain ⟨i,hi⟩:=List.mem_iff_getElem?.mp (List.mem_of_find?_eq_some z)
    obtain ⟨e,he,a,b,_⟩:=h.get hi
    refine .inr ⟨x.2.1,x.2.2,e,rfl,List.mem_of_getElem? he,?_,b⟩
    have e2:=of_decide_eq_true e1
    rw [a] at e2
    exact QS (Prod.mk.inj e2).2
theorem EnAt.new {H:Hp} {l:List Key} {xs:PEs} {es:List En} {c:En} {b v:Addr} (h:EnAt K H l xs es) (kb:KyAt K H (l,plK c.1) b) (ww:WkAt K H v c.2) (no:lkP xs (l,plK c.1) = none) (ne:∀ e ∈ es,e.1 ≠ c.1):EnAt K H l (stP xs (l,plK c.1) b v) (es ++ [c]):=by
  unfold stP
  rw [no]
  refine ⟨?_,?_,fun i x e hx he=>?_⟩
  · show (xs ++ [_]).length = _
    rw [List.length_append,List.length_append,h.len];rfl
  · rw [List.map_append]
    refine List.nodup_append.mpr ⟨h.nd,by simp,fun a ha d hd=>?_⟩
    obtain ⟨e,he,rfl⟩:=List.mem_map.mp ha
    cases List.mem_singleton.mp hd
    exact ne e he
  · have hx':(xs ++ [((l,plK c.1),b,v)])[i]? = some x:=hx
    by_cases hi:i < xs.length
    · rw [List.getElem?_append_left hi] at hx'
      rw [List.getElem?_append_left (by rw [<- h.len];exact hi)] at he
      exact h.at_ i x e hx' he
    · rw [List.getElem?_append_right (by omega)] at hx'
      rw [List.getElem?_append_right (by rw [<- h.len];omega),<- h.len] at he
      have hz:i - xs.length = 0:=by
        have:=(List.getElem?_eq_some_iff.mp hx').1
        simp at this;omega
      rw [hz] at hx' he
      cases hx'
      cases he
      exact ⟨rfl,ww,kb⟩
theorem EnAt.old {H:Hp} {l:List Key} {xs:PEs} {es:List En} {c:En} {b v:Addr} {q:Int × List Int} {p:Addr × Addr} (h:EnAt K H l xs es) (ww:WkAt K H v q) (yes:lkP xs (l,plK c.1) = some p):EnAt K H l (stP xs (l,plK c.1) b v) (reE es c q):=by
  unfold stP
  rw [yes]
  show EnAt K H l (xs.map _) _
  refine ⟨by unfold reE;rw [List.length_map,List.length_map,h.len],by rw [XI];exact h.nd,fun i x e hx he=>?_⟩
  rw [List.getElem?_map] at hx
  obtain ⟨x0,hx0,rfl⟩:=Option.map_eq_some_iff.mp hx
  unfold reE at he
  rw [List.getElem?_map] at he
  obtain ⟨e0,he0,rfl⟩:=Option.map_eq_some_iff.mp he
  obtain ⟨a1,a2,a3⟩:=h.at_ i x0 e0 hx0 he0
  by_cases z:e0.1 = c.1
  · rw [if_pos z,if_pos (by rw [a1,z])]
    exact ⟨a1,ww,a3⟩
  · rw [if_neg z,if_neg (fun y=>z (by rw [a1] at y;exact QS (Prod.mk.inj y).2))]
    exact ⟨a1,a2,a3⟩
end
def goD (g:Int × Pl):Dat:=.tup [.int g.1,plD g.2]
def qy (es:List En) (gs:List (Int × Pl)):List En:=es.flatMap fun e=>gs.map (qM e)
theorem vq (gs:List (Int × Pl)):∀ es:List En,(qy es gs).length = es.length * gs.length
  | []=>by rw [List.length_nil,Nat.zero_mul];rfl
  | e :: es=>by
    have:=vq gs es
    unfold qy at this ⊢
    rw [List.flatMap_cons,List.length_append,this,List.length_map,List.length_cons,Nat.succ_mul,Nat.add_comm]
theorem VS (es:List En) (e:En) (gs:List (Int × Pl)):qy (es ++ [e]) gs = qy es gs ++ gs.map (qM e):=by
  unfold qy
  rw [List.flatMap_append,List.flatMap_cons,List.flatMap_nil,List.append_nil]
section
variable {P:Program} {w:World} {K:PySem.W.Frag} {mg:Str -> Option Value} {base:Heap}
theorem WP {H:Hp} {p:Int × Pl} {x:V} (h:Rep K H (goD p) x):∃ a c,x = .ref a /\ SqT K H a [.int p.1,.ref c] /\ SqT K H c [.int p.2.1,.int p.2.2]:=by
  obtain ⟨a,xs,rfl,q,y0,r0,f0,g0,y1,r1,f1,g1,f3⟩:=h
  subst f0 f1
  cases (show r1 = [] from f3)
  cases (show y0 = _ from g0)
  obtain ⟨c,rfl,q'⟩:=qV g1
  exact ⟨a,c,rfl,q,q'⟩
inductive QE (P:Program) (w:World) (K:PySem.W.Frag) (vs:List V) (H:Hp) (Q:VK):Prop
  | mk (d g a gl al:Addr) (o:Obj) (xs:PEs) (es:List En) (t:Key) (gk ak:List (Key × V)) (gv av:List V) (gs:List (Int × Pl)) (_:vs = [.ref d,.ref g,.ref a]) (_:H d = some (dP P w d o xs)) (_:EnAt K H [t] xs es) (_:H g = some (.dK gk)) (_:zK gk t = some (.ref gl)) (_:H gl = some (.lst gv)) (_:Reps K H (gs.map goD) gv) (_:H a = some (.dK ak)) (_:zK ak t = some (.ref al)) (_:H al = some (.lst av)) (_:(∀ v ∈ av,qH v = true /\ eqV (kV t) v = false)) (_:es.length <= 100) (_:gs.length <= 100) (_:av.length <= 100) (_:(∀ e ∈ es,e.2.2.length <= 100)) (_:∀ (D:Addr) (o':Obj) (ys:PEs) (fs:List En) H',H D = none -> Same H H' -> H' D = some (dP P w D o' ys) -> EnAt K H' [] ys fs -> Bst (qy es gs) fs -> Q (.ref D) H'):QE P w K vs H Q
def QF (P:Program) (w:World) (K:PySem.W.Frag):Sp:=fun vs H Q _=>QE P w K vs H Q
theorem Ye:zx ["walks", "goals", "aheads", "found", "left", "place", "way", "numbers", "thing", "rest", "number", "goal", "walk"] ["walks", "goals", "aheads"] (zo (zu 11)):=⟨rfl,rfl,rfl,by decide +kernel,rfl,by decide +kernel,by decide +kernel⟩
theorem WI (k:Key):qH (kV k) = true:=by cases k <;> rfl
theorem zaa {f:Addr} {fd:FuncData} (F:Fun K "farther" "farther" (zu 11) f fd) (B:Blt mg) (Dway_between:Dfn P w K mg base "way_between" 1 ["one", "other"] (vE K)):FnOk P w K mg base CX0 2 f fd ["walks", "goals", "aheads"] (QF P w K):=by
  have nd:=Ye.nd
  refine F.ok Ye (fun vs H Q E h=>?_) (fun cdv A outer s H vs Q E hr h=>?_)
  · obtain ⟨d,g,a,gl,al,o,xs,es,t,gk,ak,gv,av,gs,rfl,_⟩:=h
    rfl
  · obtain ⟨d,g,a,gl,al,o,xs,es,t,gk,ak,gv,av,gs,rfl,hd,en,hg,gt,hgl,rg,ha,at_,hal,hav,el,gsl,avl,nsl,k⟩:=h
    have hu1:=ZC hr
    have hu64:=hr.units
    have hu2:=Nat.lt_of_le_of_lt (Nat.add_le_add_left (by decide:2 <= 64) _) hu64
    have sz:sizeLine = 16777216:=sizeLine_eq
    have lg:=rg.len
    rw [List.length_map] at lg
    refine ⟨_,(zf (zv (i:=3) nd rfl (Or.inl rfl) X5)
      (zf (zQ PassesOwn.never rfl (vM (xN (pv 0))) (z9 rfl (zw (z9 rfl (zw (zt (i:=4) nd rfl (Or.inr rfl)) (zw (zt (i:=5) nd rfl (Or.inl rfl)) zW))) (zw (z9 rfl (zw (zt (i:=6) nd rfl (Or.inl rfl)) (zw (zt (i:=7) nd rfl (Or.inl rfl)) zW))) zW)))
      (zm (zQ PassesOwn.never rfl (xg (pv 4)) (zt (i:=8) nd rfl (Or.inr rfl))
        (zf (j5 (xf (zn (J8 rfl) rfl B.any VU (za (jG ["left"] [4] rfl rfl (by kernel_rfl) (z6 (yC hu1 (pv 2) (pv 8) (fun _ _=>rfl))) (fun _ _ _ _=>qc) (fun _ _ _ _=>(qE (Qd (K:=K) rfl) (pv 0) (pv 1) (by with_unfolding_all rfl)))) zd)))
          (zm (Zm))
          qA)
          (zf (zv (i:=9) nd rfl (Or.inl rfl) (zM zR rfl B.tuple zY (za (jG ["thing"] [8] rfl rfl (by kernel_rfl) (xg (pv 4)) (fun _ _ _ _=>(xM (zS QU (pv 0) (pv 1) (zJ _)))) (fun _ _ _ _=>(pv 0))) zd)))
          (zm (zQ PassesOwn.never rfl (z6 (yC hu1 (pv 1) (pv 8) (fun _ _=>rfl))) (z9 rfl (zw (zt (i:=10) nd rfl (Or.inl rfl)) (zw (zt (i:=11) nd rfl (Or.inl rfl)) zW)))
          (zf (zv (i:=12) nd rfl (Or.inl rfl) (zG (za (zr zF (pv 6) (zj Dway_between (hr.mono (by decide)) rfl (za (pv 5) (za (pv 11) zd)))) (za (zr Wq (pv 7) (zG (za (pv 10) zd))) zd))))
            (zm (XW hu2 (pv 3) (zG (za (pv 9) (za (pv 11) zd))) (zn (Qq rfl hu64) rfl B.min we (za (pv 12) (za (X8 hu2 (pv 3) (zG (za (pv 9) (za (pv 11) zd))) (pv 12) ⟨rfl,rfl,rfl,rfl⟩) zd))) rfl))))))))))
      (zm (zC (pv 3))))),?_⟩
    refine fun D oD hD=>?_
    have nd:D ≠ d:=fun z=>by rw [z,hd] at hD;cases hD
    refine ⟨_,rfl,d,o,xs,rfl,by rw [zi nd.symm];exact hd,fun q hq=>⟨q,d,o,xs,rfl,zc,?_,?_⟩⟩
    · rw [zi (zg (by rw [zi nd.symm];exact hd) hq),zi nd.symm];exact hd
    have nDq:D ≠ q:=zg zc hq
    have sm1:Same H (upd (upd H D (dP P w D oD [])) q (xT q d)):=(zb hD).trans (zb hq)
    have hD1:upd (upd H D (dP P w D oD [])) q (xT q d) D = some (dP P w D oD []):=by rw [zi nDq];exact zc
    refine JY (d:=d) (o:=o) (xs:=xs) (fun i σ H3=>∃ (oD:Obj) (ys:PEs) (fs:List En) (v4 v5 v6 v7 v8 v9 v10 v11 v12:Option V),σ = [some (.ref d),some (.ref g),some (.ref a),some (.ref D),v4,v5,v6,v7,v8,v9,v10,v11,v12] /\ Same H H3 /\ H3 D = some (dP P w D oD ys) /\ EnAt K H3 [] ys fs /\ Bst (qy (es.take i) gs) fs)
      ⟨oD,[],[],_,_,_,_,_,_,_,_,_,rfl,sm1,hD1,EnAt.nil,Bst.nil⟩ (fun i σ H3 _ ⟨_,_,_,_,_,_,_,_,_,_,_,_,_,s3,_,_,_⟩=>s3 _ _ hd) ?_ ?_
    rotate_left
    · rintro σ H3 ⟨oD,ys,fs,v4,v5,v6,v7,v8,v9,v10,v11,v12,rfl,s3,hD3,en3,bs3⟩
      rw [en.len,List.take_length] at bs3
      exact ⟨_,rfl,k D oD ys fs H3 hD s3 hD3 en3 bs3⟩
    rintro i kx ax vx σ H3 T hx ⟨oD,ys,fs,v4,v5,v6,v7,v8,v9,v10,v11,v12,rfl,s3,hD3,en3,bs3⟩ hT
    obtain ⟨e,he,ek,⟨U,qv,qU⟩,Bl,C,qa,qB,qC⟩:=en.get hx
    cases (show kx = ([t],plK e.1) from ek)
    have il:i < es.length:=(List.getElem?_eq_some_iff.mp he).1
    have sT:=s3.trans (zb (o:=.tup [.ref ax,.ref vx]) hT)
    refine ⟨T,_,rfl,SqT.of zc,rfl,_,_,rfl,ax,_,rfl,sT.sqT qa,rfl,_,_,rfl,_,_,rfl,rfl,_,_,rfl,vx,_,rfl,sT.sqT qv,rfl,_,_,rfl,_,_,rfl,rfl,rfl,?_⟩
    refine ⟨_,rfl,Bl,rfl,⟨_,sT.sqT qB⟩,yK (K:=K) (a:=Bl) (xs:=[kV t]) (fun j σ H5=>Ex8 fun (oD:Obj) (ys:PEs) (fs:List En) (v8 v9 v10 v11 v12:Option V)=>An5 (σ = [some (.ref d),some (.ref g),some (.ref a),some (.ref D),some (.ref Bl),some (.ref C),some (.int e.2.1),some (.ref U),v8,v9,v10,v11,v12]) (Same H H5) (H5 D = some (dP P w D oD ys)) (EnAt K H5 [] ys fs) (Bst (qy (es.take i) gs ++ if j = 0 then [] else gs.map (qM e)) fs))
      ⟨oD,ys,fs,_,_,_,_,_,rfl,sT,by rw [zi (zg hD3 hT)];exact hD3,en3.same (zb hT),by rw [if_pos rfl,List.append_nil];exact bs3⟩ (fun j σ H5 _ ⟨_,_,_,_,_,_,_,_,_,s5,_,_,_⟩=>s5.sqT qB) ?_ ?_⟩
    rotate_left
    · rintro σ H5 ⟨oD5,ys5,fs5,v8,v9,v10,v11,v12,rfl,s5,hD5,en5,bs5⟩
      refine ⟨oD5,ys5,fs5,_,_,_,_,_,_,_,_,_,rfl,s5,hD5,en5,?_⟩
      rw [jn he,VS]
      exact bs5
    rintro j x σ H5 hj ⟨oD5,ys5,fs5,v8,v9,v10,v11,v12,rfl,s5,hD5,en5,bs5⟩
    have hj0:j = 0:=by have:=(List.getElem?_eq_some_iff.mp hj).1;simp at this;exact this
    subst hj0
    cases hj
    rw [if_pos rfl,List.append_nil] at bs5
    have gA:∀ {H':Hp},Same H H' -> DGet H' a (kV t) (some (.ref al)):=fun s'=>by have:=DGet.k (k:=t) (s' _ _ ha);rw [at_] at this;exact this
    have gG:∀ {H':Hp},Same H H' -> DGet H' g (kV t) (some (.ref gl)):=fun s'=>by have:=DGet.k (k:=t) (s' _ _ hg);rw [gt] at this;exact this
    refine ⟨_,rfl,_,rfl,a,.ref al,rfl,gA s5,al,rfl,⟨_,SqL.of (s5 _ _ hal)⟩,yH (K:=K) (a:=al) (xs:=av) (fun j zs H6=>zs = (List.replicate j false).map V.bl /\ H6 = H5) ⟨rfl,rfl⟩ (fun j zs H6 ⟨_,h6⟩=>by rw [h6];exact SqL.of (s5 _ _ hal)) ?_ ?_⟩
    · rintro j x zs H6 hx6 ⟨rfl,rfl⟩
      obtain ⟨f1,f2⟩:=hav x (List.mem_of_getElem? hx6)
      have jl:=(List.getElem?_eq_some_iff.mp hx6).1
      refine ⟨rfl,_,rfl,_,rfl,Bl,[kV t],rfl,.inr (s5.sqT qB),f1,by show (qH (kV t) && true) = true;rw [WI];rfl,?_,?_,rfl⟩
      · rw [List.length_map,List.length_replicate];omega
      · rw [List.replicate_succ',List.map_append]
        show _ ++ [V.bl (eqV (kV t) x || false)] = _
        rw [f2];rfl
    rintro zs H6 ⟨rfl,rfl⟩
    refine ⟨by rw [List.length_map,List.length_replicate];omega,fun l hl=>⟨l,List.replicate av.length false,rfl,SqL.of zc,_,rfl,ifF (by simp) ?_⟩⟩
    have s6:=s5.trans (zb (o:=.lst ((List.replicate av.length false).map V.bl)) hl)
    have hD6:upd H6 l (.lst ((List.replicate av.length false).map V.bl)) D = some (dP P w D oD5 ys5):=by rw [zi (zg hD5 hl)];exact hD5
    have en6:=en5.same (zb (o:=.lst ((List.replicate av.length false).map V.bl)) hl)
    generalize upd H6 l (.lst ((List.replicate av.length false).map V.bl)) = H7 at s6 hD6 en6
    refine ⟨_,rfl,Bl,rfl,⟨_,s6.sqT qB⟩,yG (K:=K) (a:=Bl) (xs:=[kV t]) (fun j zs H8=>zs = [] /\ H8 = H7) ⟨rfl,rfl⟩ (fun j zs H8 ⟨_,h8⟩=>by rw [h8];exact s6.sqT qB) ?_ ?_⟩
    · rintro j x zs H8 hj8 ⟨rfl,rfl⟩
      have hj0:j = 0:=by have:=(List.getElem?_eq_some_iff.mp hj8).1;simp at this;exact this
      subst hj0
      cases hj8
      refine ⟨rfl,_,rfl,_,rfl,by cases t <;> rfl,_,rfl,ifF (by show (!decide (kV t = kV t)) = false;simp) ⟨rfl,rfl⟩⟩
    rintro zs H8 ⟨rfl,rfl⟩
    refine ⟨by show 0 <= _;omega,fun l2 hl2=>⟨l2,[],rfl,.inl ⟨SqL.of zc,fun R hR=>?_⟩⟩⟩
    have s8':Same H8 (upd (upd H8 l2 (.lst [])) R (.tup [])):=(zb hl2).trans (zb hR)
    have hRR:upd (upd H8 l2 (.lst [])) R (.tup []) R = some (.tup []):=zc
    generalize upd (upd H8 l2 (.lst [])) R (.tup []) = H9 at s8' hRR
    have s9:=s6.trans s8'
    refine ⟨_,rfl,_,rfl,g,.ref gl,rfl,gG s9,gl,rfl,⟨_,SqL.of (s9 _ _ hgl)⟩,jh (K:=K) (a:=gl) (xs:=gv) (fun j σ H8=>Ex6 fun (oD:Obj) (ys:PEs) (fs:List En) (v10 v11 v12:Option V)=>An6 (σ = [some (.ref d),some (.ref g),some (.ref a),some (.ref D),some (.ref Bl),some (.ref C),some (.int e.2.1),some (.ref U),some (kV t),some (.ref R),v10,v11,v12]) (Same H H8) (H8 R = some (.tup [])) (H8 D = some (dP P w D oD ys)) (EnAt K H8 [] ys fs) (Bst (qy (es.take i) gs ++ (gs.take j).map (qM e)) fs))
      ⟨oD5,ys5,fs5,_,_,_,rfl,s9,hRR,s8' _ _ hD6,en6.same s8',by simpa using bs5⟩ (fun j σ H8 _ ⟨_,_,_,_,_,_,_,s8,_,_,_,_⟩=>SqL.of (s8 _ _ hgl)) ?_ ?_⟩
    rotate_left
    · rintro σ H5 ⟨oD5,ys5,fs5,v10,v11,v12,rfl,s5,_,hD5,en5,bs5⟩
      refine ⟨oD5,ys5,fs5,_,_,_,_,_,rfl,s5,hD5,en5,?_⟩
      rw [lg,List.take_length] at bs5
      exact bs5
    clear s8' hRR hD6 en6 s9
    rintro j x σ H8 hj ⟨oD8,ys8,fs8,v10,v11,v12,rfl,s8,hR8,hD8,en8,bs8⟩
    obtain ⟨dd,hdd,rx⟩:=(rg.same s8).get hj
    rw [List.getElem?_map] at hdd
    obtain ⟨gg,hgg,rfl⟩:=Option.map_eq_some_iff.mp hdd
    obtain ⟨ga,gc,rfl,qga,qgc⟩:=WP rx
    have nl:=nsl e (List.mem_of_getElem? he)
    have jl:=(List.getElem?_eq_some_iff.mp hgg).1
    have fl:fs8.length <= 10100:=by
      have h1:=bs8.2.2
      rw [List.length_append,vq,List.length_map,List.length_take,List.length_take] at h1
      have h2:min i es.length * gs.length <= 100 * 100:=Nat.mul_le_mul (by omega) gsl
      omega
    refine ⟨ga,_,rfl,qga,rfl,_,_,rfl,_,_,rfl,rfl,?_⟩
    refine ⟨_,rfl,_,rfl,_,rfl,.ref C,.ref gc,e.1,gg.2,rfl,qP (s8.sqT qC),qP qgc,_,_,rfl,rfl,_,rfl,_,rfl,(by show 1 <= _;omega),fun q1 hq1=>⟨U,q1,_,_,rfl,rfl,(s8.trans (zb hq1)).sqT qU,SqT.of zc,(by rw [List.length_map];show _ + 1 <= _;omega),fun q2 H9 s9 hq2=>⟨(by show 2 <= _;omega),fun q3 hq3=>?_⟩⟩⟩
    have s10:Same H8 (upd H9 q3 (.tup [.int (e.2.1 + qF e.1 gg.2),.ref q2])):=(zb hq1).trans (s9.trans (zb hq3))
    have w3:WkAt K (upd H9 q3 (.tup [.int (e.2.1 + qF e.1 gg.2),.ref q2])) q3 (qM e gg).2:=⟨q2,SqT.of zc,by rw [show ((qM e gg).2.2.map V.int) = e.2.2.map V.int ++ [.int gg.1] by unfold qM;rw [List.map_append];rfl];exact (zb hq3).sqT hq2⟩
    generalize upd H9 q3 (.tup [.int (e.2.1 + qF e.1 gg.2),.ref q2]) = H10 at s10 w3
    have en10:=en8.same s10
    have hD10:=s10 _ _ hD8
    have hR10:=s10 _ _ hR8
    have qgc10:=s10.sqT qgc
    have s10H:=s8.trans s10
    have ky:∀ {k1:Addr} {H':Hp},Same H10 H' -> H' k1 = some (.tup [.ref R,.ref gc]) -> KyAt K H' ([],plK (qM e gg).1) k1:=fun s' hk=>⟨R,gc,SqT.of hk,SqT.of (s' _ _ hR10),s'.sqT qgc10⟩
    obtain ⟨v,q0,fs',ev,wv,fin⟩:∃ (v:Addr) (q0:Int × List Int) (fs':List En),((lkP ys8 ([],plK (qM e gg).1)).map fun p=>V.ref p.2).getD (.ref q3) = .ref v /\ WkAt K H10 v q0 /\ ∀ k2 H',Same H10 H' -> KyAt K H' ([],plK (qM e gg).1) k2 ->
        EnAt K H' [] (stP ys8 ([],plK (qM e gg).1) k2 (if ltW q0 (qM e gg).2 = true then v else q3)) fs' /\ Bst (qy (es.take i) gs ++ (gs.take j).map (qM e) ++ [qM e gg]) fs':=by
      rcases en10.look (qM e gg).1 with ⟨no,ne⟩ | ⟨a0,v0,e0,yes,m0,e0p,w0⟩
      · refine ⟨q3,(qM e gg).2,fs8 ++ [qM e gg],by rw [no];rfl,w3,fun k2 H' s' hk=>⟨?_,bs8.snoc⟩⟩
        rw [ite_self]
        exact (en10.same s').new hk (w3.same s') no ne
      · refine ⟨v0,e0.2,reE fs8 (qM e gg) (if ltW e0.2 (qM e gg).2 = true then e0.2 else (qM e gg).2),by rw [yes];rfl,w0,fun k2 H' s' hk=>⟨?_,bs8.re en8.nd m0 e0p⟩⟩
        refine (en10.same s').old (WkAt.same ?_ s') yes
        split
        · exact w0
        · exact w3
    refine ⟨_,rfl,_,rfl,D,oD8,ys8,rfl,hD10,_,rfl,_,rfl,(by show 2 <= _;omega),fun k1 hk1=>⟨_,rfl,k1,oD8,ys8,([],plK (qM e gg).1),rfl,zb hk1 _ _ hD10,(en10.same (zb hk1)).kys,ky (zb hk1) zc,?_⟩⟩
    rw [ev]
    refine ⟨q3,v,(qM e gg).2,q0,rfl,w3.same (zb hk1),wv.same (zb hk1),?_⟩
    refine ⟨_,rfl,_,rfl,_,rfl,(by show 2 <= _;omega),fun k2 hk2=>?_⟩
    have s12:Same H10 (upd (upd H10 k1 (.tup [.ref R,.ref gc])) k2 (.tup [.ref R,.ref gc])):=(zb hk1).trans (zb hk2)
    have hk2':upd (upd H10 k1 (.tup [.ref R,.ref gc])) k2 (.tup [.ref R,.ref gc]) k2 = some (.tup [.ref R,.ref gc]):=zc
    generalize upd (upd H10 k1 (.tup [.ref R,.ref gc])) k2 (.tup [.ref R,.ref gc]) = H12 at s12 hk2'
    obtain ⟨en12,bs12⟩:=fin k2 H12 s12 (ky s12 hk2')
    have hD12:=s12 _ _ hD10
    refine ⟨D,k2,_,oD8,ys8,([],plK (qM e gg).1),rfl,rfl,rfl,hD12,(en10.same s12).kys,ky s12 hk2',by rw [en8.len];omega,fun o'=>?_⟩
    refine ⟨o',_,fs',_,_,_,rfl,fun c u hc=>?_,?_,zc,en12.updX hD12,by rw [jn hgg,List.map_append,<- List.append_assoc];exact bs12⟩
    · rw [zi (zg hc hD)];exact s12 _ _ (s10H _ _ hc)
    · have hR12:=s12 _ _ hR10
      rw [zi (fun z=>by rw [z,hD12] at hR12;cases hR12)];exact hR12
end
def fpl (J:Job) (i:Nat):Pl:=((J.fs[i]?.map fun f=>(f.x,f.y)).getD (0,0))
def fgs (J:Job) (kd:Str):List (Int × Pl):=(atK J.fs kd J.fs.length).map fun (i:Nat)=>((i:Int),fpl J i)
theorem Je {fs:List jC} {kd:Str} {n i:Nat} (h:i ∈ atK fs kd n):∃ f,fs[i]? = some f /\ f.k = kd:=by
  have:=of_decide_eq_true (List.mem_filter.mp h).2
  exact Option.map_eq_some_iff.mp this
section
variable {P:Program} {w:World} {K:PySem.W.Frag} {mg:Str -> Option Value} {base:Heap}
theorem VF {H:Hp} {a c:Addr} {n:Int} {p:Pl} (h:SqT K H a [.int n,.ref c]) (hc:SqT K H c [.int p.1,.int p.2]):Rep K H (goD (n,p)) (.ref a):=⟨a,_,rfl,h,_,_,rfl,rfl,_,_,rfl,qP hc,rfl⟩
def OneL (H:Hp) (G:Addr) (t:Key) (l:Addr) (vs:List V):Prop:=H G = some (.dK [(t,.ref l)]) /\ H l = some (.lst vs)
theorem OneL.same {H H':Hp} {G l:Addr} {t:Key} {vs:List V} (h:OneL H G t l vs) (s:Same H H'):OneL H' G t l vs:=⟨s _ _ h.1,s _ _ h.2⟩
theorem vn (t:Key) (v:V):zK [(t,v)] t = some v:=zT rfl
theorem Ws {H H4:Hp} {G l:Addr} {t:Key} {zs:List V} (hG:H G = none) (s:Same H H4) (h4:H4 G = some (.dK [])) (hl:H4 l = some (.lst zs)):Same H (upd H4 G (.dK [(t,.ref l)])) /\ OneL (upd H4 G (.dK [(t,.ref l)])) G t l zs:=by
  refine ⟨fun c u hc=>?_,zc,?_⟩
  · rw [zi (zg hc hG)];exact s _ _ hc
  · rw [zi (fun z=>by rw [<- z,hl] at h4;cases h4)];exact hl
theorem yJ:∀ gs:List (Int × Pl),Dat.imms (gs.map goD) = true
  | []=>rfl
  | g :: gs=>by
    show (Dat.imm (goD g) && Dat.imms (gs.map goD)) = true
    rw [yJ gs];rfl
inductive Zc (P:Program) (w:World) (K:PySem.W.Frag) (vs:List V) (H:Hp) (Q:VK):Prop
  | mk (jp ks:Addr) (J:Job) (kd:Str) (_:vs = [.ref jp,.ref ks]) (_:Rep K H (jx J) (.ref jp)) (_:J.fs.length <= 100) (_:H ks = some (.lst [.str kd])) (_:∀ (D:Addr) (o':Obj) (ys:PEs) (fs:List En) H',H D = none -> Same H H' -> H' D = some (dP P w D o' ys) -> EnAt K H' [] ys fs -> Bst (qy [((J.gx,J.gy),(0,[]))] (fgs J kd)) fs -> Q (.ref D) H'):Zc P w K vs H Q
def ZW (P:Program) (w:World) (K:PySem.W.Frag):Sp:=fun vs H Q _=>Zc P w K vs H Q
theorem XC:zx ["job", "kinds", "goals", "aheads", "walks", "step"] ["job", "kinds"] (zo (zu 12)):=⟨rfl,rfl,rfl,by decide +kernel,rfl,by decide +kernel,by decide +kernel⟩
def Jj (jp:_) (ks:_) (G:_) (A2:_) (W:_) (H6:_) (H:_) (P:_) (w:_) (K:_) (J:_) (kd:_):=fun (i:Nat) (σ:St) (H7:Hp)=>((i = 0 /\ ∃ v5,σ = [some (.ref jp),some (.ref ks),some (.ref G),some (.ref A2),some (.ref W),v5] /\ H7 = H6) \/ (i = 1 /\ ∃ (D:Addr) (o':Obj) (ys:PEs) (fs:List En) (v5:Option V),σ = [some (.ref jp),some (.ref ks),some (.ref G),some (.ref A2),some (.ref D),v5] /\ H D = none /\ Same H H7 /\ H7 D = some (dP P w D o' ys) /\ EnAt K H7 [] ys fs /\ Bst (qy [((J.gx,J.gy),(0,[]))] (fgs J kd)) fs):Prop)
theorem Wv {f:Addr} {fd:FuncData} (F:Fun K "picking_walks" "picking_walks" (zu 12) f fd) (B:Blt mg) (Dfeeders_for:Dfn P w K mg base "feeders_for" 1 ["job", "kind"] (Xq K)) (Dfarther:Dfn P w K mg base "farther" 2 ["walks", "goals", "aheads"] (QF P w K)):FnOk P w K mg base CX0 3 f fd ["job", "kinds"] (ZW P w K):=by
  have nd:=XC.nd
  refine F.ok XC (fun vs H Q E h=>?_) (fun cdv A outer s H vs Q E hr h=>?_)
  · obtain ⟨jp,ks,J,kd,rfl,_⟩:=h
    rfl
  · obtain ⟨jp,ks,J,kd,rfl,rj,jl,hk,k⟩:=h
    have hu1:=ZC hr
    have hu64:=hr.units
    have hu2:=Nat.lt_of_le_of_lt (Nat.add_le_add_left (by decide:2 <= 64) _) hu64
    have sz:sizeLine = 16777216:=sizeLine_eq
    have e62:(2:Int) ^ 62 = 4611686018427387904:=by decide
    obtain ⟨g,fs,ps,as,fv,pxs,qj,rg,qf,rf,qp,rp,_⟩:=qm rj
    obtain ⟨g',eg,qg⟩:=qV (p:=(J.gx,J.gy)) rg
    cases eg
    have al:=yR J.fs kd J.fs.length
    have flen:(fgs J kd).length <= 100:=by unfold fgs;rw [List.length_map];omega
    refine ⟨_,(zf (yz ["job"] [0] yF yx rfl rfl (by kernel_rfl) (z6 (pv 1)) (fun _ _ _ _=>qc) (fun _ _ _ _=>(pv 0)) (fun _ _ _ _=>(jG ["job"] [1] rfl rfl (by kernel_rfl) (Zo (K:=K) rfl (zj Dfeeders_for (hr.mono (by decide)) rfl (za (pv 1) (za (pv 0) zd)))) (fun _ _ _ _=>qc) (fun _ _ _ _=>(zG (za (pv 0) (za (zy (zO (K:=K) rfl) (zy (zO (K:=K) rfl) (zy (zO (K:=K) rfl) (pv 1) ze (fun _ _=>rfl)) (pv 0) (fun _ _=>rfl)) ze (fun _ _=>rfl)) zd)))))) (zt (i:=2) nd rfl (Or.inl rfl)))
      (zf (yz [] [] yF yx rfl rfl (by kernel_rfl) (z6 (pv 1)) (fun _ _ _ _=>qc) (fun _ _ _ _=>(pv 0)) (fun _ _ _ _=>(zU zd)) (zt (i:=3) nd rfl (Or.inl rfl)))
      (zf (zv (i:=4) nd rfl (Or.inl rfl) (X7 hu2 (zG (za (zM zR rfl B.tuple zY (za (pv 1) zd)) (za (zy zX (pv 0) ze (fun _ _=>rfl)) zd))) (zG (za ze (za (zG zd) zd)))))
      (zf (zQ PassesOwn.never rfl (zI rfl B.range (za (zn zB rfl B.len boot_len (za (pv 1) zd)) zd)) (zt (i:=5) nd rfl (Or.inl rfl))
      (zm (zv (i:=4) nd rfl (Or.inl rfl) (zj Dfarther (hr.mono (by decide)) rfl (za (pv 4) (za (pv 2) (za (pv 3) zd)))))))
      (zm (zC (pv 4))))))),?_⟩
    refine ⟨_,rfl,ks,rfl,⟨_,SqL.of hk⟩,fun G hG=>?_⟩
    have nGk:ks ≠ G:=zg hk hG
    refine vp (K:=K) (a:=ks) (D:=G) (xs:=[.str kd]) (fun i H1=>(i = 0 /\ H1 = upd H G (.dK [])) \/ (i = 1 /\ ∃ gl gv,Same H H1 /\ OneL H1 G (.inr kd) gl gv /\ Reps K H1 ((fgs J kd).map goD) gv)) (.inl ⟨rfl,rfl⟩) (fun i H1 h1=>?_) ?_ ?_
    · rcases h1 with ⟨_,rfl⟩ | ⟨_,gl,gv,s1,_⟩
      · exact SqL.of (by rw [zi nGk];exact hk)
      · exact SqL.of (s1 _ _ hk)
    · rintro i x H1 hx h1
      have hi0:i = 0:=by have:=(List.getElem?_eq_some_iff.mp hx).1;simp at this;exact this
      subst hi0
      cases hx
      rcases h1 with ⟨_,rfl⟩ | ⟨z,_⟩
      rotate_left
      · cases z
      have s1:Same H (upd H G (.dK [])):=zb hG
      have hG1:upd H G (.dK []) G = some (.dK []):=zc
      generalize upd H G (.dK []) = H1 at s1 hG1
      refine ⟨rfl,_,rfl,_,rfl,_,rfl,jp,J,kd,rfl,rj.same s1,jl,fun l H2 hl s2 hl2=>⟨l,rfl,⟨_,SqL.of hl2⟩,?_⟩⟩
      have s12:=s1.trans s2
      refine yH (K:=K) (a:=l) (xs:=vg (atK J.fs kd J.fs.length)) (fun j zs H3=>Same H2 H3 /\ Reps K H3 (((fgs J kd).take j).map goD) zs) ⟨Same.refl _,rfl⟩ (fun j zs H3 ⟨s3,_⟩=>SqL.of (s3 _ _ hl2)) ?_ ?_
      · rintro j x zs H3 hx ⟨s3,rz⟩
        obtain ⟨n,hn,rfl⟩:=Zr hx
        obtain ⟨fe,hfe,_⟩:=Je (List.mem_of_getElem? hn)
        have s13:=s12.trans s3
        obtain ⟨v,hv,rv⟩:=yQ (rf.same s13) hfe
        obtain ⟨fa,fc,rfl,qfa,qfc⟩:=jY rv
        have zl:=rz.len
        rw [List.length_map,List.length_take] at zl
        have hg:(fgs J kd)[j]? = some ((n:Int),(fe.x,fe.y)):=by
          unfold fgs
          rw [List.getElem?_map,hn]
          show some ((n:Int),fpl J n) = _
          unfold fpl
          rw [hfe];rfl
        refine ⟨rfl,_,rfl,_,rfl,jp,_,_,_,rfl,rfl,s13.sqT qj,rfl,_,rfl,fs,_,_,_,rfl,rfl,s13.sqT qf,qZ hv,fa,_,_,_,rfl,rfl,qfa,rfl,(by show 2 <= _;omega),fun T hT=>⟨by omega,s3.trans (zb hT),?_⟩⟩
        rw [jn hg,List.map_append]
        exact Reps.snoc (VF (SqT.of zc) ((zb hT).sqT qfc)) (rz.same (zb hT))
      · rintro zs H3 ⟨s3,rz⟩
        rw [xx] at rz
        have el:(fgs J kd).length = (atK J.fs kd J.fs.length).length:=by unfold fgs;rw [List.length_map]
        rw [<- el,List.take_length] at rz
        have zl:=rz.len
        rw [List.length_map] at zl
        refine ⟨by omega,fun l4 hl4=>?_⟩
        have s4:=s3.trans (zb (o:=.lst zs) hl4)
        have h4:=zb (o:=.lst zs) hl4 _ _ (s3 _ _ (s2 _ _ hG1))
        obtain ⟨s5,o5⟩:=Ws (t:=.inr kd) hG (s12.trans s4) h4 (zc (o:=.lst zs))
        exact ⟨[],.inr kd,h4,rfl,by show 0 < _;omega,.inr ⟨rfl,l4,zs,s5,o5,Reps.keep (SameT.putD h4) (yJ _) (rz.same (zb hl4))⟩⟩
    rintro H1 (⟨z,_⟩ | ⟨_,gl,gv,s1,o1,r1⟩)
    · cases z
    refine ⟨_,rfl,ks,rfl,⟨_,SqL.of (s1 _ _ hk)⟩,fun A2 hA=>?_⟩
    refine vp (K:=K) (a:=ks) (D:=A2) (xs:=[.str kd]) (fun i H2=>(i = 0 /\ H2 = upd H1 A2 (.dK [])) \/ (i = 1 /\ ∃ l2,Same H1 H2 /\ OneL H2 A2 (.inr kd) l2 [])) (.inl ⟨rfl,rfl⟩) (fun i H2 h2=>?_) ?_ ?_
    · rcases h2 with ⟨_,rfl⟩ | ⟨_,l2,s2,_⟩
      · exact SqL.of (zb hA _ _ (s1 _ _ hk))
      · exact SqL.of (s2 _ _ (s1 _ _ hk))
    · rintro i x H2 hx h2
      have hi0:i = 0:=by have:=(List.getElem?_eq_some_iff.mp hx).1;simp at this;exact this
      subst hi0
      cases hx
      rcases h2 with ⟨_,rfl⟩ | ⟨z,_⟩
      rotate_left
      · cases z
      refine ⟨rfl,_,rfl,(by show 0 <= _;omega),fun l hl=>?_⟩
      have h4:=zb (o:=.lst []) hl _ _ (zc (H:=H1) (a:=A2) (o:=.dK []))
      obtain ⟨s5,o5⟩:=Ws (t:=.inr kd) hA ((zb hA).trans (zb hl)) h4 zc
      exact ⟨[],.inr kd,h4,rfl,by show 0 < _;omega,.inr ⟨rfl,l,s5,o5⟩⟩
    rintro H2 (⟨z,_⟩ | ⟨_,l2,s2,o2⟩)
    · cases z
    have s12:=s1.trans s2
    have o1:=o1.same s2
    have r1:=r1.same s2
    refine fun W oW hW=>(?_:vD _ _ (upd H2 W (dP P w W oW [])) _)
    have sW:=zb (o:=dP P w W oW []) hW
    refine ⟨_,rfl,ks,_,rfl,.inl ⟨SqL.of (sW _ _ (s12 _ _ hk)),fun tk htk=>?_⟩⟩
    have s3:=(s12.trans sW).trans (zb (o:=.tup [.str kd]) htk)
    refine ⟨_,rfl,jp,_,_,_,rfl,rfl,s3.sqT qj,rfl,(by show 2 <= _;omega),fun k1 hk1=>⟨(by show 0 <= _;omega),fun u0 hu0=>⟨(by show 2 <= _;omega),fun v1 hv1=>?_⟩⟩⟩
    have s4:Same (upd (upd H2 W (dP P w W oW [])) tk (.tup [.str kd])) (upd (upd (upd (upd (upd H2 W (dP P w W oW [])) tk (.tup [.str kd])) k1 (.tup [.ref tk,.ref g])) u0 (.tup [])) v1 (.tup [.int 0,.ref u0])):=(zb hk1).trans ((zb hu0).trans (zb hv1))
    have e1:=((zb (o:=.tup []) hu0).trans (zb (o:=.tup [.int 0,.ref u0]) hv1)) _ _ (zc (H:=upd (upd H2 W (dP P w W oW [])) tk (.tup [.str kd])) (a:=k1) (o:=.tup [.ref tk,.ref g]))
    have e2:=(zb (o:=.tup [.int 0,.ref u0]) hv1) _ _ (zc (H:=upd (upd (upd H2 W (dP P w W oW [])) tk (.tup [.str kd])) k1 (.tup [.ref tk,.ref g])) (a:=u0) (o:=.tup []))
    have e3:=zc (H:=upd (upd (upd (upd H2 W (dP P w W oW [])) tk (.tup [.str kd])) k1 (.tup [.ref tk,.ref g])) u0 (.tup [])) (a:=v1) (o:=.tup [.int 0,.ref u0])
    have e4:=s4 _ _ (zc (H:=upd H2 W (dP P w W oW [])) (a:=tk) (o:=.tup [.str kd]))
    have e5:=s4 _ _ (zb (o:=.tup [.str kd]) htk _ _ (zc (H:=H2) (a:=W) (o:=dP P w W oW [])))
    have s5:=s3.trans s4
    have s25:Same H2 _:=(sW.trans (zb htk)).trans s4
    generalize upd (upd (upd (upd (upd H2 W (dP P w W oW [])) tk (.tup [.str kd])) k1 (.tup [.ref tk,.ref g])) u0 (.tup [])) v1 (.tup [.int 0,.ref u0]) = H5 at e1 e2 e3 e4 e5 s5 s25
    have ky:KyAt K H5 ([.inr kd],plK (J.gx,J.gy)) k1:=⟨tk,g,SqT.of e1,SqT.of e4,s5.sqT qg⟩
    have wk:WkAt K H5 v1 (0,[]):=⟨u0,SqT.of e3,SqT.of e2⟩
    refine ⟨k1,v1,oW,([.inr kd],plK (J.gx,J.gy)),rfl,e5,ky,fun o'=>(?_:YC _ _ _ _ (upd H5 W (dP P w W o' [(([.inr kd],plK (J.gx,J.gy)),k1,v1)])))⟩
    have s6:Same H2 (upd H5 W (dP P w W o' [(([.inr kd],plK (J.gx,J.gy)),k1,v1)])):=fun c u hc=>by rw [zi (zg hc hW)];exact s25 _ _ hc
    have en:EnAt K (upd H5 W (dP P w W o' [(([.inr kd],plK (J.gx,J.gy)),k1,v1)])) [.inr kd] [(([.inr kd],plK (J.gx,J.gy)),k1,v1)] [((J.gx,J.gy),(0,[]))]:=by
      refine ⟨rfl,by simp,fun i x e hx he=>?_⟩
      have hi0:i = 0:=by have:=(List.getElem?_eq_some_iff.mp hx).1;simp at this;exact this
      subst hi0
      cases hx
      cases he
      exact ⟨rfl,wk.updX e5,ky.updX e5⟩
    have hW6:upd H5 W (dP P w W o' [(([.inr kd],plK (J.gx,J.gy)),k1,v1)]) W = some (dP P w W o' [(([.inr kd],plK (J.gx,J.gy)),k1,v1)]):=zc
    generalize upd H5 W (dP P w W o' [(([.inr kd],plK (J.gx,J.gy)),k1,v1)]) = H6 at s6 en hW6
    have sH:=s12.trans s6
    refine ⟨_,rfl,ks,_,rfl,.inl (SqL.of (sH _ _ hk)),_,rfl,(by rw [e62,List.length_singleton];omega),(by rw [e62,List.length_singleton];omega),zV (Jj jp ks G A2 W H6 H P w K J kd) (.inl ⟨rfl,_,rfl,rfl⟩) ?_ ?_⟩
    · rintro i σ H7 hi (⟨rfl,v5,rfl,rfl⟩ | ⟨rfl,_⟩)
      rotate_left
      · exact absurd (show 1 < 1 from hi) (by decide)
      obtain ⟨a1,a2⟩:=o1.same s6
      obtain ⟨b1,b2⟩:=o2.same s6
      refine ⟨_,rfl,_,rfl,_,rfl,W,G,A2,gl,l2,o',_,_,.inr kd,_,_,gv,[],fgs J kd,rfl,hW6,en,a1,vn _ _,a2,r1.same s6,b1,vn _ _,b2,(fun v hv=>nomatch hv),(show 1 <= 100 by decide),flen,(show 0 <= 100 by decide),(fun e he=>by cases List.mem_singleton.mp he;exact (show 0 <= 100 by decide)),fun D oD ys fs H8 hD s8 hD8 en8 bs8=>?_⟩
      exact .inr ⟨rfl,D,oD,ys,fs,_,rfl,sH.none hD,sH.trans s8,hD8,en8,bs8⟩
    · rintro σ H7 (⟨z,_⟩ | ⟨_,D,oD,ys,fs,v5,rfl,hD,s7,hD7,en7,bs7⟩)
      · exact absurd (show 1 = 0 from z) (by decide)
      · exact ⟨_,rfl,k D oD ys fs H7 hD s7 hD7 en7 bs7⟩
end
section
variable {P:Program} {w:World} {K:PySem.W.Frag} {mg:Str -> Option Value} {base:Heap}
def JAh (J:Job):Prop:=J.ps.length <= 60 /\ (∀ q ∈ asI J,InN J.ps.length q.1 /\ InN J.ps.length q.2) /\ J.as.length <= 300
inductive Ze (P:Program) (w:World) (K:PySem.W.Frag) (vs:List V) (H:Hp) (Q:VK):Prop
  | mk (jp d pa:Addr) (o:Obj) (xs:PEs) (es:List En) (J:Job) (i:Nat) (p:xK) (_:vs = [.ref jp,.ref d,.ref pa]) (_:Rep K H (jx J) (.ref jp)) (_:JAh J) (_:J.ps[i]? = some p) (_:H d = some (dP P w d o xs)) (_:EnAt K H [] xs es) (_:es.length <= 100) (_:(∀ e ∈ es,e.2.2.length <= 100)) (_:H pa = some (.lst [.int (i:Int)])) (_:∀ (D:Addr) (o':Obj) (ys:PEs) (fs:List En) H',H D = none -> Same H H' -> H' D = some (dP P w D o' ys) -> EnAt K H' [] ys fs -> Bst (qy es [((i:Int),(p.x,p.y))]) fs -> Q (.ref D) H'):Ze P w K vs H Q
def ZY (P:Program) (w:World) (K:PySem.W.Frag):Sp:=fun vs H Q _=>Ze P w K vs H Q
theorem XE:zx ["job", "walks", "parts", "goals", "aheads", "onward", "step"] ["job", "walks", "parts"] (zo (zu 13)):=⟨rfl,rfl,rfl,by decide +kernel,rfl,by decide +kernel,by decide +kernel⟩
theorem Wy {f:Addr} {fd:FuncData} (F:Fun K "laying_walks" "laying_walks" (zu 13) f fd) (B:Blt mg) (Dahead_of:Dfn P w K mg base "ahead_of" 3 ["job", "part"] (yr K)) (Dfarther:Dfn P w K mg base "farther" 2 ["walks", "goals", "aheads"] (QF P w K)):FnOk P w K mg base CX0 4 f fd ["job", "walks", "parts"] (ZY P w K):=by
  have nd:=XE.nd
  refine F.ok XE (fun vs H Q E h=>?_) (fun cdv A outer s H vs Q E hr h=>?_)
  · obtain ⟨jp,d,pa,o,xs,es,J,i,p,rfl,_⟩:=h
    rfl
  · obtain ⟨jp,d,pa,o,xs,es,J,i,p,rfl,rj,⟨j1,j2,j3⟩,hp,hd,en,el,nsl,hk,k⟩:=h
    have hu1:=ZC hr
    have hu64:=hr.units
    have hu2:=Nat.lt_of_le_of_lt (Nat.add_le_add_left (by decide:2 <= 64) _) hu64
    have sz:sizeLine = 16777216:=sizeLine_eq
    have e62:(2:Int) ^ 62 = 4611686018427387904:=by decide
    obtain ⟨g,fs,ps,as,fv,pxs,qj,rg,qf,rf,qp,rp,_⟩:=qm rj
    obtain ⟨v,hv,rv⟩:=yQ rp hp
    obtain ⟨fa,fc,rfl,qfa,qfc⟩:=xO rv
    have il:=(List.getElem?_eq_some_iff.mp hp).1
    refine ⟨_,(zf (yz ["job"] [0] yF yx rfl rfl (by kernel_rfl) (z6 (pv 2)) (fun _ _ _ _=>qc) (fun _ _ _ _=>(pv 0)) (fun _ _ _ _=>(zU (za (zG (za (pv 0) (za (zy (zO (K:=K) rfl) (zy (zO (K:=K) rfl) (zy (zO (K:=K) rfl) (pv 1) ze (fun _ _=>rfl)) (pv 0) (fun _ _=>rfl)) ze (fun _ _=>rfl)) zd))) zd))) (zt (i:=3) nd rfl (Or.inl rfl)))
      (zf (yz ["job"] [0] yF yx rfl rfl (by kernel_rfl) (z6 (pv 2)) (fun _ _ _ _=>qc) (fun _ _ _ _=>(pv 0)) (fun _ _ _ _=>(zj Dahead_of (hr.mono (by decide)) rfl (za (pv 1) (za (pv 0) zd)))) (zt (i:=4) nd rfl (Or.inl rfl)))
      (zf (XX ["parts"] [2] zad (YO hu1) rfl rfl (by kernel_rfl) (vM (xN (pv 1))) (fun _ _ _ _=>qc) (fun _ _ _ _=>(zG (za (zM (vZ (K:=K) rfl) rfl B.tuple zY (za (pv 3) zd)) (za (pv 1) zd)))) (fun _ _ _ _=>(pv 2)) (zt (i:=5) nd rfl (Or.inl rfl)))
      (zf (zQ PassesOwn.never rfl (zI rfl B.range (za (zn zB rfl B.len boot_len (za (pv 2) zd)) zd)) (zt (i:=6) nd rfl (Or.inl rfl))
      (zm (zv (i:=5) nd rfl (Or.inl rfl) (zj Dfarther (hr.mono (by decide)) rfl (za (pv 5) (za (pv 3) (za (pv 4) zd)))))))
      (zm (zC (pv 5))))))),?_⟩
    refine ⟨_,rfl,pa,rfl,⟨_,SqL.of hk⟩,fun G hG=>?_⟩
    refine vp (K:=K) (a:=pa) (D:=G) (xs:=[.int (i:Int)]) (fun j H1=>(j = 0 /\ H1 = upd H G (.dK [])) \/ (j = 1 /\ ∃ gl gv,Same H H1 /\ OneL H1 G (.inl (i:Int)) gl gv /\ Reps K H1 ([((i:Int),(p.x,p.y))].map goD) gv)) (.inl ⟨rfl,rfl⟩) (fun j H1 h1=>?_) ?_ ?_
    · rcases h1 with ⟨_,rfl⟩ | ⟨_,gl,gv,s1,_⟩
      · exact SqL.of (zb hG _ _ hk)
      · exact SqL.of (s1 _ _ hk)
    · rintro j x H1 hx h1
      have hi0:j = 0:=by have:=(List.getElem?_eq_some_iff.mp hx).1;simp at this;exact this
      subst hi0
      cases hx
      rcases h1 with ⟨_,rfl⟩ | ⟨z,_⟩
      rotate_left
      · cases z
      have s1:Same H (upd H G (.dK [])):=zb hG
      have hG1:upd H G (.dK []) G = some (.dK []):=zc
      generalize upd H G (.dK []) = H1 at s1 hG1
      refine ⟨rfl,_,rfl,_,rfl,_,rfl,jp,_,_,_,rfl,rfl,s1.sqT qj,rfl,_,rfl,ps,_,_,_,rfl,rfl,s1.sqT qp,qZ hv,fa,_,_,_,rfl,rfl,s1.sqT qfa,rfl,(by show 2 <= _;omega),fun T hT=>⟨(by show 1 <= _;omega),fun l hl=>?_⟩⟩
      have s2:=(zb (o:=.tup [.int (i:Int),.ref fc]) hT).trans (zb (o:=.lst [.ref T]) hl)
      have h4:=s2 _ _ hG1
      obtain ⟨s5,o5⟩:=Ws (t:=.inl (i:Int)) hG (s1.trans s2) h4 zc
      refine ⟨[],.inl (i:Int),h4,rfl,by show 0 < _;omega,.inr ⟨rfl,l,_,s5,o5,Reps.keep (SameT.putD h4) (yJ _) ?_⟩⟩
      exact ⟨_,[],rfl,VF (SqT.of (zb hl _ _ zc)) ((s1.trans s2).sqT qfc),rfl⟩
    rintro H1 (⟨z,_⟩ | ⟨_,gl,gv,s1,o1,r1⟩)
    · cases z
    refine ⟨_,rfl,pa,rfl,⟨_,SqL.of (s1 _ _ hk)⟩,fun A2 hA=>?_⟩
    refine vp (K:=K) (a:=pa) (D:=A2) (xs:=[.int (i:Int)]) (fun j H2=>(j = 0 /\ H2 = upd H1 A2 (.dK [])) \/ (j = 1 /\ ∃ (l2:Addr) (ms:List Int),Same H1 H2 /\ OneL H2 A2 (.inl (i:Int)) l2 (ms.map V.int) /\ ms.length <= 60 /\ ∀ m ∈ ms,m ≠ (i:Int))) (.inl ⟨rfl,rfl⟩) (fun j H2 h2=>?_) ?_ ?_
    · rcases h2 with ⟨_,rfl⟩ | ⟨_,l2,ms,s2,_⟩
      · exact SqL.of (zb hA _ _ (s1 _ _ hk))
      · exact SqL.of (s2 _ _ (s1 _ _ hk))
    · rintro j x H2 hx h2
      have hi0:j = 0:=by have:=(List.getElem?_eq_some_iff.mp hx).1;simp at this;exact this
      subst hi0
      cases hx
      rcases h2 with ⟨_,rfl⟩ | ⟨z,_⟩
      rotate_left
      · cases z
      have s2:Same H1 (upd H1 A2 (.dK [])):=zb hA
      have hA1:upd H1 A2 (.dK []) A2 = some (.dK []):=zc
      generalize upd H1 A2 (.dK []) = H2 at s2 hA1
      refine ⟨rfl,_,rfl,_,rfl,_,rfl,(i:Int),jp,J,rfl,(rj.same s1).same s2,j1,⟨by omega,by omega⟩,j2,j3,fun l ms H3 s3 hl hl3 ml _ mem=>?_⟩
      have h4:=s3 _ _ hA1
      obtain ⟨s5,o5⟩:=Ws (t:=.inl (i:Int)) hA (s2.trans s3) h4 hl3
      exact ⟨[],.inl (i:Int),h4,rfl,by show 0 < _;omega,.inr ⟨rfl,l,ms,s5,o5,ml,fun m hm=>((mem m).mp hm).1⟩⟩
    rintro H2 (⟨z,_⟩ | ⟨_,l2,ms,s2,o2,ml,mi⟩)
    · cases z
    have s12:=s1.trans s2
    have o1:=o1.same s2
    have r1:=r1.same s2
    refine ⟨_,rfl,d,o,xs,rfl,s12 _ _ hd,fun q hq=>⟨q,d,o,xs,rfl,zc,zb hq _ _ (s12 _ _ hd),fun D hD=>?_⟩⟩
    have sq:=zb (o:=xT q d) hq
    have s1q:=s12.trans sq
    have o1:=o1.same sq
    have o2:=o2.same sq
    have r1:=r1.same sq
    generalize upd H2 q (xT q d) = Hq at sq s1q hD o1 o2 r1
    refine VO (P:=P) (w:=w) (d:=d) (D:=D) (o:=o) (xs:=xs) (fun j H3=>∃ (oD:Obj) (ys:PEs),Same Hq H3 /\ H3 D = some (dP P w D oD ys) /\ EnAt K H3 [.inl (i:Int)] ys (es.take j)) ⟨VM,[],zb hD,zc,EnAt.nil⟩ (fun j H3 ⟨_,_,s3,_⟩=>s3 _ _ (s1q _ _ hd)) ?_ ?_
    · rintro j kx ax vx H3 T hx ⟨oD,ys,s3,hD3,en3⟩ hT
      obtain ⟨e,he,ek,wk,Bl,C,qa,qB,qC⟩:=en.get hx
      cases (show kx = ([],plK e.1) from ek)
      have jl:=(List.getElem?_eq_some_iff.mp he).1
      have sT:=zb (o:=.tup [.ref ax,.ref vx]) hT
      have s3H:=(s1q.trans s3).trans sT
      refine ⟨T,_,rfl,SqT.of zc,rfl,_,_,rfl,ax,_,rfl,s3H.sqT qa,rfl,_,_,rfl,_,_,rfl,rfl,_,_,rfl,rfl,rfl,?_⟩
      refine ⟨_,rfl,pa,_,rfl,.inl ⟨SqL.of (s3H _ _ hk),fun tk htk=>⟨_,rfl,(by show 2 <= _;omega),fun k1 hk1=>?_⟩⟩⟩
      have s4:=(zb (o:=.tup [.int (i:Int)]) htk).trans (zb (o:=.tup [.ref tk,.ref C]) hk1)
      have ek1:=zc (H:=upd (upd H3 T (.tup [.ref ax,.ref vx])) tk (.tup [.int (i:Int)])) (a:=k1) (o:=.tup [.ref tk,.ref C])
      have etk:=zb (o:=.tup [.ref tk,.ref C]) hk1 _ _ (zc (H:=upd H3 T (.tup [.ref ax,.ref vx])) (a:=tk) (o:=.tup [.int (i:Int)]))
      generalize upd (upd (upd H3 T (.tup [.ref ax,.ref vx])) tk (.tup [.int (i:Int)])) k1 (.tup [.ref tk,.ref C]) = H4 at s4 ek1 etk
      have s34:=sT.trans s4
      have hD4:=s34 _ _ hD3
      have ky:KyAt K H4 ([.inl (i:Int)],plK e.1) k1:=⟨tk,C,SqT.of ek1,SqT.of etk,(s3H.trans s4).sqT qC⟩
      have en4:=en3.same s34
      have el2:=en3.len
      rw [List.length_take] at el2
      obtain ⟨no,ne⟩:lkP ys ([.inl (i:Int)],plK e.1) = none /\ ∀ e' ∈ es.take j,e'.1 ≠ e.1:=by
        rcases en4.look e.1 with z | ⟨_,_,e',_,m',e1,_⟩
        · exact z
        · exfalso
          obtain ⟨m,hm⟩:=List.mem_iff_getElem?.mp m'
          have hml:=(List.getElem?_eq_some_iff.mp hm).1
          rw [List.length_take] at hml
          rw [List.getElem?_take_of_lt (by omega)] at hm
          have e2:(es.map Prod.fst)[m]? = some e.1:=by rw [List.getElem?_map,hm];exact congrArg some e1
          have e3:(es.map Prod.fst)[j]? = some e.1:=by rw [List.getElem?_map,he];rfl
          have:=(List.getElem?_inj (by rw [List.length_map];omega) en.nd).mp (e2.trans e3.symm)
          omega
      refine ⟨_,rfl,k1,vx,oD,ys,([.inl (i:Int)],plK e.1),rfl,rfl,hD4,en4.kys,ky,by omega,fun o'=>⟨o',_,fun c u hc=>?_,zc,?_⟩⟩
      · rw [zi (zg hc hD)];exact s34 _ _ (s3 _ _ hc)
      · rw [jn he]
        exact (en4.new (c:=e) ky (wk.same (s3H.trans s4)) no ne).updX hD4
    rintro H3 ⟨oD,ys,s3,hD3,en3⟩
    rw [en.len,List.take_length] at en3
    have sH:=s1q.trans s3
    refine ⟨_,rfl,pa,_,rfl,.inl (SqL.of (sH _ _ hk)),_,rfl,(by rw [e62,List.length_singleton];omega),(by rw [e62,List.length_singleton];omega),zV (fun j σ H7=>(j = 0 /\ ∃ v6,σ = [some (.ref jp),some (.ref d),some (.ref pa),some (.ref G),some (.ref A2),some (.ref D),v6] /\ H7 = H3) \/ (j = 1 /\ ∃ (D:Addr) (o':Obj) (ys:PEs) (fs:List En) (v6:Option V),σ = [some (.ref jp),some (.ref d),some (.ref pa),some (.ref G),some (.ref A2),some (.ref D),v6] /\ H D = none /\ Same H H7 /\ H7 D = some (dP P w D o' ys) /\ EnAt K H7 [] ys fs /\ Bst (qy es [((i:Int),(p.x,p.y))]) fs)) (.inl ⟨rfl,_,rfl,rfl⟩) ?_ ?_⟩
    · rintro j σ H7 hj (⟨rfl,v6,rfl,rfl⟩ | ⟨rfl,_⟩)
      rotate_left
      · exact absurd (show 1 < 1 from hj) (by decide)
      obtain ⟨a1,a2⟩:=o1.same s3
      obtain ⟨b1,b2⟩:=o2.same s3
      refine ⟨_,rfl,_,rfl,_,rfl,D,G,A2,gl,l2,oD,ys,es,.inl (i:Int),_,_,gv,_,[((i:Int),(p.x,p.y))],rfl,hD3,en3,a1,vn _ _,a2,r1.same s3,b1,vn _ _,b2,(fun v hv=>?_),el,(show 1 <= 100 by decide),by rw [List.length_map];omega,nsl,fun D oD ys fs H8 hD s8 hD8 en8 bs8=>?_⟩
      · obtain ⟨m,hm,rfl⟩:=List.mem_map.mp hv
        refine ⟨rfl,?_⟩
        have:=mi m hm
        show ((i:Int) == m) = false
        simp;omega
      · exact .inr ⟨rfl,D,oD,ys,fs,_,rfl,sH.none hD,sH.trans s8,hD8,en8,bs8⟩
    · rintro σ H7 (⟨z,_⟩ | ⟨_,D,oD,ys,fs,v5,rfl,hD,s7,hD7,en7,bs7⟩)
      · exact absurd (show 1 = 0 from z) (by decide)
      · exact ⟨_,rfl,k D oD ys fs H7 hD s7 hD7 en7 bs7⟩
end
section
variable {P:Program} {w:World} {K:PySem.W.Frag} {mg:Str -> Option Value} {base:Heap}
inductive Qy (K:PySem.W.Frag) (vs:List V) (H:Hp) (Q:VK):Prop
  | mk (jp fa pa:Addr) (J:Job) (ns:List Nat) (i:Nat) (_:vs = [.ref jp,.ref fa,.ref pa]) (_:Rep K H (jx J) (.ref jp)) (_:SqT K H fa (vg ns)) (_:ns.length <= 100) (_:(∀ n ∈ ns,n < J.fs.length)) (_:H pa = some (.lst [.int (i:Int)])) (_:i < J.ps.length) (_:∀ t H',Same H H' -> Q (.ref t) H'):Qy K vs H Q
def Xm (K:PySem.W.Frag):Sp:=fun vs H Q _=>Qy K vs H Q
theorem W9:zx ["job", "feeders", "parts"] ["job", "feeders", "parts"] (zo (zu 14)):=⟨rfl,rfl,rfl,by decide +kernel,rfl,by decide +kernel,by decide +kernel⟩
theorem Y5 {f:Addr} {fd:FuncData} (F:Fun K "picks_at" "picks_at" (zu 14) f fd) (B:Blt mg) (Dkind_of:Dfn P w K mg base "kind_of" 1 ["job", "part"] (Wa K)):FnOk P w K mg base CX0 2 f fd ["job", "feeders", "parts"] (Xm K):=by
  have nd:=W9.nd
  refine F.ok W9 (fun vs H Q E h=>?_) (fun cdv A outer s H vs Q E hr h=>?_)
  · obtain ⟨jp,fa,pa,J,ns,i,rfl,_⟩:=h
    rfl
  · obtain ⟨jp,fa,pa,J,ns,i,rfl,rj,hf,nl,nf,hp,il,k⟩:=h
    have sz:sizeLine = 16777216:=sizeLine_eq
    obtain ⟨g,fs,ps,as,fv,pxs,qj,_,qf,rf,qp,rp,_⟩:=qm rj
    refine ⟨_,(zm (zC (zM zR rfl B.tuple zY (za (Wl ["parts", "job"] [2,0] rfl rfl (by kernel_rfl) (xg (pv 1)) (fun _ _ _ _=>qc) (fun _ _ _ _=>(Zo (K:=K) rfl (pv 2))) (fun _ _ _ _=>(xM (zS jf (zj Dkind_of (hr.mono (by decide)) rfl (za (pv 3) (za (pv 1) zd))) (zy (zO (K:=K) rfl) (zy (zO (K:=K) rfl) (zy (zO (K:=K) rfl) (pv 3) ze (fun _ _=>rfl)) (pv 0) (fun _ _=>rfl)) ze (fun _ _=>rfl)) (zJ _)))) (fun _ _ _ _=>(zG (za (pv 1) (za (pv 0) zd))))) zd)))),?_⟩
    refine ⟨_,rfl,fa,rfl,⟨_,hf⟩,WH (K:=K) (a:=fa) (xs:=vg ns) (fun j zs H1=>zs.length <= j /\ Same H H1) ⟨Nat.le_refl _,Same.refl _⟩ (fun j zs H1 ⟨_,s1⟩=>s1.sqT hf) ?_ ?_⟩
    · rintro j x zs H1 hx ⟨zl,s1⟩
      obtain ⟨n,hn,rfl⟩:=Zr hx
      have jl:=(List.getElem?_eq_some_iff.mp hn).1
      have nlt:=nf n (List.mem_of_getElem? hn)
      have hfe:J.fs[n]? = some J.fs[n]:=by simp [nlt]
      refine ⟨rfl,_,rfl,pa,rfl,⟨_,SqL.of (s1 _ _ hp)⟩,WO (K:=K) (a:=pa) (xs:=[.int (i:Int)]) (fun m ws H2=>ws.length <= j + m /\ Same H H2) ⟨by omega,s1⟩ (fun m ws H2 ⟨_,s2⟩=>SqL.of (s2 _ _ hp)) ?_ ?_⟩
      · rintro m y ws H2 hy ⟨wl,s2⟩
        have hm0:m = 0:=by have:=(List.getElem?_eq_some_iff.mp hy).1;simp at this;exact this
        subst hm0
        cases hy
        obtain ⟨v,hv,rv⟩:=yQ (rf.same s2) hfe
        obtain ⟨fa',fc,rfl,qfa,qfc⟩:=jY rv
        refine ⟨⟨rfl,rfl,rfl,trivial⟩,?_⟩
        refine ⟨_,rfl,_,rfl,jp,J,i,J.ps[i],rfl,rj.same s2,by simp [il],_,rfl,jp,_,_,_,rfl,rfl,s2.sqT qj,rfl,_,rfl,fs,_,_,_,rfl,rfl,s2.sqT qf,qZ hv,fa',_,_,_,rfl,rfl,qfa,rfl,rfl,_,rfl,xP (fun c=>?_) (fun c=>⟨by omega,s2⟩)⟩
        refine ⟨_,rfl,_,rfl,(by show 2 <= _;omega),fun T hT=>⟨by omega,?_,s2.trans (zb hT)⟩⟩
        rw [List.length_append]
        show ws.length + 1 <= _
        omega
      · rintro ws H2 ⟨wl,s2⟩
        exact ⟨wl,s2⟩
    · rintro zs H1 ⟨zl,s1⟩
      rw [xx] at zl
      exact ⟨by omega,fun l hl=>⟨l,_,rfl,.inl ⟨SqL.of zc,fun t ht=>k t _ (s1.trans ((zb hl).trans (zb ht)))⟩⟩⟩
end
def gate (J:Job):Pl:=(J.gx,J.gy)
def alW (J:Job) (p:xK) (f:jC):Int:=qF (gate J) (f.x,f.y) + qF (f.x,f.y) (p.x,p.y)
def Alone (J:Job) (p:xK) (m:Int):Prop:=(∃ f ∈ J.fs,f.k = p.k /\ m = alW J p f + qF (p.x,p.y) (gate J)) /\ ∀ f ∈ J.fs,f.k = p.k -> m <= alW J p f + qF (p.x,p.y) (gate J)
theorem Alone.uniq {J:Job} {p:xK} {m n:Int} (a:Alone J p m) (b:Alone J p n):m = n:=by
  obtain ⟨⟨f,hf,kf,rfl⟩,a2⟩:=a
  obtain ⟨⟨g,hg,kg,rfl⟩,b2⟩:=b
  have:=a2 g hg kg
  have:=b2 f hf kf
  omega
theorem xz {es:List En} {gs:List (Int × Pl)} {c:En}:c ∈ qy es gs ↔ ∃ e ∈ es,∃ g ∈ gs,qM e g = c:=by
  unfold qy
  rw [List.mem_flatMap]
  refine ⟨fun ⟨e,he,hc⟩=>⟨e,he,List.mem_map.mp hc⟩,fun ⟨e,he,g,hg,z⟩=>⟨e,he,List.mem_map.mpr ⟨g,hg,z⟩⟩⟩
theorem WF {J:Job} {kd:Str} {g:Int × Pl} (h:g ∈ fgs J kd):∃ (n:Nat) (f:jC),J.fs[n]? = some f /\ f.k = kd /\ g = ((n:Int),(f.x,f.y)):=by
  obtain ⟨n,hn,rfl⟩:=List.mem_map.mp h
  obtain ⟨f,hf,hk⟩:=Je hn
  refine ⟨n,f,hf,hk,?_⟩
  show ((n:Int),fpl J n) = _
  unfold fpl
  rw [hf];rfl
theorem WR {J:Job} {f:jC} (h:f ∈ J.fs):∃ n:Int,(n,(f.x,f.y)) ∈ fgs J f.k:=by
  obtain ⟨n,hn⟩:=List.mem_iff_getElem?.mp h
  refine ⟨(n:Int),List.mem_map.mpr ⟨n,List.mem_filter.mpr ⟨List.mem_range.mpr (List.getElem?_eq_some_iff.mp hn).1,decide_eq_true (by rw [hn];rfl)⟩,?_⟩⟩
  show ((n:Int),fpl J n) = _
  unfold fpl
  rw [hn];rfl
theorem VW {J:Job} {p:xK} {i:Nat} {es fs:List En} (b1:Bst (qy [(gate J,(0,[]))] (fgs J p.k)) es) (b2:Bst (qy es [((i:Int),(p.x,p.y))]) fs) :
    (∀ e ∈ fs,e.1 = (p.x,p.y) /\ ∃ (n:Nat) (f:jC),J.fs[n]? = some f /\ f.k = p.k /\ e.2 = (alW J p f,[(n:Int),(i:Int)])) /\ ∀ f ∈ J.fs,f.k = p.k -> ∃ e ∈ fs,e.2.1 <= alW J p f:=by
  refine ⟨fun e he=>?_,fun f hf hk=>?_⟩
  · obtain ⟨e1,h1,g,hg,rfl⟩:=xz.mp (b2.1 e he)
    cases List.mem_singleton.mp hg
    obtain ⟨e0,h0,g0,hg0,rfl⟩:=xz.mp (b1.1 e1 h1)
    cases List.mem_singleton.mp h0
    obtain ⟨n,f,hf,hk,rfl⟩:=WF hg0
    refine ⟨rfl,n,f,hf,hk,?_⟩
    show ((0 + qF (gate J) (f.x,f.y)) + qF (f.x,f.y) (p.x,p.y),_) = _
    rw [Int.zero_add];rfl
  · obtain ⟨n,hn⟩:=WR hf
    rw [hk] at hn
    obtain ⟨e1,h1,k1,l1⟩:=b1.2.1 _ (xz.mpr ⟨_,List.mem_singleton.mpr rfl,_,hn,rfl⟩)
    obtain ⟨e2,h2,k2,l2⟩:=b2.2.1 _ (xz.mpr ⟨e1,h1,_,List.mem_singleton.mpr rfl,rfl⟩)
    refine ⟨e2,h2,Int.le_trans l2 ?_⟩
    show e1.2.1 + qF e1.1 (p.x,p.y) <= _
    have l1:e1.2.1 <= 0 + qF (gate J) (f.x,f.y):=l1
    rw [show e1.1 = (f.x,f.y) from k1]
    unfold alW
    omega
theorem Wr {α:Type} {ms:List α} {a:α} (nd:ms.Nodup) (h:∀ j,j ∈ ms ↔ j = a):ms = [a]:=by
  cases ms with
  | nil=>exact absurd ((h a).mpr rfl) (by simp)
  | cons x r=>
    cases (h x).mp (by simp)
    cases r with
    | nil=>rfl
    | cons y r=>
      cases (h y).mp (by simp)
      simp at nd
section
variable {P:Program} {w:World} {K:PySem.W.Frag} {mg:Str -> Option Value} {base:Heap}
theorem WkS.same {H H':Hp} {zs:List V} {ps:List (Int × List Int)} (h:WkS K H zs ps) (s:Same H H'):WkS K H' zs ps:=⟨h.1,fun j q e=>let ⟨T,a,b⟩:=h.2 j q e;⟨T,a,b.same s⟩⟩
inductive Xl (K:PySem.W.Frag) (vs:List V) (H:Hp) (Q:VK):Prop
  | mk (jp pa:Addr) (J:Job) (i:Nat) (p:xK) (_:vs = [.ref jp,.ref pa]) (_:Rep K H (jx J) (.ref jp)) (_:JAh J) (_:J.fs.length <= 100) (_:J.ps[i]? = some p) (_:(∃ f ∈ J.fs,f.k = p.k)) (_:H pa = some (.lst [.int (i:Int)])) (_:∀ (T V2:Addr) (m:Int) H',Same H H' -> SqT K H' T [.int m,.ref V2] -> Alone J p m -> Q (.ref T) H'):Xl K vs H Q
def YH (K:PySem.W.Frag):Sp:=fun vs H Q _=>Xl K vs H Q
theorem zaK:zx ["job", "parts", "kinds", "walks", "way", "row"] ["job", "parts"] (zo (zu 15)):=⟨rfl,rfl,rfl,by decide +kernel,rfl,by decide +kernel,by decide +kernel⟩
theorem za5 {f:Addr} {fd:FuncData} (F:Fun K "shortest_trip" "shortest_trip" (zu 15) f fd) (B:Blt mg) (Dkind_of:Dfn P w K mg base "kind_of" 1 ["job", "part"] (Wa K)) (Dway_between:Dfn P w K mg base "way_between" 1 ["one", "other"] (vE K)) (Dpicking_walks:Dfn P w K mg base "picking_walks" 3 ["job", "kinds"] (ZW P w K))
    (Dlaying_walks:Dfn P w K mg base "laying_walks" 4 ["job", "walks", "parts"] (ZY P w K)) (Dpicks_at:Dfn P w K mg base "picks_at" 2 ["job", "feeders", "parts"] (Xm K)):FnOk P w K mg base CX0 5 f fd ["job", "parts"] (YH K):=by
  have nd:=zaK.nd
  refine F.ok zaK (fun vs H Q E h=>?_) (fun cdv A outer s H vs Q E hr h=>?_)
  · obtain ⟨jp,pa,J,i,p,rfl,_⟩:=h
    rfl
  · obtain ⟨jp,pa,J,i,p,rfl,rj,jah,jl,hp,⟨f0,hf0,kf0⟩,hk,k⟩:=h
    have hu64:=hr.units
    have sz:sizeLine = 16777216:=sizeLine_eq
    obtain ⟨g,fs,ps,as,fv,pxs,qj,rg,qf,rf,qp,rp,_⟩:=qm rj
    obtain ⟨g',eg,qg⟩:=qV (p:=(J.gx,J.gy)) rg
    cases eg
    have il:=(List.getElem?_eq_some_iff.mp hp).1
    refine ⟨_,(zf (zv (i:=2) nd rfl (Or.inl rfl) (zn (wF hr.hd) rfl B.sorted x6 (za (YW ["job"] [0] rfl rfl (by kernel_rfl) (z6 (pv 1)) (fun _ _ _ _=>qc) (fun _ _ _ _=>(zj Dkind_of (hr.mono (by decide)) rfl (za (pv 1) (za (pv 0) zd))))) zd)))
      (zf (zv (i:=3) nd rfl (Or.inl rfl) (zj Dlaying_walks (hr.mono (by decide)) rfl (za (pv 0) (za (zj Dpicking_walks (hr.mono (by decide)) rfl (za (pv 0) (za (pv 2) zd))) (za (pv 1) zd)))))
      (zf (yA (zn (Qp rfl hu64) rfl B.min we (za (X3 ["job"] [0] rfl rfl (by kernel_rfl) (vM (xN (pv 3))) (fun _ _ _ _=>qc) (fun _ _ _ _=>(zG (za (zr zF (pv 2) (zj Dway_between (hr.mono (by decide)) rfl (za (pv 1) (za (zy (zO (K:=K) rfl) (pv 4) ze (fun _ _=>rfl)) zd)))) (za (pv 3) zd))))) zd)) (z9 rfl (zw (zt (i:=4) nd rfl (Or.inl rfl)) (zw (zt (i:=5) nd rfl (Or.inl rfl)) zW))))
      (zm (zC (zG (za (pv 4) (za (zG (za (zj Dpicks_at (hr.mono (by decide)) rfl (za (pv 0) (za (jF Xv (pv 5) vm (jT (zn zB rfl B.len boot_len (za (pv 2) zd)))) (za (pv 1) zd)))) (za (jF Xv (pv 5) (jT (zn zB rfl B.len boot_len (za (pv 2) zd))) vm) zd))) zd)))))))),?_⟩
    refine ⟨_,rfl,pa,rfl,⟨_,SqL.of hk⟩,Wd (K:=K) (a:=pa) (xs:=[.int (i:Int)]) (fun j ks H1=>ks = (if j = 0 then [] else [.inr p.k]) /\ H1 = H) ⟨rfl,rfl⟩ (fun j ks H1 ⟨_,h1⟩=>by rw [h1];exact SqL.of hk) ?_ ?_⟩
    · rintro j x ks H1 hx ⟨rfl,rfl⟩
      have hj0:j = 0:=by have:=(List.getElem?_eq_some_iff.mp hx).1;simp at this;exact this
      subst hj0
      cases hx
      exact ⟨rfl,_,rfl,_,rfl,jp,J,i,p,rfl,rj,hp,.inr p.k,rfl,by show 0 + 1 < 4096;decide,rfl,rfl⟩
    rintro ks H1 ⟨rfl,rfl⟩ S hS
    refine ⟨S,[p.k],rfl,zc,(by show 1 < 64;decide),fun kl ms hkl _ mnd mem=>?_⟩
    cases Wr mnd (a:=p.k) fun j=>by rw [mem j];simp
    refine (?_:YC _ _ _ _ (upd (upd H1 S (yw P w S (wx [] ([p.k].map Sum.inr)))) kl (.lst [.str p.k])))
    have s2:=(zb (o:=yw P w S (wx [] ([p.k].map Sum.inr))) hS).trans (zb (o:=.lst [.str p.k]) hkl)
    have hkl2:=zc (H:=upd H1 S (yw P w S (wx [] ([p.k].map Sum.inr)))) (a:=kl) (o:=.lst [.str p.k])
    generalize upd (upd H1 S (yw P w S (wx [] ([p.k].map Sum.inr)))) kl (.lst [.str p.k]) = H2 at s2 hkl2
    have fl:(fgs J p.k).length <= 100:=by have:=yR J.fs p.k J.fs.length;unfold fgs;rw [List.length_map];omega
    refine ⟨_,rfl,_,rfl,_,rfl,jp,kl,J,p.k,rfl,rj.same s2,jl,hkl2,fun D1 o1 ys1 es1 H3 hD1 s3 hD13 en1 b1=>?_⟩
    have el:es1.length <= 100:=by have:=b1.2.2;rw [vq,List.length_singleton,Nat.one_mul] at this;omega
    have s23:=s2.trans s3
    refine ⟨_,rfl,jp,D1,pa,o1,ys1,es1,J,i,p,rfl,rj.same s23,jah,hp,hD13,en1,el,fun e he=>?_,s23 _ _ hk,fun D2 o2 ys2 es2 H4 hD2 s4 hD24 en2 b2=>?_⟩
    · obtain ⟨e0,h0,g0,hg0,rfl⟩:=xz.mp (b1.1 e he)
      cases List.mem_singleton.mp h0
      exact (show 1 <= 100 by decide)
    have sH:=s23.trans s4
    obtain ⟨m1,m2⟩:=VW (J:=J) (p:=p) (i:=i) b1 b2
    have el2:es2.length <= 100:=by have:=b2.2.2;rw [vq,List.length_singleton,Nat.mul_one] at this;omega
    refine ⟨_,rfl,D2,o2,ys2,rfl,hD24,fun q hq=>⟨q,D2,o2,ys2,rfl,zc,zb hq _ _ hD24,Vv (P:=P) (w:=w) (d:=D2) (o:=o2) (xs:=ys2) (fun j zs H5=>Same H4 H5 /\ WkS K H5 zs ((es2.take j).map fun e=>(e.2.1 + qF e.1 (gate J),e.2.2))) ⟨zb hq,WkS.nil⟩ (fun j zs H5 ⟨s5,_⟩=>s5 _ _ hD24) ?_ ?_⟩⟩
    · rintro j kx ax vx zs H5 T hx ⟨s5,w5⟩ hT
      obtain ⟨e,he,ek,⟨U,qv,qU⟩,Bl,C,qa,qB,qC⟩:=en2.get hx
      cases (show kx = ([],plK e.1) from ek)
      have jl:=(List.getElem?_eq_some_iff.mp he).1
      have zl:=w5.1
      rw [List.length_map,List.length_take] at zl
      have sT:=zb (o:=.tup [.ref ax,.ref vx]) hT
      have s5T:=s5.trans sT
      refine ⟨T,_,rfl,SqT.of zc,rfl,_,_,rfl,ax,_,rfl,s5T.sqT qa,rfl,_,_,rfl,_,_,rfl,rfl,_,_,rfl,vx,_,rfl,s5T.sqT qv,rfl,_,_,rfl,_,_,rfl,rfl,rfl,rfl,?_⟩
      refine ⟨_,rfl,_,rfl,_,rfl,jp,_,_,_,rfl,rfl,(sH.trans s5T).sqT qj,rfl,.ref C,.ref g,e.1,gate J,rfl,qP (s5T.sqT qC),qP ((sH.trans s5T).sqT qg),_,_,rfl,rfl,_,rfl,(by show 2 <= _;omega),fun T2 hT2=>⟨by omega,s5T.trans (zb hT2),?_⟩⟩
      rw [jn he,List.map_append]
      exact ((w5.same sT).same (zb hT2)).snoc ⟨U,SqT.of zc,(s5T.trans (zb hT2)).sqT qU⟩
    rintro zs H5 ⟨s5,w5⟩
    rw [en2.len,List.take_length] at w5
    have zl:=w5.1
    rw [List.length_map] at zl
    obtain ⟨e0,he0,_⟩:=m2 f0 hf0 kf0
    have ne:(es2.map fun e=>(e.2.1 + qF e.1 (gate J),e.2.2)) ≠ []:=fun z=>by rw [List.map_eq_nil_iff.mp z] at he0;cases he0
    refine ⟨by omega,fun l hl=>⟨l,zs,_,rfl,SqL.of zc,w5.same (zb hl),ne,fun v hv=>?_⟩⟩
    have lt:=QY ne
    have least:∀ e ∈ es2,((es2.map fun e=>(e.2.1 + qF e.1 (gate J),e.2.2)).getD (wC (es2.map fun e=>(e.2.1 + qF e.1 (gate J),e.2.2))) (0,[])).1 <= e.2.1 + qF e.1 (gate J):=fun e he=>by
      obtain ⟨j,hj⟩:=List.mem_iff_getElem?.mp he
      have jl:=(List.getElem?_eq_some_iff.mp hj).1
      have:=WE (ps:=es2.map fun e=>(e.2.1 + qF e.1 (gate J),e.2.2)) (j:=j) (by rw [List.length_map];exact jl)
      rwa [show (es2.map fun e=>(e.2.1 + qF e.1 (gate J),e.2.2)).getD j (0,[]) = (e.2.1 + qF e.1 (gate J),e.2.2) by rw [List.getD_eq_getElem?_getD,List.getElem?_map,hj];rfl] at this
    generalize wC (es2.map fun e=>(e.2.1 + qF e.1 (gate J),e.2.2)) = mi at lt least hv
    rw [List.length_map] at lt
    have ei:es2[mi]? = some es2[mi]:=by simp [lt]
    have hm:=List.getElem_mem lt
    generalize es2[mi] = em at ei hm
    have emi:(es2.map fun e=>(e.2.1 + qF e.1 (gate J),e.2.2))[mi]? = some (em.2.1 + qF em.1 (gate J),em.2.2):=by rw [List.getElem?_map,ei];rfl
    rw [List.getD_eq_getElem?_getD,emi] at least
    obtain ⟨Tm,ht,U,qT,qU⟩:=w5.2 mi _ emi
    rw [ht] at hv
    cases hv
    obtain ⟨epl,n,fe,hfe,kfe,e2⟩:=m1 em hm
    have nlt:=(List.getElem?_eq_some_iff.mp hfe).1
    rw [epl,e2] at qT qU least
    have sl:=s5.trans (zb (o:=.lst zs) hl)
    have qT:=(zb (o:=.lst zs) hl).sqT qT
    have qU:SqT K (upd H5 l (.lst zs)) U [.int (n:Int),.int (i:Int)]:=(zb (o:=.lst zs) hl).sqT qU
    generalize upd H5 l (.lst zs) = H6 at sl qT qU
    have s6:=sH.trans sl
    refine ⟨Tm,_,rfl,qT,rfl,_,_,rfl,_,_,rfl,rfl,?_⟩
    have hk6:=sl _ _ (s4 _ _ (s3 _ _ hkl2))
    refine ⟨_,rfl,_,rfl,_,rfl,_,rfl,kl,_,rfl,.inl (SqL.of hk6),1,rfl,U,_,rfl,qU,(show ¬ (HT.sIx 2 0 none = 0 /\ HT.sIx 2 2 (some 1) = 2) by decide),fun f1 hf1=>?_⟩
    have sf:=zb (o:=.tup (qK [.int (n:Int),.int (i:Int)] none (some 1))) hf1
    refine ⟨_,rfl,jp,f1,pa,J,[n],i,rfl,rj.same (s6.trans sf),SqT.of (show upd H6 f1 (.tup (qK [.int (n:Int),.int (i:Int)] none (some 1))) f1 = some (.tup (vg [n])) from zc),(show 1 <= 100 by decide),(fun m hm=>by cases List.mem_singleton.mp hm;exact nlt),(s6.trans sf) _ _ hk,il,fun t H7 s7=>?_⟩
    have s67:=sf.trans s7
    refine ⟨_,rfl,_,rfl,kl,_,rfl,.inl (SqL.of (s67 _ _ hk6)),1,rfl,U,_,rfl,s67.sqT qU,(show ¬ (HT.sIx 2 0 (some 1) = 0 /\ HT.sIx 2 2 none = 2) by decide),fun r1 hr1=>⟨(by show 2 <= _;omega),fun p2 hp2=>⟨(by show 2 <= _;omega),fun p3 hp3=>?_⟩⟩⟩
    refine k p3 p2 _ _ (s6.trans (s67.trans ((zb hr1).trans ((zb hp2).trans (zb hp3))))) (SqT.of zc) ⟨⟨fe,List.mem_of_getElem? hfe,kfe,rfl⟩,fun f hf hk=>?_⟩
    obtain ⟨e,he,le⟩:=m2 f hf hk
    have h1:=least e he
    rw [(m1 e he).1] at h1
    refine Int.le_trans (show alW J p fe + qF (p.x,p.y) (gate J) <= _ from h1) (Int.add_le_add_right le _)
end
def AlL (J:Job) (n:Nat) (ms:List Int):Prop:=ms.length = n /\ ∀ (i:Nat) p m,J.ps[i]? = some p -> ms[i]? = some m -> Alone J p m
theorem AlL.nil (J:Job):AlL J 0 []:=⟨rfl,fun i p m _ h=>by simp at h⟩
theorem AlL.snoc {J:Job} {n:Nat} {ms:List Int} {p:xK} {m:Int} (h:AlL J n ms) (hp:J.ps[n]? = some p) (a:Alone J p m):AlL J (n + 1) (ms ++ [m]):=by
  refine ⟨by rw [List.length_append,h.1];rfl,fun i q k hq hk=>?_⟩
  by_cases hi:i < ms.length
  · rw [List.getElem?_append_left hi] at hk
    exact h.2 i q k hq hk
  · rw [List.getElem?_append_right (by omega)] at hk
    have hz:=(List.getElem?_eq_some_iff.mp hk).1
    rw [List.length_singleton] at hz
    rw [show i - ms.length = 0 by omega] at hk
    cases hk
    rw [show i = n by have:=h.1;omega,hp] at hq
    cases hq
    exact a
theorem AlL.uniq {J:Job} {ms ns:List Int} (a:AlL J J.ps.length ms) (b:AlL J J.ps.length ns):ms = ns:=by
  refine List.ext_getElem? fun i=>?_
  by_cases hi:i < J.ps.length
  · have h1:i < ms.length:=by rw [a.1];exact hi
    have h2:i < ns.length:=by rw [b.1];exact hi
    rw [List.getElem?_eq_getElem h1,List.getElem?_eq_getElem h2]
    exact congrArg some ((a.2 i J.ps[i] _ (by simp [hi]) (by simp [h1])).uniq (b.2 i J.ps[i] _ (by simp [hi]) (by simp [h2])))
  · rw [List.getElem?_eq_none (by rw [a.1];omega),List.getElem?_eq_none (by rw [b.1];omega)]
section
variable {P:Program} {w:World} {K:PySem.W.Frag} {mg:Str -> Option Value} {base:Heap}
inductive Xu (K:PySem.W.Frag) (vs:List V) (H:Hp) (Q:VK):Prop
  | mk (jp:Addr) (J:Job) (_:vs = [.ref jp]) (_:Rep K H (jx J) (.ref jp)) (_:JAh J) (_:J.fs.length <= 100) (_:(∀ p ∈ J.ps,∃ f ∈ J.fs,f.k = p.k)) (_:∀ (l:Addr) (ms:List Int) H',Same H H' -> H l = none -> H' l = some (.lst (ms.map V.int)) -> AlL J J.ps.length ms -> Q (.ref l) H'):Xu K vs H Q
def JE (K:PySem.W.Frag):Sp:=fun vs H Q _=>Xu K vs H Q
theorem zaN:zx ["job"] ["job"] (zo (zu 16)):=⟨rfl,rfl,rfl,by decide +kernel,rfl,by decide +kernel,by decide +kernel⟩
theorem za8 {f:Addr} {fd:FuncData} (F:Fun K "alone_ways" "alone_ways" (zu 16) f fd) (B:Blt mg) (Dshortest_trip:Dfn P w K mg base "shortest_trip" 5 ["job", "parts"] (YH K)):FnOk P w K mg base CX0 6 f fd ["job"] (JE K):=by
  have nd:=zaN.nd
  refine F.ok zaN (fun vs H Q E h=>?_) (fun cdv A outer s H vs Q E hr h=>?_)
  · obtain ⟨jp,J,rfl,_⟩:=h
    rfl
  · obtain ⟨jp,J,rfl,rj,jah,jl,kf,k⟩:=h
    have sz:sizeLine = 16777216:=sizeLine_eq
    have e62:(2:Int) ^ 62 = 4611686018427387904:=by decide
    obtain ⟨g,fs,ps,as,fv,pxs,qj,rg,qf,rf,qp,rp,_⟩:=qm rj
    have pl:=rp.len
    rw [List.length_map] at pl
    have p60:=jah.1
    refine ⟨_,(zm (zC (jG ["job"] [0] rfl rfl (by kernel_rfl) (zI rfl B.range (za (zn zB rfl B.len boot_len (za (zy zX (pv 0) ze (fun _ _=>rfl)) zd)) zd)) (fun _ _ _ _=>qc) (fun _ _ _ _=>(zy (zO (K:=K) rfl) (zj Dshortest_trip (hr.mono (by decide)) rfl (za (pv 1) (za (zU (za (pv 0) zd)) zd))) ze (fun _ _=>rfl)))))),?_⟩
    refine ⟨_,rfl,jp,_,_,_,rfl,rfl,qj,rfl,ps,_,rfl,.inr qp,_,rfl,(by rw [e62];omega),(by rw [e62];omega),?_⟩
    refine Zx (fun j zs H1=>∃ ms:List Int,zs = ms.map V.int /\ Same H H1 /\ AlL J j ms) ⟨[],rfl,Same.refl _,AlL.nil J⟩ ?_ ?_
    · rintro j zs H1 hj ⟨ms,rfl,s1,al⟩
      have hj':j < J.ps.length:=by rw [<- pl];simpa using hj
      have hp:J.ps[j]? = some J.ps[j]:=by simp [hj']
      have ml:=al.1
      refine ⟨rfl,_,rfl,_,rfl,(by show 1 <= _;omega),fun pa hpa=>?_⟩
      rw [Int.zero_add]
      refine ⟨jp,pa,J,j,J.ps[j],rfl,(rj.same s1).same (zb hpa),jah,jl,hp,kf _ (List.getElem_mem hj'),zc,fun T V2 m H2 s2 hT am=>?_⟩
      exact ⟨T,_,_,_,rfl,rfl,hT,rfl,by rw [List.length_map];omega,ms ++ [m],by rw [List.map_append];rfl,s1.trans ((zb hpa).trans s2),al.snoc hp am⟩
    · rintro zs H1 ⟨ms,rfl,s1,al⟩
      have e:((pxs.length:Int)).toNat = J.ps.length:=by rw [pl];simp
      have al:AlL J J.ps.length ms:=by simpa [pl] using al
      have ml:=al.1
      exact ⟨by rw [List.length_map];omega,fun l hl=>k l ms _ (s1.trans (zb hl)) (s1.none hl) zc al⟩
end
section
variable {P:Program} {w:World} {K:PySem.W.Frag} {mg:Str -> Option Value} {base:Heap}
theorem zaM:zx ["_law_job_here", "_law_found", "_law_kind", "_law_place_here", "_law_some"] ["_law_job_here"] (zo (zu 32)):=⟨rfl,rfl,rfl,by decide +kernel,rfl,by decide +kernel,by decide +kernel⟩
def Jy (jp:_) (l:_) (H:_) (J:_):=fun (j:Nat) (σ:St) (H1:Hp)=>(Ex4 fun (ms:List Int) (v2 v3 v4:Option V)=>An4 (σ = [some (.ref jp),some (.ref l),v2,v3,v4]) (Same H H1) (H1 l = some (.lst (ms.map V.int))) (AlL J j ms):Prop)
def Jx (H1:_) (J:_) (p:_):=fun (m:Nat) (zs:List V) (H2:Hp)=>(Ex1 fun (ns:List Int)=>An5 (zs = ns.map V.int) (Same H1 H2) (ns.length <= m) ((∀ f ∈ J.fs.take m,f.k = p.k -> alW J p f ∈ ns)) (∀ n ∈ ns,∃ f ∈ J.fs,f.k = p.k /\ n = alW J p f):Prop)
theorem za7 {f:Addr} {fd:FuncData} (F:Fun K "_law_due" "_law_due" (zu 32) f fd) (B:Blt mg) (D_way:Dfn P w K mg base "_law_way" 1 ["_law_one", "_law_other"] (vE K)):FnOk P w K mg base CX0 2 f fd ["_law_job_here"] (JE K):=by
  have nd:=zaM.nd
  refine F.ok zaM (fun vs H Q E h=>?_) (fun cdv A outer s H vs Q E hr h=>?_)
  · obtain ⟨jp,J,rfl,_⟩:=h
    rfl
  · obtain ⟨jp,J,rfl,rj,jah,jl,kf,k⟩:=h
    have sz:sizeLine = 16777216:=sizeLine_eq
    obtain ⟨g,fs,ps,as,fv,pxs,qj,rg,qf,rf,qp,rp,_⟩:=qm rj
    obtain ⟨g',eg,qg⟩:=qV (p:=(J.gx,J.gy)) rg
    cases eg
    have pl:=rp.len
    rw [List.length_map] at pl
    have fl:=rf.len
    rw [List.length_map] at fl
    have p60:=jah.1
    refine ⟨_,(zf (zv (i:=1) nd rfl (Or.inl rfl) (zU zd))
      (zf (zQ PassesOwn.never rfl (xg (zy zX (pv 0) ze (fun _ _=>rfl))) (z9 rfl (zw (zt (i:=2) nd rfl (Or.inr rfl)) (zw (zt (i:=3) nd rfl (Or.inr rfl)) zW)))
      (zf (YR ["_law_place_here", "_law_job_here", "_law_kind"] [3,0,2] rfl rfl (by kernel_rfl) (xg (zy zX (pv 0) ze (fun _ _=>rfl))) (fun _ _ _ _=>(xM (zS jf (zy (zO (K:=K) rfl) (pv 0) ze (fun _ _=>rfl)) (pv 3) (zJ _)))) (fun _ _ _ _=>(zr zF (zj D_way (hr.mono (by decide)) rfl (za (zy (zO (K:=K) rfl) (pv 2) ze (fun _ _=>rfl)) (za (zy (zO (K:=K) rfl) (pv 0) ze (fun _ _=>rfl)) zd))) (zj D_way (hr.mono (by decide)) rfl (za (zy (zO (K:=K) rfl) (pv 0) ze (fun _ _=>rfl)) (za (pv 1) zd))))) (zt (i:=4) nd rfl (Or.inl rfl)))
        (zm (qD (xw PySem.F.plainAttrs_list PySem.F.slot_list_append PySem.F.type_list_append qe (pv 1) (za (zr zF (zn (J7 rfl) rfl B.min we (za (pv 4) zd)) (zj D_way (hr.mono (by decide)) rfl (za (pv 3) (za (zy zX (pv 0) ze (fun _ _=>rfl)) zd)))) zd))))))
      (zm (zC (pv 1))))),?_⟩
    refine ⟨by show 0 <= _;omega,fun l hl=>?_⟩
    have s0:=zb (o:=.lst []) hl
    refine ⟨_,rfl,jp,_,_,_,rfl,rfl,s0.sqT qj,rfl,ps,rfl,⟨_,s0.sqT qp⟩,yK (K:=K) (a:=ps) (xs:=pxs) (Jy jp l H J) ⟨[],_,_,_,rfl,s0,zc,AlL.nil J⟩ (fun j σ H1 _ ⟨_,_,_,_,_,s1,_,_⟩=>s1.sqT qp) ?_ ?_⟩
    rotate_left
    · rintro σ H1 ⟨ms,v2,v3,v4,rfl,s1,h1,al⟩
      rw [pl] at al
      exact ⟨_,rfl,k l ms H1 s1 hl h1 al⟩
    rintro j x σ H1 hx ⟨ms,v2,v3,v4,rfl,s1,h1,al⟩
    obtain ⟨d,hd,rx⟩:=(rp.same s1).get hx
    rw [List.getElem?_map] at hd
    obtain ⟨p,hp,rfl⟩:=Option.map_eq_some_iff.mp hd
    obtain ⟨pa,pc,rfl,qpa,qpc⟩:=xO rx
    have jl:=(List.getElem?_eq_some_iff.mp hp).1
    refine ⟨pa,_,rfl,qpa,rfl,_,_,rfl,_,_,rfl,rfl,?_⟩
    refine ⟨_,rfl,jp,_,_,_,rfl,rfl,s1.sqT qj,rfl,fs,rfl,⟨_,s1.sqT qf⟩,yG (K:=K) (a:=fs) (xs:=fv) (Jx H1 J p) ⟨[],rfl,Same.refl _,Nat.le_refl _,(fun f hf=>nomatch hf),(fun n hn=>nomatch hn)⟩ (fun m zs H2 ⟨_,_,s2,_,_,_⟩=>(s1.trans s2).sqT qf) ?_ ?_⟩
    · rintro m x zs H2 hx ⟨ns,rfl,s2,nl,n1,n2⟩
      have s12:=s1.trans s2
      obtain ⟨d,hd,rx⟩:=(rf.same s12).get hx
      rw [List.getElem?_map] at hd
      obtain ⟨fe,hfe,rfl⟩:=Option.map_eq_some_iff.mp hd
      obtain ⟨fa,fc,rfl,qfa,qfc⟩:=jY rx
      have ml:=(List.getElem?_eq_some_iff.mp hfe).1
      refine ⟨rfl,_,rfl,fa,_,_,_,rfl,rfl,qfa,rfl,_,rfl,rfl,_,rfl,xP (fun c=>?_) (fun c=>?_)⟩
      · have c:fe.k = p.k:=V.str.inj (of_decide_eq_true c)
        refine ⟨_,rfl,jp,_,_,_,rfl,rfl,s12.sqT qj,rfl,_,rfl,fa,_,_,_,rfl,rfl,qfa,rfl,.ref g,.ref fc,gate J,(fe.x,fe.y),rfl,qP (s12.sqT qg),qP qfc,_,rfl,fa,_,_,_,rfl,rfl,qfa,rfl,_,rfl,.ref fc,.ref pc,(fe.x,fe.y),(p.x,p.y),rfl,qP qfc,qP (s2.sqT qpc),_,_,rfl,rfl,by rw [List.length_map];omega,ns ++ [alW J p fe],by rw [List.map_append];rfl,s2,by rw [List.length_append];show _ + 1 <= _;omega,fun f hf hk=>?_,fun n hn=>?_⟩
        · rw [jn hfe] at hf
          rcases List.mem_append.mp hf with z | z
          · exact List.mem_append_left _ (n1 f z hk)
          · cases List.mem_singleton.mp z
            exact List.mem_append_right _ (List.mem_singleton.mpr rfl)
        · rcases List.mem_append.mp hn with z | z
          · exact n2 n z
          · cases List.mem_singleton.mp z
            exact ⟨fe,List.mem_of_getElem? hfe,c,rfl⟩
      · refine ⟨ns,rfl,s2,by omega,fun f hf hk=>?_,n2⟩
        rw [jn hfe] at hf
        rcases List.mem_append.mp hf with z | z
        · exact n1 f z hk
        · cases List.mem_singleton.mp z
          exact absurd (decide_eq_true (by rw [hk])) c
    rintro zs H2 ⟨ns,rfl,s2,nl,n1,n2⟩
    rw [fl] at nl n1
    rw [List.take_length] at n1
    refine ⟨by rw [List.length_map];omega,fun l2 hl2=>?_⟩
    have s3:=s2.trans (zb (o:=.lst (ns.map V.int)) hl2)
    have hl3:=zc (H:=H2) (a:=l2) (o:=.lst (ns.map V.int))
    generalize upd H2 l2 (.lst (ns.map V.int)) = H3 at s3 hl3
    have s13:=s1.trans s3
    obtain ⟨f0,hf0,kf0⟩:=kf p (List.mem_of_getElem? hp)
    have ne:ns ≠ []:=fun z=>by have:=n1 f0 hf0 kf0;rw [z] at this;cases this
    refine ⟨_,rfl,.inl ⟨rfl,_,SqL.of (s3 _ _ h1)⟩,_,rfl,l2,ns,rfl,SqL.of hl3,ne,fun m hm hle=>?_⟩
    obtain ⟨fe,hfe,kfe,rfl⟩:=n2 m hm
    have ml:=al.1
    refine ⟨_,rfl,_,rfl,jp,_,_,_,rfl,rfl,s13.sqT qj,rfl,.ref pc,.ref g,(p.x,p.y),gate J,rfl,qP (s3.sqT qpc),qP (s13.sqT qg),_,_,rfl,rfl,l,_,_,rfl,rfl,s3 _ _ h1,by rw [List.length_map];omega,?_⟩
    refine ⟨ms ++ [alW J p fe + qF (p.x,p.y) (gate J)],_,_,_,rfl,fun c u hc=>?_,by rw [zc,List.map_append];rfl,al.snoc hp ⟨⟨fe,hfe,kfe,rfl⟩,fun f hf hk=>Int.add_le_add_right (hle _ (n1 f hf hk)) _⟩⟩
    rw [zi (zg hc hl)]
    exact s13 _ _ hc
end
theorem ByOrd.mem1 {ord:List Nat} {as:List (Nat × Nat)} (h:ByOrd ord as) {p:Nat × Nat} (hp:p ∈ as):p.1 ∈ ord:=by
  obtain ⟨k,l,_,e,_⟩:=h p hp
  exact List.mem_of_getElem? e
theorem ByOrd.mem2 {ord:List Nat} {as:List (Nat × Nat)} (h:ByOrd ord as) {p:Nat × Nat} (hp:p ∈ as):p.2 ∈ ord:=by
  obtain ⟨k,l,_,_,e⟩:=h p hp
  exact List.mem_of_getElem? e
theorem xt {α:Type} {f:α -> Dat}:∀ {l:List α},(∀ a ∈ l,(f a).shw = true) -> Dat.shws (l.map f) = true
  | [],_=>rfl
  | a :: l,h=>by
    show ((f a).shw && Dat.shws (l.map f)) = true
    rw [h a (by simp),xt fun b hb=>h b (List.mem_cons_of_mem _ hb)]
    rfl
theorem xE {α:Type} {f:α -> Dat} {c:Nat}:∀ {l:List α},(∀ a ∈ l,(f a).blk <= c) -> Dat.blks (l.map f) <= (c + 1) * l.length
  | [],_=>Nat.zero_le _
  | a :: l,h=>by
    show (f a).blk + 1 + Dat.blks (l.map f) <= _
    have h1:=h a (by simp)
    have h2:=xE (f:=f) (c:=c) (l:=l) fun b hb=>h b (List.mem_cons_of_mem _ hb)
    rw [List.length_cons,Nat.mul_succ]
    omega
theorem xB {α:Type} {f:α -> Dat} {c:Nat} (h:∀ a,(f a).py.depth <= c):∀ l:List α,PyData.depthAll (Dat.pys (l.map f)) <= c
  | []=>Nat.zero_le _
  | a :: l=>by
    have h1:=h a
    have h2:=xB h l
    show max (PyData.depth (f a).py) (PyData.depthAll (Dat.pys (l.map f))) <= c
    omega
theorem jV {i:Int} (h:-1000000 <= i) (h':i <= 1000000):Dat.shw (.int i) = true:=decide_eq_true (by omega)
theorem Vl {x:Str} (h:Nm x):Dat.shw (.str x) = true:=List.all_eq_true.mpr fun c hc=>decide_eq_true (h.2 c hc)
theorem Vm {x:Str} (h:Nm x):Dat.blk (.str x) <= 8:=h.1
theorem Z7 {x y:Int} (h:inP x y):Dat.shw (.tup [.int x,.int y]) = true:=by
  unfold inP at h
  show (Dat.shw (.int x) && (Dat.shw (.int y) && true)) = true
  rw [jV (by omega) (by omega),jV (by omega) (by omega)]
  rfl
theorem WJ {J:Job} {ord:List Nat} (jo:Jg J ord):(jx J).shw = true:=by
  have hd0:=jo.hd0
  have hd1:=jo.hd1
  show (Dat.shw (.tup [.int J.gx,.int J.gy]) && (Dat.shw (.int J.hd) && (Dat.shws (J.fs.map qX) && (Dat.shws (J.ps.map qw) && (Dat.shws (J.as.map jI) && true))))) = true
  rw [Z7 jo.gate,jV (by omega) (by omega),xt,xt,xt]
  · rfl
  · intro p hp
    have h1:=List.mem_range.mp (jo.op.mem_iff.mp (jo.bo.mem1 hp))
    have h2:=List.mem_range.mp (jo.op.mem_iff.mp (jo.bo.mem2 hp))
    have pl:=jo.pl
    show (Dat.shw (.int (p.1:Int)) && (Dat.shw (.int (p.2:Int)) && true)) = true
    rw [jV (by omega) (by omega),jV (by omega) (by omega)]
    rfl
  · intro p hp
    obtain ⟨h1,h2,_⟩:=jo.pa p hp
    show (Dat.shw (.str p.k) && (Dat.shw (.tup [.int p.x,.int p.y]) && true)) = true
    rw [Vl h1,Z7 h2]
    rfl
  · intro p hp
    obtain ⟨h1,h2,h3,h4⟩:=jo.fa p hp
    show (Dat.shw (.str p.k) && (Dat.shw (.tup [.int p.x,.int p.y]) && (Dat.shw (.int p.m) && true))) = true
    rw [Vl h1,Z7 h2,jV (by omega) (by omega)]
    rfl
theorem WL {J:Job} {ord:List Nat} (jo:Jg J ord):(jx J).blk <= 10000:=by
  have h1:=xE (f:=qX) (c:=20) (l:=J.fs) fun p hp=>by
    have:=Vm (jo.fa p hp).1
    show Dat.blk (.str p.k) + 1 + (0 + 1 + (0 + 1 + 0) + 1 + (0 + 1 + 0)) <= 20
    omega
  have h2:=xE (f:=qw) (c:=20) (l:=J.ps) fun p hp=>by
    have:=Vm (jo.pa p hp).1
    show Dat.blk (.str p.k) + 1 + (0 + 1 + (0 + 1 + 0) + 1 + 0) <= 20
    omega
  have h3:=xE (f:=jI) (c:=20) (l:=J.as) fun p hp=>by
    show 0 + 1 + (0 + 1 + 0) <= 20
    omega
  have fl:=jo.fl
  have pl:=jo.pl
  have al:=jo.al
  show 0 + 1 + (0 + 1 + 0) + 1 + (0 + 1 + (Dat.blks (J.fs.map qX) + 1 + (Dat.blks (J.ps.map qw) + 1 + (Dat.blks (J.as.map jI) + 1 + 0)))) <= 10000
  omega
theorem WK (J:Job):(jx J).py.depth <= 20:=by
  have h1:=xB (f:=qX) (c:=10) (fun p=>by
    show PyData.depth (.tuple [.str p.k,.tuple [.int p.x,.int p.y],.int p.m]) <= 10
    simp [PyData.depth,PyData.depthAll]) J.fs
  have h2:=xB (f:=qw) (c:=10) (fun p=>by
    show PyData.depth (.tuple [.str p.k,.tuple [.int p.x,.int p.y]]) <= 10
    simp [PyData.depth,PyData.depthAll]) J.ps
  have h3:=xB (f:=jI) (c:=10) (fun p=>by
    show PyData.depth (.tuple [.int p.1,.int p.2]) <= 10
    simp [PyData.depth,PyData.depthAll]) J.as
  show PyData.depth (.tuple [.tuple [.int J.gx,.int J.gy],.int J.hd,.tuple (Dat.pys (J.fs.map qX)),.tuple (Dat.pys (J.ps.map qw)),.tuple (Dat.pys (J.as.map jI))]) <= 20
  simp only [PyData.depth,PyData.depthAll]
  omega
theorem zar {J:Job} {ord:List Nat} (jo:Jg J ord):∀ q ∈ asI J,InN J.ps.length q.1 /\ InN J.ps.length q.2:=fun q hq=>by
  obtain ⟨p,hp,rfl⟩:=List.mem_map.mp hq
  have h1:=List.mem_range.mp (jo.op.mem_iff.mp (jo.bo.mem1 hp))
  have h2:=List.mem_range.mp (jo.op.mem_iff.mp (jo.bo.mem2 hp))
  exact ⟨⟨by show (0:Int) <= (p.1:Int);omega,by show (p.1:Int) < _;omega⟩,⟨by show (0:Int) <= (p.2:Int);omega,by show (p.2:Int) < _;omega⟩⟩
inductive QA (K:PySem.W.Frag) (vs:List V) (H:Hp) (Q:VK):Prop
  | mk (a:Addr) (ns:List Int) (_:vs = [.ref a]) (_:SqL K H a (ns.map V.int)) (_:ns.length <= 63) (_:∀ H',Q (.bl true) H'):QA K vs H Q
def QB (K:PySem.W.Frag):Sp:=fun vs H Q _=>QA K vs H Q
section
variable {P:Program} {w:World} {K:PySem.W.Frag} {mg:Str -> Option Value} {base:Heap}
theorem xQ (H:Hp):∀ ms:List Int,Reps K H (ms.map Dat.int) (ms.map V.int)
  | []=>rfl
  | m :: ms=>⟨.int m,ms.map V.int,rfl,rfl,xQ H ms⟩
theorem Yb:zx ["_law_script", "_law_cells", "_law_k", "_law_box_here", "_law_job_here", "_law_due_here", "_law_kept", "_law_echo", "_law_found"] ["_law_script"] (zo (zu 33)):=⟨rfl,rfl,rfl,by decide +kernel,rfl,by decide +kernel,by decide +kernel⟩
def Jw (a:_) (p:_) (H1:_):=fun (i:Nat) (σ:St) (H2:Hp)=>(Ex7 fun (v2 v3 v4 v5 v6 v7 v8:Option V)=>An2 (σ = [some (.ref a),some (.ref p),v2,v3,v4,v5,v6,v7,v8]) (Same H1 H2):Prop)
def Jv (a:_) (p:_) (i:Nat) (q:_) (jp:_) (du:_) (kept:_) (H5:_):=fun (j:Nat) (σ:St) (H6:Hp)=>(Ex2 fun (v7 v8:Option V)=>An2 (σ = [some (.ref a),some (.ref p),some (.int (i:Int)),some (.ref q),some (.ref jp),some (.ref du),some (.str kept),v7,v8]) (Same H5 H6):Prop)
theorem Y7 {f:Addr} {fd:FuncData} (F:Fun K "law" "law" (zu 33) f fd) (B:Blt mg) (D_folded:Dfn P w K mg base "_law_folded" 1 ["_law_script", "_law_size"] (ZZ K)) (D_box:Dfn P w K mg base "_law_box" 1 ["_law_script", "_law_k"] (Xr K)) (D_take:Dfn P w K mg base "_law_take" 1 ["_law_box_here", "_law_size"] jr) (D_job:Dfn P w K mg base "_law_job" 4 ["_law_box_here", "_law_few", "_law_most", "_law_plenty"] (Xp K))
    (D_due:Dfn P w K mg base "_law_due" 2 ["_law_job_here"] (JE K)) (Dalone_ways:Dfn P w K mg base "alone_ways" 6 ["job"] (JE K)) (D_same:Dfn P w K mg base "_law_same" 2 ["_law_found", "_law_due_here"] (spS K 2)):FnOk P w K mg base CX0 7 f fd ["_law_script"] (QB K):=by
  have nd:=Yb.nd
  refine F.ok Yb (fun vs H Q E h=>?_) (fun cdv A outer s H vs Q E hr h=>?_)
  · obtain ⟨a,ns,rfl,_⟩:=h
    rfl
  · obtain ⟨a,ns,rfl,hS,hlen,k⟩:=h
    have hu64:=hr.units
    have hg:=hr.gd
    have sz:sizeLine = 16777216:=sizeLine_eq
    have e62:(2:Int) ^ 62 = 4611686018427387904:=by decide
    refine ⟨_,(zf (zv (i:=1) nd rfl (Or.inl rfl) (zj D_folded (hr.mono (by decide)) rfl (za (pv 0) (za ze zd))))
      (zf (zQ PassesOwn.never rfl (zI rfl B.range (za (zn (xR rfl) rfl B.max wf (za ze (za (zn zB rfl B.len boot_len (za (pv 1) zd)) zd))) zd)) (zt (i:=2) nd rfl (Or.inl rfl))
      (zf (zv (i:=3) nd rfl (Or.inl rfl) (zj D_box (hr.mono (by decide)) rfl (za (pv 1) (za (pv 2) zd))))
        (zf (zv (i:=4) nd rfl (Or.inl rfl) (zj D_job (hr.mono (by decide)) rfl (za (pv 3) (za ze (za ze (za (qE jf (zj D_take (hr.mono (by decide)) rfl (za (pv 3) (za ze zd))) ze (zJ _)) zd))))))
        (zf (Z5 (i:=5) (j:=6) rfl nd rfl rfl (by decide) rfl rfl (za (zj D_due (hr.mono (by decide)) rfl (za (pv 4) zd)) (za (zM (yb hg hu64) rfl B.str jO (za (pv 4) zd)) zd)) (by rfl))
        (zm (zQ PassesOwn.never rfl (zI rfl B.range (za ze zd)) (zt (i:=7) nd rfl (Or.inl rfl))
        (zf (zv (i:=8) nd rfl (Or.inl rfl) (zj Dalone_ways (hr.mono (by decide)) rfl (za (pv 4) zd)))
          (zf (j5 (PW.pt (XS (XU (xf (zj D_same (hr.mono (by decide)) rfl (za (pv 8) (za (pv 5) zd))))) (Z4 (zS QU (zM (yb hg hu64) rfl B.str jO (za (pv 4) zd)) (pv 6) (zJ _)))))
          (zm (zC Va))
          qA)
          (zf (qD (xw PySem.F.plainAttrs_list PySem.F.slot_list_append PySem.F.type_list_append qe (pv 8) (za ze zd)))
          (zm (qD (Y0 PySem.F.plainAttrs_list PySem.F.slot_list_reverse PySem.F.type_list_reverse Qh (pv 8)))))))))))))
      (zm (zC Va)))),?_⟩
    refine ⟨_,rfl,a,ns,8,rfl,hS,hlen,by decide,by decide,fun p ms H1 s1 hp hm=>?_⟩
    have hl:(ms.map V.int).length <= 8:=by rw [List.length_map];exact hm
    refine ⟨_,rfl,p,_,rfl,.inl hp,_,_,rfl,_,rfl,(by rw [e62];split <;> omega),(by rw [e62];split <;> omega),?_⟩
    have hN:(if ((ms.map V.int).length:Int) > 1 then ((ms.map V.int).length:Int) else 1).toNat <= 8:=by split <;> omega
    refine zV (Jw a p H1) ⟨_,_,_,_,_,_,_,rfl,Same.refl _⟩ ?_ ?_
    rotate_left
    · rintro σ H2 ⟨v2,v3,v4,v5,v6,v7,v8,rfl,_⟩
      exact k _
    rintro i σ H2 hi ⟨v2,v3,v4,v5,v6,v7,v8,rfl,sm⟩
    rw [Int.zero_add]
    refine ⟨_,rfl,_,rfl,p,ms,i,rfl,sm.seq hp,by omega,fun q o hq Bq=>?_⟩
    refine ⟨_,rfl,_,rfl,q,2,0,rfl,Bq,by decide,by decide,by decide,fun r H3 r0 r1 B3 S3=>⟨rfl,q,12,40,_,_,rfl,B3,by decide,by decide,by decide,by decide,by decide,fun jp J ord H4 S4 B4 rj jo=>?_⟩⟩
    have s4:Same H1 H4:=fun c u hc=>S4 c u (S3 c u (zb hq c u (sm c u hc)) (zg (sm c u hc) hq)) (zg (sm c u hc) hq)
    have shw:=WJ jo
    have blk:(jx J).blk <= 1048576:=Nat.le_trans (WL jo) (by decide)
    have dep:(jx J).py.depth <= 60:=Nat.le_trans (WK J) (by decide)
    have jah:JAh J:=⟨jo.pl,zar jo,jo.al⟩
    have jfl:J.fs.length <= 100:=Nat.le_trans jo.fl (by decide)
    have kf:∀ p ∈ J.ps,∃ f ∈ J.fs,f.k = p.k:=fun p hp=>(jo.pa p hp).2.2
    refine ⟨_,rfl,jp,J,rfl,rj,jah,jfl,kf,fun du ds H5 s5 hdu hdu5 al=>?_⟩
    have dl:ds.length <= 60:=by rw [al.1];exact jo.pl
    refine ⟨_,rfl,jp,jx J,rfl,rj.same s5,shw,blk,dep,?_⟩
    generalize hkept:(jx J).py.shown = kept
    refine ⟨_,_,rfl,2,rfl,by rw [e62];decide,by rw [e62];decide,zV (Jv a p i q jp du kept H5) ⟨_,_,rfl,Same.refl _⟩ ?_ ?_⟩
    rotate_left
    · rintro σ H6 ⟨v7,v8,rfl,s6⟩
      exact ⟨_,_,_,_,_,_,_,rfl,s4.trans (s5.trans s6)⟩
    rintro j σ H6 hj ⟨v7,v8,rfl,s6⟩
    have s56:=s5.trans s6
    refine ⟨_,rfl,jp,J,rfl,rj.same s56,jah,jfl,kf,fun l es H7 s7 hl7 h7 al2=>?_⟩
    cases al2.uniq al
    have ok:Dat.ok 1 (.lst (ds.map Dat.int)):=⟨by rw [List.length_map];omega,fun d hd=>by obtain ⟨m,_,rfl⟩:=List.mem_map.mp hd;exact trivial⟩
    refine ⟨_,rfl,_,rfl,.lst (ds.map Dat.int),.ref l,.ref du,rfl,⟨l,_,rfl,SqL.of h7,xQ _ _⟩,⟨du,_,rfl,SqL.of ((s6.trans s7) _ _ hdu5),xQ _ _⟩,ok,fun H8 s8=>⟨_,rfl,ifF rfl ?_⟩⟩
    have s58:=s6.trans (s7.trans s8)
    refine ⟨_,rfl,jp,jx J,rfl,rj.same (s5.trans s58),shw,blk,dep,_,rfl,rfl,false,(by rw [hkept,decide_eq_true rfl];rfl),ifF rfl ?_⟩
    have h8:=s8 _ _ h7
    refine ⟨_,rfl,.inl ⟨rfl,_,SqL.of h8⟩,l,_,_,rfl,rfl,h8,by rw [List.length_map];omega,?_⟩
    refine ⟨_,rfl,.inl ⟨rfl,_,SqL.of zc⟩,l,_,rfl,rfl,zc,_,_,rfl,fun c u hc=>?_⟩
    have nl:=zg (s6 c u hc) hl7
    rw [zi nl,zi nl]
    exact s58 c u hc
end
inductive Fd (K:PySem.W.Frag) (nm:Str) (st:Stmt):Prop
  | mk (f:Addr) (fd:FuncData) (a:PySem.W.nsIn K mainGlobals nm = some (some (.ref f))) (F:Fun K nm nm st f fd):Fd K nm st
theorem fd_mk {K:PySem.W.Frag} {nm:Str} {st:Stmt} {f:Addr} {oc:Value} {od an:Option Addr} {osl:Array (Option Value)} {kV doc pm cdv ct:Value} (a:PySem.W.nsIn K mainGlobals nm = some (some (.ref f))) (l:K.lookup f = some ⟨oc,od,.func (PySem.W.fnOf nm nm (jy st) (qY st) (zo st) .none kV doc pm an cdv ct),osl⟩) (c:PySem.W.codeIn K cdv nm = true) (k:PySem.W.keepIn K (.ref f) = true):Fd K nm st:=⟨f,_,a,VG l c k⟩
theorem all_mk {l:PySem.W.OpenLaw} {w:World} {K:PySem.W.Frag} {h:Heap} {mg:Str -> Option Value} {fa:Addr} (X:K.In h) (G:h.Ns mainGlobals mg) (hfa:mg "law" = some (.ref fa))
    {f29:Addr} {od29 an29:Option Addr} {sl29:Array (Option Value)} {oc29 kV29 dc29 pm29 cd29 ct29:Value}
    (h0:Fd K "way_between" (zu 1))
    (h1:Fd K "turned" (zu 3))
    (h2:Fd K "next_by" (zu 4))
    (h3:Fd K "steps_from" (zu 5))
    (h4:Fd K "all_from" (zu 6))
    (h5:Fd K "ahead_of" (zu 7))
    (h6:Fd K "feeders_for" (zu 8))
    (h7:Fd K "kind_of" (zu 10))
    (h8:Fd K "farther" (zu 11))
    (h9:Fd K "picking_walks" (zu 12))
    (h10:Fd K "laying_walks" (zu 13))
    (h11:Fd K "picks_at" (zu 14))
    (h12:Fd K "shortest_trip" (zu 15))
    (h13:Fd K "alone_ways" (zu 16))
    (h14:Fd K "_law_box" (zu 18))
    (h15:Fd K "_law_take" (zu 19))
    (h16:Fd K "_law_folded" (zu 20))
    (h17:Fd K "_law_same" (zu 21))
    (h18:Fd K "_law_spelled" (zu 22))
    (h19:Fd K "_law_name" (zu 23))
    (h20:Fd K "_law_names" (zu 24))
    (h21:Fd K "_law_place" (zu 25))
    (h22:Fd K "_law_places" (zu 26))
    (h23:Fd K "_law_shuffled" (zu 27))
    (h24:Fd K "_law_feeders" (zu 28))
    (h25:Fd K "_law_aheads" (zu 29))
    (h26:Fd K "_law_job" (zu 30))
    (h27:Fd K "_law_way" (zu 31))
    (h28:Fd K "_law_due" (zu 32))
    (a29:PySem.W.nsIn K mainGlobals "law" = some (some (.ref f29))) (l29:K.lookup f29 = some ⟨oc29,od29,.func (PySem.W.fnOf "law" "law" (jy (zu 33)) (qY (zu 33)) (zo (zu 33)) .none kV29 dc29 pm29 an29 cd29 ct29),sl29⟩) (c29:PySem.W.codeIn K cd29 "law" = true) (k29:PySem.W.keepIn K (.ref f29) = true)
    (z_abs:PySem.W.nsIn K mainGlobals "abs" = some none)
    (z_all:PySem.W.nsIn K mainGlobals "all" = some none)
    (z_any:PySem.W.nsIn K mainGlobals "any" = some none)
    (z_bool:PySem.W.nsIn K mainGlobals "bool" = some none)
    (z_dict:PySem.W.nsIn K mainGlobals "dict" = some none)
    (z_divmod:PySem.W.nsIn K mainGlobals "divmod" = some none)
    (z_enumerate:PySem.W.nsIn K mainGlobals "enumerate" = some none)
    (z_int:PySem.W.nsIn K mainGlobals "int" = some none)
    (z_isinstance:PySem.W.nsIn K mainGlobals "isinstance" = some none)
    (z_len:PySem.W.nsIn K mainGlobals "len" = some none)
    (z_list:PySem.W.nsIn K mainGlobals "list" = some none)
    (z_max:PySem.W.nsIn K mainGlobals "max" = some none)
    (z_min:PySem.W.nsIn K mainGlobals "min" = some none)
    (z_range:PySem.W.nsIn K mainGlobals "range" = some none)
    (z_repr:PySem.W.nsIn K mainGlobals "repr" = some none)
    (z_sorted:PySem.W.nsIn K mainGlobals "sorted" = some none)
    (z_str:PySem.W.nsIn K mainGlobals "str" = some none)
    (z_sum:PySem.W.nsIn K mainGlobals "sum" = some none)
    (z_tuple:PySem.W.nsIn K mainGlobals "tuple" = some none)
    (z_zip:PySem.W.nsIn K mainGlobals "zip" = some none)
    : ∃ fd:FuncData,(∀ (s:Shared) (v:Value),BindsTo s fd ⟨[v],[]⟩ [("_law_script",v)]) /\ ∀ base:Heap,K.In base -> base.Ns mainGlobals mg -> FnOk l.prog w K mg base CX0 7 fa fd ["_law_script"] (QB K):=by
  have e:=hfa.symm.trans (PySem.W.mg_of X G a29)
  cases e
  have B:Blt mg:=⟨PySem.W.mg_none_of X G z_abs,PySem.W.mg_none_of X G z_all,PySem.W.mg_none_of X G z_any,PySem.W.mg_none_of X G z_bool,PySem.W.mg_none_of X G z_dict,PySem.W.mg_none_of X G z_divmod,PySem.W.mg_none_of X G z_enumerate,PySem.W.mg_none_of X G z_int,PySem.W.mg_none_of X G z_isinstance,PySem.W.mg_none_of X G z_len,PySem.W.mg_none_of X G z_list,PySem.W.mg_none_of X G z_max,PySem.W.mg_none_of X G z_min,PySem.W.mg_none_of X G z_range,PySem.W.mg_none_of X G z_repr,PySem.W.mg_none_of X G z_sorted,PySem.W.mg_none_of X G z_str,PySem.W.mg_none_of X G z_sum,PySem.W.mg_none_of X G z_tuple,PySem.W.mg_none_of X G z_zip⟩
  obtain ⟨f0,g0,a0,F0⟩:=h0
  have b0:=F0.binds (ps:=["one", "other"]) fun _ _ _ _ _ _ us hl=>by obtain ⟨_,_,rfl⟩:=qk hl;rfl
  obtain ⟨f1,g1,a1,F1⟩:=h1
  have b1:=F1.binds (ps:=["pairs"]) fun _ _ _ _ _ _ us hl=>by obtain ⟨_,rfl⟩:=Q0 hl;rfl
  obtain ⟨f2,g2,a2,F2⟩:=h2
  have b2:=F2.binds (ps:=["pairs"]) fun _ _ _ _ _ _ us hl=>by obtain ⟨_,rfl⟩:=Q0 hl;rfl
  obtain ⟨f3,g3,a3,F3⟩:=h3
  have b3:=F3.binds (ps:=["start", "rows"]) fun _ _ _ _ _ _ us hl=>by obtain ⟨_,_,rfl⟩:=qk hl;rfl
  obtain ⟨f4,g4,a4,F4⟩:=h4
  have b4:=F4.binds (ps:=["part", "rows"]) fun _ _ _ _ _ _ us hl=>by obtain ⟨_,_,rfl⟩:=qk hl;rfl
  obtain ⟨f5,g5,a5,F5⟩:=h5
  have b5:=F5.binds (ps:=["job", "part"]) fun _ _ _ _ _ _ us hl=>by obtain ⟨_,_,rfl⟩:=qk hl;rfl
  obtain ⟨f6,g6,a6,F6⟩:=h6
  have b6:=F6.binds (ps:=["job", "kind"]) fun _ _ _ _ _ _ us hl=>by obtain ⟨_,_,rfl⟩:=qk hl;rfl
  obtain ⟨f7,g7,a7,F7⟩:=h7
  have b7:=F7.binds (ps:=["job", "part"]) fun _ _ _ _ _ _ us hl=>by obtain ⟨_,_,rfl⟩:=qk hl;rfl
  obtain ⟨f8,g8,a8,F8⟩:=h8
  have b8:=F8.binds (ps:=["walks", "goals", "aheads"]) fun _ _ _ _ _ _ us hl=>by obtain ⟨_,_,_,rfl⟩:=Vt hl;rfl
  obtain ⟨f9,g9,a9,F9⟩:=h9
  have b9:=F9.binds (ps:=["job", "kinds"]) fun _ _ _ _ _ _ us hl=>by obtain ⟨_,_,rfl⟩:=qk hl;rfl
  obtain ⟨f10,g10,a10,F10⟩:=h10
  have b10:=F10.binds (ps:=["job", "walks", "parts"]) fun _ _ _ _ _ _ us hl=>by obtain ⟨_,_,_,rfl⟩:=Vt hl;rfl
  obtain ⟨f11,g11,a11,F11⟩:=h11
  have b11:=F11.binds (ps:=["job", "feeders", "parts"]) fun _ _ _ _ _ _ us hl=>by obtain ⟨_,_,_,rfl⟩:=Vt hl;rfl
  obtain ⟨f12,g12,a12,F12⟩:=h12
  have b12:=F12.binds (ps:=["job", "parts"]) fun _ _ _ _ _ _ us hl=>by obtain ⟨_,_,rfl⟩:=qk hl;rfl
  obtain ⟨f13,g13,a13,F13⟩:=h13
  have b13:=F13.binds (ps:=["job"]) fun _ _ _ _ _ _ us hl=>by obtain ⟨_,rfl⟩:=Q0 hl;rfl
  obtain ⟨f14,g14,a14,F14⟩:=h14
  have b14:=F14.binds (ps:=["_law_script", "_law_k"]) fun _ _ _ _ _ _ us hl=>by obtain ⟨_,_,rfl⟩:=qk hl;rfl
  obtain ⟨f15,g15,a15,F15⟩:=h15
  have b15:=F15.binds (ps:=["_law_box_here", "_law_size"]) fun _ _ _ _ _ _ us hl=>by obtain ⟨_,_,rfl⟩:=qk hl;rfl
  obtain ⟨f16,g16,a16,F16⟩:=h16
  have b16:=F16.binds (ps:=["_law_script", "_law_size"]) fun _ _ _ _ _ _ us hl=>by obtain ⟨_,_,rfl⟩:=qk hl;rfl
  obtain ⟨f17,g17,a17,F17⟩:=h17
  have b17:=F17.binds (ps:=["_law_found", "_law_due_here"]) fun _ _ _ _ _ _ us hl=>by obtain ⟨_,_,rfl⟩:=qk hl;rfl
  obtain ⟨f18,g18,a18,F18⟩:=h18
  have b18:=F18.binds (ps:=["_law_number", "_law_size"]) fun _ _ _ _ _ _ us hl=>by obtain ⟨_,_,rfl⟩:=qk hl;rfl
  obtain ⟨f19,g19,a19,F19⟩:=h19
  have b19:=F19.binds (ps:=["_law_box_here", "_law_taken"]) fun _ _ _ _ _ _ us hl=>by obtain ⟨_,_,rfl⟩:=qk hl;rfl
  obtain ⟨f20,g20,a20,F20⟩:=h20
  have b20:=F20.binds (ps:=["_law_box_here", "_law_many"]) fun _ _ _ _ _ _ us hl=>by obtain ⟨_,_,rfl⟩:=qk hl;rfl
  obtain ⟨f21,g21,a21,F21⟩:=h21
  have b21:=F21.binds (ps:=["_law_box_here", "_law_taken"]) fun _ _ _ _ _ _ us hl=>by obtain ⟨_,_,rfl⟩:=qk hl;rfl
  obtain ⟨f22,g22,a22,F22⟩:=h22
  have b22:=F22.binds (ps:=["_law_box_here", "_law_many"]) fun _ _ _ _ _ _ us hl=>by obtain ⟨_,_,rfl⟩:=qk hl;rfl
  obtain ⟨f23,g23,a23,F23⟩:=h23
  have b23:=F23.binds (ps:=["_law_box_here", "_law_some"]) fun _ _ _ _ _ _ us hl=>by obtain ⟨_,_,rfl⟩:=qk hl;rfl
  obtain ⟨f24,g24,a24,F24⟩:=h24
  have b24:=F24.binds (ps:=["_law_box_here", "_law_kinds", "_law_parts", "_law_plenty"]) fun _ _ _ _ _ _ us hl=>by obtain ⟨_,_,_,_,rfl⟩:=Yt hl;rfl
  obtain ⟨f25,g25,a25,F25⟩:=h25
  have b25:=F25.binds (ps:=["_law_box_here", "_law_many"]) fun _ _ _ _ _ _ us hl=>by obtain ⟨_,_,rfl⟩:=qk hl;rfl
  obtain ⟨f26,g26,a26,F26⟩:=h26
  have b26:=F26.binds (ps:=["_law_box_here", "_law_few", "_law_most", "_law_plenty"]) fun _ _ _ _ _ _ us hl=>by obtain ⟨_,_,_,_,rfl⟩:=Yt hl;rfl
  obtain ⟨f27,g27,a27,F27⟩:=h27
  have b27:=F27.binds (ps:=["_law_one", "_law_other"]) fun _ _ _ _ _ _ us hl=>by obtain ⟨_,_,rfl⟩:=qk hl;rfl
  obtain ⟨f28,g28,a28,F28⟩:=h28
  have b28:=F28.binds (ps:=["_law_job_here"]) fun _ _ _ _ _ _ us hl=>by obtain ⟨_,rfl⟩:=Q0 hl;rfl
  have F29:=VG (st:=zu 33) l29 c29 k29
  refine ⟨PySem.W.fnOf "law" "law" (jy (zu 33)) (qY (zu 33)) (zo (zu 33)) .none kV29 dc29 pm29 an29 cd29 ct29,fun s v=>.of_eq rfl,fun base _ _=>?_⟩
  have D_way_between:Dfn l.prog w K mg base "way_between" 1 ["one", "other"] (vE K):=⟨_,_,Y4 F0 B,PySem.W.mg_of X G a0,F0.kp,b0⟩
  have D_turned:Dfn l.prog w K mg base "turned" 1 ["pairs"] (ym K):=⟨_,_,Ve F1 B,PySem.W.mg_of X G a1,F1.kp,b1⟩
  have D_next_by:Dfn l.prog w K mg base "next_by" 1 ["pairs"] (ZX K):=⟨_,_,Ww F2 B,PySem.W.mg_of X G a2,F2.kp,b2⟩
  have D_steps_from:Dfn l.prog w K mg base "steps_from" 1 ["start", "rows"] (yn K):=⟨_,_,Vf F3 B,PySem.W.mg_of X G a3,F3.kp,b3⟩
  have D_all_from:Dfn l.prog w K mg base "all_from" 2 ["part", "rows"] (Xt K):=⟨_,_,zac F4 B D_steps_from,PySem.W.mg_of X G a4,F4.kp,b4⟩
  have D_ahead_of:Dfn l.prog w K mg base "ahead_of" 3 ["job", "part"] (yr K):=⟨_,_,Vj F5 B D_turned D_next_by D_all_from,PySem.W.mg_of X G a5,F5.kp,b5⟩
  have D_feeders_for:Dfn l.prog w K mg base "feeders_for" 1 ["job", "kind"] (Xq K):=⟨_,_,Y9 F6 B,PySem.W.mg_of X G a6,F6.kp,b6⟩
  have D_kind_of:Dfn l.prog w K mg base "kind_of" 1 ["job", "part"] (Wa K):=⟨_,_,za6 F7 B,PySem.W.mg_of X G a7,F7.kp,b7⟩
  have D_farther:Dfn l.prog w K mg base "farther" 2 ["walks", "goals", "aheads"] (QF l.prog w K):=⟨_,_,zaa F8 B D_way_between,PySem.W.mg_of X G a8,F8.kp,b8⟩
  have D_picking_walks:Dfn l.prog w K mg base "picking_walks" 3 ["job", "kinds"] (ZW l.prog w K):=⟨_,_,Wv F9 B D_feeders_for D_farther,PySem.W.mg_of X G a9,F9.kp,b9⟩
  have D_laying_walks:Dfn l.prog w K mg base "laying_walks" 4 ["job", "walks", "parts"] (ZY l.prog w K):=⟨_,_,Wy F10 B D_ahead_of D_farther,PySem.W.mg_of X G a10,F10.kp,b10⟩
  have D_picks_at:Dfn l.prog w K mg base "picks_at" 2 ["job", "feeders", "parts"] (Xm K):=⟨_,_,Y5 F11 B D_kind_of,PySem.W.mg_of X G a11,F11.kp,b11⟩
  have D_shortest_trip:Dfn l.prog w K mg base "shortest_trip" 5 ["job", "parts"] (YH K):=⟨_,_,za5 F12 B D_kind_of D_way_between D_picking_walks D_laying_walks D_picks_at,PySem.W.mg_of X G a12,F12.kp,b12⟩
  have D_alone_ways:Dfn l.prog w K mg base "alone_ways" 6 ["job"] (JE K):=⟨_,_,za8 F13 B D_shortest_trip,PySem.W.mg_of X G a13,F13.kp,b13⟩
  have D_law_box:Dfn l.prog w K mg base "_law_box" 1 ["_law_script", "_law_k"] (Xr K):=⟨_,_,zab F14 B,PySem.W.mg_of X G a14,F14.kp,b14⟩
  have D_law_take:Dfn l.prog w K mg base "_law_take" 1 ["_law_box_here", "_law_size"] (jr):=⟨_,_,Wt F15 B,PySem.W.mg_of X G a15,F15.kp,b15⟩
  have D_law_folded:Dfn l.prog w K mg base "_law_folded" 1 ["_law_script", "_law_size"] (ZZ K):=⟨_,_,Wz F16 B,PySem.W.mg_of X G a16,F16.kp,b16⟩
  have D_law_same:Dfn l.prog w K mg base "_law_same" 2 ["_law_found", "_law_due_here"] (spS K 2):=⟨_,_,QW F17 B (PySem.W.mg_of X G a17) b17 2,PySem.W.mg_of X G a17,F17.kp,b17⟩
  have D_law_spelled:Dfn l.prog w K mg base "_law_spelled" 1 ["_law_number", "_law_size"] (yo):=⟨_,_,Vg F18 B,PySem.W.mg_of X G a18,F18.kp,b18⟩
  have D_law_name:Dfn l.prog w K mg base "_law_name" 2 ["_law_box_here", "_law_taken"] (Xn):=⟨_,_,Y6 F19 B D_law_take D_law_spelled,PySem.W.mg_of X G a19,F19.kp,b19⟩
  have D_law_names:Dfn l.prog w K mg base "_law_names" 3 ["_law_box_here", "_law_many"] (yq):=⟨_,_,Vi F20 B D_law_name,PySem.W.mg_of X G a20,F20.kp,b20⟩
  have D_law_place:Dfn l.prog w K mg base "_law_place" 2 ["_law_box_here", "_law_taken"] (xo K):=⟨_,_,Vh F21 B D_law_take,PySem.W.mg_of X G a21,F21.kp,b21⟩
  have D_law_places:Dfn l.prog w K mg base "_law_places" 3 ["_law_box_here", "_law_many"] (vG):=⟨_,_,JN F22 B D_law_place,PySem.W.mg_of X G a22,F22.kp,b22⟩
  have D_law_shuffled:Dfn l.prog w K mg base "_law_shuffled" 2 ["_law_box_here", "_law_some"] (yp K):=⟨_,_,Wu F23 B D_law_take,PySem.W.mg_of X G a23,F23.kp,b23⟩
  have D_law_feeders:Dfn l.prog w K mg base "_law_feeders" 3 ["_law_box_here", "_law_kinds", "_law_parts", "_law_plenty"] (Z0 K):=⟨_,_,WA F24 B D_law_take D_law_shuffled D_law_place,PySem.W.mg_of X G a24,F24.kp,b24⟩
  have D_law_aheads:Dfn l.prog w K mg base "_law_aheads" 3 ["_law_box_here", "_law_many"] (vI K):=⟨_,_,JO F25 B D_law_take D_law_shuffled,PySem.W.mg_of X G a25,F25.kp,b25⟩
  have D_law_job:Dfn l.prog w K mg base "_law_job" 4 ["_law_box_here", "_law_few", "_law_most", "_law_plenty"] (Xp K):=⟨_,_,Y8 F26 B D_law_take D_law_names D_law_place D_law_places D_law_feeders D_law_aheads,PySem.W.mg_of X G a26,F26.kp,b26⟩
  have D_law_way:Dfn l.prog w K mg base "_law_way" 1 ["_law_one", "_law_other"] (vE K):=⟨_,_,Wx F27 B,PySem.W.mg_of X G a27,F27.kp,b27⟩
  have D_law_due:Dfn l.prog w K mg base "_law_due" 2 ["_law_job_here"] (JE K):=⟨_,_,za7 F28 B D_law_way,PySem.W.mg_of X G a28,F28.kp,b28⟩
  exact Y7 F29 B D_law_folded D_law_box D_law_take D_law_job D_law_due D_alone_ways D_law_same
theorem walk {l:PySem.W.OpenLaw} {q:Program} {loose:List Str} {XP:(Str -> Option Value) -> Heap -> Prop} {YP:World -> Heap -> Prop} {d:DefRec} {K:Params -> PySem.W.Frag} (hn:l.most = some 63) (hdf:d.params.defaults = [])
    (hY:∀ (w:World) (h:Heap),YP w h -> (K w.params).In h)
    (F:∀ (w:World) (mg:Str -> Option Value) (fa:Addr) (h:Heap),(K w.params).In h -> h.Ns mainGlobals mg -> mg d.name = some (.ref fa) ->
      ∃ fd:FuncData,(∀ (s:Shared) (u:Value),BindsTo s fd ⟨[u],[]⟩ [("_law_script",u)]) /\ ∀ base:Heap,(K w.params).In base -> base.Ns mainGlobals mg -> FnOk l.prog w (K w.params) mg base CX0 7 fa fd ["_law_script"] (QB (K w.params))) :
    PySem.W.WalkO q loose XP YP l.row.toRowW d [] (fun f vs=>PySem.call f vs):=
  L2.walk_of (n:=63) (k:=7) (x:= "_law_script") (CX:=fun _=>CX0) (sp:=fun w=>QB (K w.params)) hn (by decide) hdf ⟨rfl,by decide,by decide,rfl⟩ hY F (fun _ _ a ns hl _ hS=>⟨a,ns,rfl,hS,hl,fun _=>rfl⟩) fun _ _ _ _ _ z=>z
end L2
open PySem PySem.W PyProof.Rows
set_option maxRecDepth 100000 in
set_option maxHeartbeats 0 in
theorem PySem.Challenge.cw_pickboard_k18_parts_alone_holds : PySem.Challenge.rw_pickboard_k18_parts_alone.Holds := by
  w_on;o_law;k_head;(case hw=>w_witness2)
  k_fill
  refine L2.walk (l:=PySem.Challenge.rw_pickboard_k18_parts_alone) rfl rfl (fun w h Y=>PySem.W.kIn_of Y) ?F
  case F=>
    intro w mg fa h KX G hmg
    refine' L2.all_mk KX G hmg (L2.fd_mk (by k_is) (by k_is) (by k_is) (by k_is)) (L2.fd_mk (by k_is) (by k_is) (by k_is) (by k_is)) (L2.fd_mk (by k_is) (by k_is) (by k_is) (by k_is)) (L2.fd_mk (by k_is) (by k_is) (by k_is) (by k_is)) (L2.fd_mk (by k_is) (by k_is) (by k_is) (by k_is)) (L2.fd_mk (by k_is) (by k_is) (by k_is) (by k_is)) (L2.fd_mk (by k_is) (by k_is) (by k_is) (by k_is)) (L2.fd_mk (by k_is) (by k_is) (by k_is) (by k_is)) (L2.fd_mk (by k_is) (by k_is) (by k_is) (by k_is)) (L2.fd_mk (by k_is) (by k_is) (by k_is) (by k_is)) (L2.fd_mk (by k_is) (by k_is) (by k_is) (by k_is)) (L2.fd_mk (by k_is) (by k_is) (by k_is) (by k_is)) (L2.fd_mk (by k_is) (by k_is) (by k_is) (by k_is)) (L2.fd_mk (by k_is) (by k_is) (by k_is) (by k_is)) (L2.fd_mk (by k_is) (by k_is) (by k_is) (by k_is)) (L2.fd_mk (by k_is) (by k_is) (by k_is) (by k_is)) (L2.fd_mk (by k_is) (by k_is) (by k_is) (by k_is)) (L2.fd_mk (by k_is) (by k_is) (by k_is) (by k_is)) (L2.fd_mk (by k_is) (by k_is) (by k_is) (by k_is)) (L2.fd_mk (by k_is) (by k_is) (by k_is) (by k_is)) (L2.fd_mk (by k_is) (by k_is) (by k_is) (by k_is)) (L2.fd_mk (by k_is) (by k_is) (by k_is) (by k_is)) (L2.fd_mk (by k_is) (by k_is) (by k_is) (by k_is)) (L2.fd_mk (by k_is) (by k_is) (by k_is) (by k_is)) (L2.fd_mk (by k_is) (by k_is) (by k_is) (by k_is)) (L2.fd_mk (by k_is) (by k_is) (by k_is) (by k_is)) (L2.fd_mk (by k_is) (by k_is) (by k_is) (by k_is)) (L2.fd_mk (by k_is) (by k_is) (by k_is) (by k_is)) (L2.fd_mk (by k_is) (by k_is) (by k_is) (by k_is)) (by k_is) (by k_is) (by k_is) (by k_is) (by k_is) (by k_is) (by k_is) (by k_is) (by k_is) (by k_is) (by k_is) (by k_is) (by k_is) (by k_is) (by k_is) (by k_is) (by k_is) (by k_is) (by k_is) (by k_is) (by k_is) (by k_is) (by k_is) (by k_is)
