import PyProof.Rows.All
import Wide.All
import OpenK.AllK
import Wide.FinOn
import Lean
import PyProof.EqAt
import PyProof.EqKinds
import PyProof.TupleCall
import PyProof.NeKinds
import PyProof.ReprRoads
import PyProof.ReprBulk
import PyProof.SumWalk
import PyProof.FString5
import PyProof.StrBlock2
import PyProof.StrBlockI
import PyProof.StrBlockH
import PyProof.StrWalks
import PyProof.StrLawsIn
import PyProof.AutoListH
import PyProof.CompUse
import PyProof.ListRange
import PyProof.CallFns
import PyProof.ListTruth
import PyProof.Rows.Range3
import PyProof.SeqI3
import KE.KRevSl
import PyProof.DictIter
import PyProof.DictWalks
import PyProof.DictCompW
import PyProof.Cells
import OpenK.KOwn
import PyProof.ExcClass3
import PyProof.ExcInit
import PyProof.ExcBaseAll.ValueError
import PyProof.ExcArgsOwn
import PyProof.ExcAttrAll.ValueError
import PyProof.Rows.SortWalk
import PyProof.Rows.SortStr
import PyProof.MeetsDict
import PyProof.DictUpdate
import PyProof.FactsAll.dict_3
import KE.KDictList
import PyProof.FactsAll.dict_4
import KE.KDictSum
import PyProof.IsiH_list
import PyProof.Rows.Exc
import KE.KDictOf
import PyProof.SetKind
import PyProof.Rows.SetFrom
import PyProof.FactsAll.set_1
import PyProof.FactsAll.set_2
import KE.KSortTup
import KE.KItemsList
import PyProof.Rows.SortRev
import PyProof.Rows.StrCase
import PyProof.Rows.StrLen
import KE.KPairComp
import KE.KMinKey
import PyProof.CallStr
import PyProof.Ascii
import PySem.Challenge.RW_pickboard_k10_trips_or_not
set_option Elab.async false
set_option linter.all false
set_option maxRecDepth 100000
namespace L2
open PySem PySem.Spec PyProof.Rows
abbrev Key:=Sum Int Str
def wa:Key -> Value -> Bool
  | .inl k,v=>Value.isInt k v
  | .inr x,v=>Value.isStrOf x v
def WP (w:World):Key -> Int
  | .inl k=>hashInt k
  | .inr x=>hashStr w x
theorem qh:∀ {k:Key} {v:Value},wa k v = true -> (∃ i t,k = Sum.inl i /\ v = Value.int i t) \/ (∃ x t,k = Sum.inr x /\ v = Value.str x t)
  | .inl i,v,h=>by
    obtain ⟨t,e⟩:=Value.isInt_shape (k:=i) (v:=v) h
    exact .inl ⟨i,t,rfl,e⟩
  | .inr x,v,h=>by
    obtain ⟨t,e⟩:=Value.isStrOf_shape (x:=x) (v:=v) h
    exact .inr ⟨x,t,rfl,e⟩
theorem QM (i:Int) (t:Tok):wa (.inl i) (.int i t) = true:=by simp [wa,Value.isInt]
theorem QL (x:Str) (t:Tok):wa (.inr x) (.str x t) = true:=by simp [wa,Value.isStrOf]
theorem VS (a b:Int):decide ((Sum.inl a:Key) = Sum.inl b) = (a == b):=by
  by_cases e:a = b
  · subst e;simp
  · have h:¬ (Sum.inl a:Key) = Sum.inl b:=fun q=>e (Sum.inl.inj q)
    rw [decide_eq_false h]
    exact (beq_eq_false_iff_ne.mpr e).symm
theorem VP (a b:Str):decide ((Sum.inr a:Key) = Sum.inr b) = decide (a = b):=by
  by_cases e:a = b
  · subst e;simp
  · have h:¬ (Sum.inr a:Key) = Sum.inr b:=fun q=>e (Sum.inr.inj q)
    rw [decide_eq_false h,decide_eq_false e]
theorem VR (a:Int) (b:Str):decide ((Sum.inl a:Key) = Sum.inr b) = false:=decide_eq_false (fun q=>nomatch q)
theorem VQ (a:Str) (b:Int):decide ((Sum.inr a:Key) = Sum.inl b) = false:=decide_eq_false (fun q=>nomatch q)
def qJ (prog:Program) (w:World):PySem.KeyKind prog w Key where
  is:=wa
  hash:=WP w
  inj:=fun v a b ha hb=>by
    rcases qh ha with ⟨i,t,rfl,rfl⟩ | ⟨x,t,rfl,rfl⟩
    · rcases qh hb with ⟨j,u,rfl,e⟩ | ⟨y,u,rfl,e⟩
      · injection e with e1 _;rw [e1]
      · exact nomatch e
    · rcases qh hb with ⟨j,u,rfl,e⟩ | ⟨y,u,rfl,e⟩
      · exact nomatch e
      · injection e with e1 _;rw [e1]
  byValue:=fun k v h=>by
    rcases qh h with ⟨i,t,rfl,rfl⟩ | ⟨x,t,rfl,rfl⟩ <;> rfl
  pyHash:=fun hv h=>by
    rcases qh hv with ⟨i,t,rfl,rfl⟩ | ⟨x,t,rfl,rfl⟩
    · exact wpAny_pyHash_int h
    · exact wpAny_pyHash_str h
  eqBool:=fun hu hv h=>by
    rcases qh hu with ⟨i,t,rfl,rfl⟩ | ⟨x,t,rfl,rfl⟩
    · rcases qh hv with ⟨j,u,rfl,rfl⟩ | ⟨y,u,rfl,rfl⟩
      · rw [VS] at h;exact wpAny_eqBool_int h
      · rw [VR] at h;exact SeqAt.EqAt.int_str i t y u _ _ _ _ h
    · rcases qh hv with ⟨j,u,rfl,rfl⟩ | ⟨y,u,rfl,rfl⟩
      · rw [VQ] at h;exact SeqAt.EqAt.str_int x t j u _ _ _ _ h
      · rw [VP] at h;exact wpAny_eqBool_str h
  «strs»:=fun k x t v h=>by
    rcases qh h with ⟨i,u,rfl,e⟩ | ⟨y,u,rfl,e⟩
    · exact nomatch e
    · injection e with e1 _
      subst e1
      cases v <;> rfl
theorem yD (prog:Program) (w:World) (i:Int) (t:Tok):(qJ prog w).is (.inl i) (.int i t) = true:=QM i t
theorem yC (prog:Program) (w:World) (x:Str) (t:Tok):(qJ prog w).is (.inr x) (.str x t) = true:=QL x t
inductive V where
  | non | bl (b:Bool) | int (i:Int) | str (x:Str) | byt (b:Array UInt8) | flt (b:UInt64) | ref (a:Addr) | ty (n:String)
  deriving DecidableEq
def RelV:V -> Value -> Prop
  | .non,u=>u = Value.none
  | .bl b,u=>u = Value.bool b
  | .int i,u=>∃ t,u = Value.int i t
  | .str x,u=>∃ t,u = Value.str x t
  | .byt b,u=>∃ t,u = Value.bytes b t
  | .flt b,u=>∃ t,u = Value.float b t
  | .ref a,u=>u = Value.ref a
  | .ty n,u=>u = Value.type n
abbrev Vals:List V -> List Value -> Prop:=Paired RelV
theorem Vals.length {xs:List V} {us:List Value} (r:Vals xs us):xs.length = us.length:=Paired.length r
theorem Vals.get:∀ {xs:List V} {us:List Value} {i:Nat} {x:V},Vals xs us -> xs[i]? = some x -> ∃ u,us[i]? = some u /\ RelV x u
  | _,_,_,_,.nil,e=>by simp at e
  | _,_,0,_,.cons r _,e=>by simp at e;subst e;exact ⟨_,rfl,r⟩
  | _,_,i + 1,x,.cons _ t,e=>by
    obtain ⟨u,h1,h2⟩:=Vals.get (i:=i) (x:=x) t (by simpa using e)
    exact ⟨u,by simpa using h1,h2⟩
theorem Vals.set {x:V} {u:Value} (r:RelV x u):∀ {xs:List V} {us:List Value} (i:Nat),Vals xs us -> Vals (xs.set i x) (us.set i u)
  | _,_,_,.nil=>.nil
  | _,_,0,.cons _ t=>.cons r t
  | _,_,i + 1,.cons q t=>.cons q (Vals.set r i t)
theorem Vals.append:∀ {xs ys:List V} {us ws:List Value},Vals xs us -> Vals ys ws -> Vals (xs ++ ys) (us ++ ws)
  | _,_,_,_,.nil,s=>s
  | _,_,_,_,.cons r t,s=>.cons r (Vals.append t s)
theorem Vals.take:∀ {xs:List V} {us:List Value} (n:Nat),Vals xs us -> Vals (xs.take n) (us.take n)
  | _,_,0,_=>.nil
  | _,_,_ + 1,.nil=>.nil
  | _,_,n + 1,.cons r t=>.cons r (Vals.take n t)
theorem Vals.drop:∀ {xs:List V} {us:List Value} (n:Nat),Vals xs us -> Vals (xs.drop n) (us.drop n)
  | _,_,0,r=>r
  | _,_,_ + 1,.nil=>.nil
  | _,_,n + 1,.cons _ t=>Vals.drop n t
def RelO:Option V -> Option Value -> Prop
  | some v,some u=>RelV v u
  | none,none=>True
  | _,_=>False
def KV {κ:Type}:List (κ × V) -> List (κ × Value) -> Prop:=Paired fun (p:κ × V) (q:κ × Value)=>p.1 = q.1 /\ RelV p.2 q.2
def kV:Key -> V
  | .inl i=>.int i
  | .inr x=>.str x
inductive HO where
    | lst (xs:List V)
    | tup (xs:List V)
    | dK (kvs:List (Key × V)) | dT (kvs:List (List Key × V))
    | set (S:Int -> Bool) (n:Nat)
    | ins (C dx:Addr) (fs:List (Str × V))
    | own (x:Addr)
    | xd (fs:List (Str × V))
    | met (f x:Addr)
    | rng (lo hi:Int)
    | frz (o:Obj) (u:HO)
    | tbl (ps:Array Value)
    | ext (φ:Heap -> Prop)
abbrev Hp:=Addr -> Option HO
def upd (H:Hp) (a:Addr) (o:HO):Hp:=fun b=>if b = a then some o else H b
theorem zd {H:Hp} {a:Addr} {o:HO}:upd H a o a = some o:=by unfold upd;rw [if_pos rfl]
theorem zv {H:Hp} {a b:Addr} {o:HO} (h:b ≠ a):upd H a o b = H b:=by unfold upd;rw [if_neg h]
theorem JK {H:Hp} {a b:Addr} {o u:HO} (h:H a = some o) (h':H b = some u) (d:o ≠ u):a ≠ b:=by
  intro e;subst e;rw [h] at h';exact d (Option.some.inj h')
theorem zr {H:Hp} {a b:Addr} {o:HO} (h:H a = some o) (h':H b = none):a ≠ b:=by
  intro e;subst e;rw [h] at h';cases h'
section
variable (P:Program) (w:World)
def TupX (h:Heap) (a:Addr) (its:Array Value):Prop:=IsTup h a its /\ ∃ o,h.get? a = some o /\ o.dict = none
theorem TupX.by {h:Heap} {a:Addr} {its:Array Value} {n:Nat} (e:h.get? a = some { cls:=.type "tuple",data:=.seq its n }):TupX h a its:=⟨⟨_,e,rfl,n,rfl⟩,_,e,rfl⟩
def ObjOk (H:Hp) (h:Heap) (a:Addr):HO -> Prop
  | .lst xs=>xs.length <= sizeLine /\ ∃ (its:List Value) (n:Nat),Vals xs its /\ h.get? a = some { cls:=.type "list",data:=.seq its.toArray n }
  | .tup xs=>xs.length <= sizeLine /\ ∃ its:List Value,Vals xs its /\ TupX h a its.toArray
  | .dK kvs=>kvs.length <= sizeLine /\ (a == sysModules) = false /\ ∃ vs,KV kvs vs /\ h.DictOf (qJ P w) a vs
  | .dT kvs=>kvs.length <= sizeLine /\ (a == sysModules) = false /\ ∃ xs:List (List Key × Addr × Value),
      Paired (fun (p:List Key × V) (q:List Key × Addr × Value)=>p.1 = q.1 /\ H q.2.1 = some (.tup (p.1.map kV)) /\ RelV p.2 q.2.2) kvs xs /\
      ∃ o es ep,h.get? a = some o /\ o.ExactDict /\ o.data = .dict es ep /\ es.toList = xs.map (entryOfKey (tupleKind (qJ P w))) /\ (xs.map (·.1)).Nodup
  | .set S n=>h.SetOf (intKind P w) a S n
  | .ins C dx fs=>H dx = some (.own a) /\ fs.length <= 1000 /\ dx ≠ a /\ h.get? a = some (PySem.W.instObj C dx) /\
      ∃ mA,h.Ns1 dx mA /\ (∀ f,RelO (fs.lookup f) (mA f)) /\ PySem.Within mA (fs.map (·.1))
  | .own _=>∃ o,h.get? a = some o
  | .xd fs=>∃ mA,h.Ns1 a mA /\ ∀ f,RelO (fs.lookup f) (mA f)
  | .rng lo hi=>∃ t u v,h.get? a = some { cls:=.type "range",data:=.fields #[.int lo t,.int hi u,.int 1 v] }
  | .frz o u=>h.get? a = some o /\ ObjOk H h a u
  | .tbl ps=>h.get? a = some { cls:=.none,data:=.fields ps }
  | .met f x=>h.get? a = some (PySem.W.methodObj (.ref f) (.ref x))
  | .ext φ=>φ h /\ (∃ o,h.get? a = some o) /\ ∀ h1 h2:Heap,φ h1 -> (∀ o,h1.get? a = some o -> h2.get? a = some o) -> φ h2
def HOk (H:Hp) (h:Heap):Prop:=∀ a o,H a = some o -> ObjOk P w H h a o
end
section
variable {P:Program} {w:World} {H H':Hp} {h h':Heap} {a:Addr} {o:HO}
theorem ObjOk.lt (x:ObjOk P w H h a o):a < h.objs.size:=by
  cases o with
  | lst xs=>obtain ⟨_,_,_,_,e⟩:=x;exact Heap.lt_size e
  | tup xs=>obtain ⟨_,_,_,p⟩:=x;exact p.1.lt
  | dK kvs=>obtain ⟨_,_,_,_,o,_,_,e,_⟩:=x;exact Heap.lt_size e
  | dT kvs=>obtain ⟨_,_,_,_,o,_,_,e,_⟩:=x;exact Heap.lt_size e
  | set S n=>obtain ⟨o,_,_,_,e,_⟩:=x;exact Heap.lt_size e
  | ins C dx fs=>obtain ⟨_,_,_,e,_⟩:=x;exact Heap.lt_size e
  | own y=>obtain ⟨_,e⟩:=x;exact Heap.lt_size e
  | xd fs=>obtain ⟨_,⟨_,_,_,e,_⟩,_⟩:=x;exact Heap.lt_size e
  | rng lo hi=>obtain ⟨_,_,_,e⟩:=x;exact Heap.lt_size e
  | frz ob u=>obtain ⟨e,_⟩:=x;exact Heap.lt_size e
  | tbl ps=>exact Heap.lt_size (show h.get? a = some _ from x)
  | met f y=>exact Heap.lt_size (show h.get? a = some _ from x)
  | ext φ=>obtain ⟨_,⟨_,e⟩,_⟩:=x;exact Heap.lt_size e
theorem Paired.mapP {α β:Type} {F G:α -> β -> Prop}:∀ {l₁:List α} {l₂:List β},Paired F l₁ l₂ -> (∀ a b,F a b -> G a b) -> Paired G l₁ l₂
  | _,_,.nil,_=>.nil
  | _,_,.cons r t,f=>.cons (f _ _ r) (Paired.mapP t f)
theorem ObjOk.stay (x:ObjOk P w H h a o) (k:∀ b u,(b = a \/ H b = some (.own a)) -> h.get? b = some u -> h'.get? b = some u)
    (ho:∀ b,H b = some (.own a) -> H' b = some (.own a)) (ht:∀ b xs,H b = some (.tup xs) -> H' b = some (.tup xs)):ObjOk P w H' h' a o:=by
  induction o with
  | lst xs=>obtain ⟨z,its,n,r,e⟩:=x;exact ⟨z,its,n,r,k _ _ (.inl rfl) e⟩
  | tup xs=>obtain ⟨z,its,r,⟨ob,e,c⟩,o2,e2,dn⟩:=x;exact ⟨z,its,r,⟨ob,k _ _ (.inl rfl) e,c⟩,o2,k _ _ (.inl rfl) e2,dn⟩
  | dK kvs=>obtain ⟨z,y,vs,r,ob,es,ep,e,c⟩:=x;exact ⟨z,y,vs,r,ob,es,ep,k _ _ (.inl rfl) e,c⟩
  | dT kvs=>
    obtain ⟨z,y,xs,r,ob,es,ep,e,c⟩:=x
    exact ⟨z,y,xs,Paired.mapP r fun p q z=>⟨z.1,ht _ _ z.2.1,z.2.2⟩,ob,es,ep,k _ _ (.inl rfl) e,c⟩
  | set S n=>obtain ⟨ob,es,ep,t,e,c⟩:=x;exact ⟨ob,es,ep,t,k _ _ (.inl rfl) e,c⟩
  | ins C dx fs=>
    obtain ⟨d,z,ne,e,mA,⟨od,es,ep,e2,c⟩,r⟩:=x
    exact ⟨ho _ d,z,ne,k _ _ (.inl rfl) e,mA,⟨od,es,ep,k _ _ (.inr d) e2,c⟩,r⟩
  | own y=>obtain ⟨ob,e⟩:=x;exact ⟨ob,k _ _ (.inl rfl) e⟩
  | xd fs=>obtain ⟨mA,⟨od,es,ep,e,c⟩,r⟩:=x;exact ⟨mA,⟨od,es,ep,k _ _ (.inl rfl) e,c⟩,r⟩
  | rng lo hi=>obtain ⟨t,u,v,e⟩:=x;exact ⟨t,u,v,k _ _ (.inl rfl) e⟩
  | frz ob u ih=>obtain ⟨e,q⟩:=x;exact ⟨k _ _ (.inl rfl) e,ih q⟩
  | tbl ps=>
    have e:h.get? a = some { cls:=.none,data:=.fields ps }:=x
    show h'.get? a = some { cls:=.none,data:=.fields ps }
    exact k a _ (.inl rfl) e
  | met f y=>
    have e:h.get? a = some (PySem.W.methodObj (.ref f) (.ref y)):=x
    show h'.get? a = some (PySem.W.methodObj (.ref f) (.ref y))
    exact k a _ (.inl rfl) e
  | ext φ=>obtain ⟨p,⟨o,e⟩,st⟩:=x;exact ⟨st _ _ p fun o q=>k _ _ (.inl rfl) q,⟨o,k _ _ (.inl rfl) e⟩,st⟩
theorem HOk.lt (x:HOk P w H h) (e:H a = some o):a < h.objs.size:=(x a o e).lt
theorem HOk.fresh (x:HOk P w H h) (e:h.objs.size <= a):H a = none:=by
  cases q:H a with
  | none=>rfl
  | some u=>exact absurd (Nat.lt_of_lt_of_le (x.lt q) e) (Nat.lt_irrefl _)
theorem HOk.kept (x:HOk P w H h) (k:∀ b u,h.get? b = some u -> h'.get? b = some u):HOk P w H h':=fun a o e=>
  (x a o e).stay (fun b u _ q=>k b u q) (fun _ q=>q) fun _ _ q=>q
theorem HOk.laid (x:HOk P w H h) (k:∀ b u,h.get? b = some u -> h'.get? b = some u) (hp:h.objs.size <= a) (new:ObjOk P w (upd H a o) h' a o):HOk P w (upd H a o) h':=fun b u e=>by
  have hn:=x.fresh hp
  by_cases hb:b = a
  · subst hb;rw [zd] at e;cases e;exact new
  · rw [zv hb] at e
    exact (x b u e).stay (fun c v _ q=>k c v q) (fun c q=>by rw [zv (zr q hn)];exact q) fun c xs q=>by rw [zv (zr q hn)];exact q
end
def Rd (H:Hp) (a:Addr) (u:HO):Prop:=H a = some u \/ ∃ o,H a = some (.frz o u)
theorem Rd.of {H:Hp} {a:Addr} {u:HO} (h:H a = some u):Rd H a u:=.inl h
theorem Rd.ok {P:Program} {w:World} {H:Hp} {h:Heap} {a:Addr} {u:HO} (r:Rd H a u) (x:HOk P w H h):ObjOk P w H h a u:=by
  rcases r with r | ⟨o,r⟩
  · exact x a u r
  · obtain ⟨_,q⟩:=x a _ r
    exact q
def Mut:Option HO -> Prop
  | some (.lst _)=>True
  | some (.dK _)=>True
  | some (.dT _)=>True
  | some (.set _ _)=>True
  | some (.ins _ _ _)=>True
  | some (.ext _)=>True
  | _=>False
section
variable {P:Program} {w:World} {H:Hp} {h h':Heap} {x e:Addr} {o':HO}
theorem HOk.write (ok:HOk P w H h) (mu:Mut (H x)) (he:e = x \/ H e = some (.own x)) (k:∀ b u,b ≠ e -> h.get? b = some u -> h'.get? b = some u) (heo:∃ u,h'.get? e = some u)
    (new:ObjOk P w (upd H x o') h' x o'):HOk P w (upd H x o') h':=fun b u q=>by
  have nown:∀ c y,H c = some (.own y) -> c ≠ x:=fun c y r z=>by subst z;rw [r] at mu;exact mu
  have ntup:∀ c xs,H c = some (.tup xs) -> c ≠ x:=fun c xs r z=>by subst z;rw [r] at mu;exact mu
  by_cases hb:b = x
  · subst hb;rw [zd] at q;cases q;exact new
  · rw [zv hb] at q
    by_cases hbe:b = e
    · have q':H b = some (.own x):=by
        rcases he with z | z
        · exact absurd (hbe.trans z) hb
        · rw [hbe];exact z
      rw [q] at q';cases q'
      obtain ⟨v,hv⟩:=heo
      exact ⟨v,by rw [hbe];exact hv⟩
    · refine (ok b u q).stay (fun c v hc r=>k c v ?_ r) (fun c r=>by rw [zv (nown c b r)];exact r) fun c xs r=>by rw [zv (ntup c xs r)];exact r
      rcases hc with rfl | hc
      · exact hbe
      · rintro rfl
        rcases he with z | z
        · exact nown c b hc z
        · rw [hc] at z;cases z;exact hb rfl
end
structure Un (fs ex:List Addr) (H H':Hp) (h h':Heap):Prop where
  keep:∀ b o,h.get? b = some o -> H b = none -> b ∉ fs -> b ∉ ex -> h'.get? b = some o
  slot:∀ b o,h.get? b = some o -> H b = none -> b ∈ fs -> b ∉ ex -> ∃ sl,h'.get? b = some { o with slots:=sl }
  free:∀ b o,h.get? b = some o -> H b = none -> b ∉ ex -> H' b = none
  there:∀ b o,h.get? b = some o -> b ∉ ex -> ∃ o',h'.get? b = some o'
  tups:∀ b xs,H b = some (.tup xs) -> H' b = some (.tup xs)
  frzs:∀ b o u,H b = some (.frz o u) -> H' b = some (.frz o u)
  tbls:∀ b ps,H b = some (.tbl ps) -> ∃ more,H' b = some (.tbl (ps ++ more))
section
variable {fs fs' ex ex':List Addr} {H H1 H2:Hp} {h h1 h2 h':Heap} {a x e:Addr} {o:HO}
theorem Un.any (u:Un fs ex H H1 h h1) {b:Addr} {ob:Obj} (q:h.get? b = some ob) (n:H b = none) (hx:b ∉ ex):∃ sl,h1.get? b = some { ob with slots:=sl }:=by
  by_cases hb:b ∈ fs
  · exact u.slot b ob q n hb hx
  · exact ⟨ob.slots,u.keep b ob q n hb hx⟩
theorem Un.trans (a:Un fs ex H H1 h h1) (b:Un fs ex H1 H2 h1 h2):Un fs ex H H2 h h2 where
  keep:=fun c ob q n hc hx=>b.keep c ob (a.keep c ob q n hc hx) (a.free c ob q n hx) hc hx
  slot:=fun c ob q n hc hx=>by
    obtain ⟨sl,e1⟩:=a.slot c ob q n hc hx
    obtain ⟨sl',e2⟩:=b.slot c _ e1 (a.free c ob q n hx) hc hx
    exact ⟨sl',e2⟩
  free:=fun c ob q n hx=>by
    obtain ⟨o',e1⟩:=a.there c ob q hx
    exact b.free c o' e1 (a.free c ob q n hx) hx
  there:=fun c ob q hx=>by
    obtain ⟨o',e1⟩:=a.there c ob q hx
    exact b.there c o' e1 hx
  tups:=fun c xs q=>b.tups c xs (a.tups c xs q)
  frzs:=fun c ob xs q=>b.frzs c ob xs (a.frzs c ob xs q)
  tbls:=fun c ps q=>by
    obtain ⟨m1,e1⟩:=a.tbls c ps q
    obtain ⟨m2,e2⟩:=b.tbls c _ e1
    exact ⟨m1 ++ m2,by rw [e2,Array.append_assoc]⟩
theorem Un.kept (k:∀ b u,h.get? b = some u -> h'.get? b = some u):Un fs ex H H h h':=
  ⟨fun b ob q _ _ _=>k b ob q,fun b ob q _ _ _=>⟨ob.slots,k b ob q⟩,fun _ _ _ n _=>n,fun b ob q _=>⟨ob,k b ob q⟩,fun _ _ q=>q,fun _ _ _ q=>q,fun _ ps q=>⟨#[],by rw [q];simp⟩⟩
theorem Un.refl:Un fs ex H H h h:=Un.kept fun _ _ q=>q
theorem Un.laid (k:∀ b u,h.get? b = some u -> h'.get? b = some u) (hp:h.objs.size <= a) (hn:H a = none):Un fs ex H (upd H a o) h h' where
  keep:=fun b u q _ _ _=>k b u q
  slot:=fun b u q _ _ _=>⟨u.slots,k b u q⟩
  free:=fun b u q n _=>by rw [zv (Nat.ne_of_lt (Nat.lt_of_lt_of_le (Heap.lt_size q) hp))];exact n
  there:=fun b u q _=>⟨u,k b u q⟩
  tups:=fun b xs q=>by rw [zv (zr q hn)];exact q
  frzs:=fun b u xs q=>by rw [zv (zr q hn)];exact q
  tbls:=fun b ps q=>⟨#[],by rw [zv (zr q hn),q];simp⟩
theorem Un.write (mu:Mut (H x)) (he:e = x \/ H e = some (.own x)) (k:∀ b u,b ≠ e -> h.get? b = some u -> h'.get? b = some u) (heo:∃ u,h'.get? e = some u):Un fs ex H (upd H x o) h h':=by
  have hx:∀ b,H b = none -> b ≠ x:=fun b n z=>by subst z;rw [n] at mu;exact mu
  have hb:∀ b,H b = none -> b ≠ e:=fun b n z=>by
    subst z
    rcases he with r | r
    · exact hx b n r
    · rw [n] at r;cases r
  have hm:∀ b u,H b = some u -> ¬ Mut (some u) -> b ≠ x:=fun b u q nm z=>by subst z;rw [q] at mu;exact nm mu
  refine ⟨fun b u q n _ _=>k b u (hb b n) q,fun b u q n _ _=>⟨u.slots,k b u (hb b n) q⟩,fun b u q n _=>by rw [zv (hx b n)];exact n,fun b u q _=>?_,
    fun b xs q=>by rw [zv (hm b _ q fun z=>z)];exact q,fun b u xs q=>by rw [zv (hm b _ q fun z=>z)];exact q,fun b ps q=>⟨#[],by rw [zv (hm b _ q fun z=>z),q];simp⟩⟩
  by_cases hbe:b = e
  · subst hbe;exact heo
  · exact ⟨u,k b u hbe q⟩
theorem Un.mono (u:Un fs ex H H1 h h1) (hs:∀ b ∈ fs,b ∈ fs') (hx:∀ b ∈ ex,b ∈ ex'):Un fs' ex' H H1 h h1:=
  ⟨fun b ob q n hb he=>u.keep b ob q n (fun z=>hb (hs b z)) fun z=>he (hx b z),fun _ _ q n _ he=>u.any q n fun z=>he (hx _ z),fun b ob q n he=>u.free b ob q n fun z=>he (hx b z),fun b ob q he=>u.there b ob q fun z=>he (hx b z),u.tups,u.frzs,u.tbls⟩
end
def trk (h:Heap) (H:Hp):List Addr:=(List.range h.objs.size).filter fun a=>(H a).isSome
def wO (h:Heap) (H:Hp):Heap:=PySem.W.hideAll h (trk h H)
theorem QO (h:Heap) (H:Hp):(wO h H).objs.size = h.objs.size:=PySem.W.hideAll_size _ _
theorem JT {h:Heap} {H:Hp} {b:Addr} {o:Obj} (e:h.get? b = some o) (n:H b = none):(wO h H).get? b = some o:=
  PySem.W.hideAll_get _ e fun hm=>by
    have q:(H b).isSome = true:=(List.mem_filter.mp hm).2
    rw [n] at q;simp at q
theorem XN {h:Heap} {H:Hp} {b:Addr} {o:Obj} (e:(wO h H).get? b = some o):h.get? b = some o /\ H b = none:=by
  have e':h.get? b = some o:=PySem.W.of_hideAll (trk h H) e
  refine ⟨e',?_⟩
  cases q:H b with
  | none=>rfl
  | some x=>
    have hm:b ∈ trk h H:=List.mem_filter.mpr ⟨List.mem_range.mpr (Heap.lt_size e'),by simp [q]⟩
    have z:(wO h H).get? b = none:=PySem.W.hideAll_none (trk h H) hm
    rw [z] at e;cases e
def X2 (g h:Heap) (L:Addr):List (Addr × Obj):=(List.range h.objs.size).filterMap fun a=>if a = L \/ (g.get? a).isSome = true then none else (h.get? a).map fun o=>(a,o)
def jv (g h:Heap) (L d:Addr):List (Addr × Obj):=(X2 g h L).filter fun p=>decide (p.1 ≠ d)
structure Mod (K:PySem.W.Frag) (mg:Str -> Option Value) (base:Heap):Prop where
  kin:K.In base
  glob:base.Ns mainGlobals mg
  blt:∃ mb,base.Ns builtinsNs mb /\ ∀ x:Str,x ≠ "__name__" -> mb x = bootBuiltins x
  nolimit:base.NoLimit
structure Cx where
  prog:Program
  w:World
  K:PySem.W.Frag
  mg:Str -> Option Value
  base:Heap
  A:Around
  N:List Str
  s₀:Shared
  H₀:Hp
  env:Env
  outer:List Env
  stack:List Env
  ex:List Addr
  fn:Str -> Bool
  calm:Bool
  pn:List (Addr × Obj)
  xe:Value -> Shared -> Prop
def frs (l:List Env):List Addr:=l.filterMap (·.frame)
abbrev Cx.fs (X:Cx):List Addr:=frs X.outer
def Vis (sc:Scope) (x:Str):Prop:=sc.names.lookup x = some .local \/ sc.names.lookup x = some .cell \/ sc.names.lookup x = some .free
def Loc (sc:Scope) (x:Str):Prop:=sc.names.lookup x = some .local \/ sc.names.lookup x = some .cell
def W1 (env:Env) (h:Heap) (m:Str -> Option Value) (x:Str) (u:Value):Prop:=
  (env.kindOf x = some .local /\ m x = some u) \/ ((env.kindOf x = some .cell \/ env.kindOf x = some .free) /\ ∃ c,env.cells.lookup x = some c /\ h.IsCell c (some u))
structure Cx.Ok (X:Cx):Prop where
  mod:Mod X.K X.mg X.base
  kind:X.env.scope.kind = .function
  glob:X.env.globals = mainGlobals
  blt:X.env.builtins = builtinsNs
  above:X.s₀.heap.objs.size <= X.env.locals
  inj:∀ x y c,X.env.cells.lookup x = some c -> X.env.cells.lookup y = some c -> x = y
  has:∀ x,(X.env.kindOf x = some .cell \/ X.env.kindOf x = some .free) -> ∃ c,X.env.cells.lookup x = some c
  cab:∀ x c,X.fn x = true -> X.env.cells.lookup x = some c -> X.s₀.heap.objs.size <= c
  hd:X.calm = true -> X.A.handled = none
  frames:X.A.frames = some X.stack
  stk:X.stack = X.outer \/ (X.stack = X.env :: X.outer /\ X.env.frame = some X.env.locals)
  exf:∀ b ∈ X.ex,b ≠ X.env.locals /\ ∀ x c,X.env.cells.lookup x = some c -> c ≠ b
  bs:∀ b o,X.base.get? b = some o -> X.s₀.heap.get? b = some o /\ X.H₀ b = none
  bsz:X.base.objs.size <= X.s₀.heap.objs.size
  noex:∀ b o,X.base.get? b = some o -> b ∉ X.ex
  exfs:∀ b ∈ X.ex,b ∉ X.fs
  funs:X.s₀.heap.FunFrames X.base X.outer
  frf:∀ b ∈ X.fs,X.H₀ b = none
structure Inv (X:Cx) (pins:List (Addr × Obj)) (σ:List (Option V)) (H:Hp) (s:Shared):Prop where
  ok:X.Ok
  os:s.os = X.s₀.os
  bare:AllBare s.gens
  base:Un X.fs X.ex X.H₀ H X.s₀.heap s.heap
  loc:∃ m,s.heap.Ns X.env.locals m /\ ∀ (i:Nat) (x:Str) (v:V),X.N[i]? = some x -> σ[i]? = some (some v) -> Vis X.env.scope x -> ∃ u,RelV v u /\ W1 X.env s.heap m x u
  cell:∀ x c,X.env.cells.lookup x = some c -> ∃ v,s.heap.IsCell c v
  free:H X.env.locals = none
  freeC:∀ x c,X.env.cells.lookup x = some c -> H c = none
  pin:∀ p ∈ X.pn ++ pins,s.heap.get? p.1 = some p.2 /\ H p.1 = none /\ p.1 ≠ X.env.locals /\ p.1 ∉ X.fs /\ ∀ v,p.2.data ≠ .cell v
  hok:HOk X.prog X.w H s.heap
  len:σ.length = X.N.length
section
variable {X:Cx} {pins:List (Addr × Obj)} {σ:List (Option V)} {H H':Hp} {s:Shared} {h':Heap}
theorem Cx.Ok.nofr (ok:X.Ok) {b:Addr} {o:Obj} (e:X.base.get? b = some o):b ∉ X.fs:=fun hb=>by
  have:=(ok.funs.mem hb).1
  rw [e] at this;cases this
theorem Inv.bs (I:Inv X pins σ H s):∀ b o,X.base.get? b = some o -> s.heap.get? b = some o /\ H b = none:=fun b o e=>
  ⟨I.base.keep b o (I.ok.bs b o e).1 (I.ok.bs b o e).2 (I.ok.nofr e) (I.ok.noex b o e),I.base.free b o (I.ok.bs b o e).1 (I.ok.bs b o e).2 (I.ok.noex b o e)⟩
theorem Inv.bk (I:Inv X pins σ H s):∀ b o,X.base.get? b = some o -> s.heap.get? b = some o:=fun b o e=>(I.bs b o e).1
theorem Inv.mod (I:Inv X pins σ H s):Mod X.K X.mg X.base:=I.ok.mod
theorem Inv.kIn (I:Inv X pins σ H s):X.K.In s.heap:=I.ok.mod.kin.keeps I.bk
theorem Inv.nolimit (I:Inv X pins σ H s):s.heap.NoLimit:=I.ok.mod.nolimit.keeps I.bk
theorem Inv.fr (I:Inv X pins σ H s):∃ m,Fr X.base X.env.locals s.heap m:=
  let ⟨m,hn,_⟩:=I.loc
  ⟨m,hn,I.bk,Nat.le_trans I.ok.bsz I.ok.above⟩
theorem Inv.lt (I:Inv X pins σ H s):X.env.locals < s.heap.objs.size:=let ⟨_,hn,_⟩:=I.loc;hn.lt
theorem Inv.sz (I:Inv X pins σ H s):X.s₀.heap.objs.size <= s.heap.objs.size:=Nat.le_trans I.ok.above (Nat.le_of_lt I.lt)
theorem Inv.nofs (I:Inv X pins σ H s) {a:Addr} (h:s.heap.objs.size <= a):a ∉ X.fs:=fun hb=>by
  obtain ⟨_,o,ho,_⟩:=I.ok.funs.mem hb
  exact absurd (Nat.lt_of_lt_of_le (Heap.lt_size ho) (Nat.le_trans I.sz h)) (Nat.lt_irrefl _)
theorem Inv.cne (I:Inv X pins σ H s):∀ x c,X.env.cells.lookup x = some c -> c ≠ X.env.locals:=fun x c e z=>by
  obtain ⟨v,o,ho,hd⟩:=I.cell x c e
  obtain ⟨m,⟨o',es,ep,ho',hd',_⟩,_⟩:=I.loc
  rw [z,ho'] at ho;cases ho;rw [hd'] at hd;cases hd
theorem Inv.funs (I:Inv X pins σ H s):s.heap.FunFrames X.base X.outer:=by
  have all:∀ (l:List Env),(∀ b ∈ frs l,b ∈ X.fs) -> X.s₀.heap.FunFrames X.base l -> s.heap.FunFrames X.base l:=by
    intro l
    induction l with
    | nil=>intro _ _;trivial
    | cons env r ih=>
      intro hs hl
      obtain ⟨hk,⟨L,o,hf,hn,ho,hd⟩,hr⟩:=hl
      have hL:L ∈ X.fs:=hs L (by unfold frs;rw [List.filterMap_cons,hf];exact List.mem_cons_self)
      obtain ⟨sl,e⟩:=I.base.slot L o ho (I.ok.frf L hL) hL fun z=>I.ok.exfs L z hL
      exact ⟨hk,⟨L,_,hf,hn,e,hd⟩,ih (fun b hb=>hs b (by unfold frs;rw [List.filterMap_cons,hf];exact List.mem_cons_of_mem _ hb)) hr⟩
  exact all X.outer (fun _ hb=>hb) I.ok.funs
theorem Inv.stack (I:Inv X pins σ H s):s.heap.FunFrames X.base X.stack:=by
  rcases I.ok.stk with e | ⟨e,hf⟩
  · rw [e];exact I.funs
  · rw [e]
    obtain ⟨m,hn,_⟩:=I.loc
    refine .cons (by rw [I.ok.kind];decide) hf hn ?_ I.funs
    exact Heap.get?_none_of_le (Nat.le_trans I.ok.bsz I.ok.above)
theorem Inv.stkSub (I:Inv X pins σ H s):∀ b ∈ frs X.stack,b ∈ X.env.locals :: X.fs:=fun b hb=>by
  rcases I.ok.stk with e | ⟨e,hf⟩
  · rw [e] at hb;exact List.mem_cons_of_mem _ hb
  · rw [e] at hb
    unfold frs at hb
    rw [List.filterMap_cons,hf] at hb
    exact hb
theorem Inv.stkFree (I:Inv X pins σ H s):∀ b ∈ frs X.stack,H b = none:=fun b hb=>by
  rcases List.mem_cons.mp (I.stkSub b hb) with e | hb
  · rw [e];exact I.free
  · obtain ⟨_,o,ho,_⟩:=I.ok.funs.mem hb
    exact I.base.free b o ho (I.ok.frf b hb) fun z=>I.ok.exfs b z hb
theorem Inv.step {g':Array GenState} {t':Nat} {d':Drawn} {ch:List Addr} (I:Inv X pins σ H s)
    (hch:∀ b ∈ ch,(b ∈ X.ex \/ X.s₀.heap.objs.size <= b) /\ b ≠ X.env.locals /\ (∀ x c,X.env.cells.lookup x = some c -> c ≠ b) /\ ∀ p ∈ X.pn ++ pins,p.1 ≠ b)
    (keep:∀ b o,b ≠ X.env.locals -> b ∉ X.fs -> b ∉ ch -> s.heap.get? b = some o -> H b = none -> h'.get? b = some o)
    (slot:∀ b o,b ≠ X.env.locals -> b ∈ X.fs -> b ∉ ch -> s.heap.get? b = some o -> H b = none -> ∃ sl,h'.get? b = some { o with slots:=sl }) (free:∀ b o,b ∉ ch -> s.heap.get? b = some o -> H b = none -> H' b = none)
    (there:∀ b o,b ∉ ch -> s.heap.get? b = some o -> ∃ o',h'.get? b = some o')
    (tups:∀ b xs,H b = some (.tup xs) -> H' b = some (.tup xs)) (frzs:∀ b o u,H b = some (.frz o u) -> H' b = some (.frz o u)) (tbls:∀ b ps,H b = some (.tbl ps) -> ∃ more,H' b = some (.tbl (ps ++ more)))
    (ns:∀ m,s.heap.Ns X.env.locals m -> h'.Ns X.env.locals m) (hok:HOk X.prog X.w H' h') (hg:AllBare g') :
    Inv X pins σ H' { s with heap:=h',gens:=g',drawn:=d',toks:=t' }:=by
  have neL:∀ b o,X.s₀.heap.get? b = some o -> b ≠ X.env.locals:=fun b o e=>Nat.ne_of_lt (Nat.lt_of_lt_of_le (Heap.lt_size e) I.ok.above)
  have neC:∀ b o,X.s₀.heap.get? b = some o -> b ∉ X.ex -> b ∉ ch:=fun b o e hx hb=>by
    rcases (hch b hb).1 with z | z
    · exact hx z
    · exact absurd (Nat.lt_of_lt_of_le (Heap.lt_size e) z) (Nat.lt_irrefl _)
  have cellK:∀ x c,X.env.cells.lookup x = some c -> ∀ v,s.heap.IsCell c v -> h'.IsCell c v:=fun x c e v ⟨o,ho,hd⟩=>by
    have nch:c ∉ ch:=fun z=>(hch c z).2.2.1 x c e rfl
    by_cases hc:c ∈ X.fs
    · obtain ⟨sl,q⟩:=slot c o (I.cne x c e) hc nch ho (I.freeC x c e)
      exact ⟨_,q,hd⟩
    · exact ⟨o,keep c o (I.cne x c e) hc nch ho (I.freeC x c e),hd⟩
  refine ⟨I.ok,I.os,hg,⟨fun b o e n hb hx=>?_,fun b o e n hb hx=>?_,fun b o e n hx=>?_,fun b o e hx=>?_,fun b xs e=>tups b xs (I.base.tups b xs e),fun b o xs e=>frzs b o xs (I.base.frzs b o xs e),fun b ps e=>?_⟩,?_,fun x c e=>?_,?_,fun x c e=>?_,fun p hp=>?_,hok,I.len⟩
  · exact keep b o (neL b o e) hb (neC b o e hx) (I.base.keep b o e n hb hx) (I.base.free b o e n hx)
  · obtain ⟨sl,e1⟩:=I.base.slot b o e n hb hx
    obtain ⟨sl',e2⟩:=slot b _ (neL b o e) hb (neC b o e hx) e1 (I.base.free b o e n hx)
    exact ⟨sl',e2⟩
  · obtain ⟨o',e1⟩:=I.base.there b o e hx
    exact free b o' (neC b o e hx) e1 (I.base.free b o e n hx)
  · obtain ⟨o',e1⟩:=I.base.there b o e hx
    exact there b o' (neC b o e hx) e1
  · obtain ⟨m1,e1⟩:=I.base.tbls b ps e
    obtain ⟨m2,e2⟩:=tbls b _ e1
    exact ⟨m1 ++ m2,by rw [e2,Array.append_assoc]⟩
  · obtain ⟨m,hn,hl⟩:=I.loc
    refine ⟨m,ns m hn,fun i x v e1 e2 e3=>?_⟩
    obtain ⟨u,r,l⟩:=hl i x v e1 e2 e3
    refine ⟨u,r,?_⟩
    rcases l with l | ⟨k,c,e,z⟩
    · exact .inl l
    · exact .inr ⟨k,c,e,cellK x c e _ z⟩
  · obtain ⟨v,z⟩:=I.cell x c e
    exact ⟨v,cellK x c e v z⟩
  · obtain ⟨m,⟨o,_,_,ho,_⟩,_⟩:=I.loc
    exact free _ o (fun z=>(hch _ z).2.1 rfl) ho I.free
  · obtain ⟨v,o,ho,hd⟩:=I.cell x c e
    exact free c o (fun z=>(hch c z).2.2.1 x c e rfl) ho (I.freeC x c e)
  · obtain ⟨e,n,ne,nf,d⟩:=I.pin p hp
    have nch:p.1 ∉ ch:=fun z=>(hch p.1 z).2.2.2 p hp rfl
    exact ⟨keep p.1 p.2 ne nf nch e n,free p.1 p.2 nch e n,ne,nf,d⟩
theorem Inv.un {t':Nat} (I:Inv X pins σ H s) (u:Un X.fs [] H H' s.heap h') (hok:HOk X.prog X.w H' h'):Inv X pins σ H' { s with heap:=h',toks:=t' }:=by
  obtain ⟨m,⟨o,es,ep,ho,r⟩,_⟩:=id I.loc
  obtain ⟨sl,hL⟩:=u.any ho I.free (by simp)
  exact I.step (g':=s.gens) (d':=s.drawn) (ch:=[]) (fun _ z=>nomatch z) (fun b o _ hb _ e n=>u.keep b o e n hb (by simp)) (fun b o _ hb _ e n=>u.slot b o e n hb (by simp)) (fun b o _ e n=>u.free b o e n (by simp)) (fun b o _ e=>u.there b o e (by simp)) u.tups u.frzs u.tbls (fun m' hm=>by
    obtain ⟨o',es',ep',ho',r'⟩:=hm
    rw [ho] at ho';cases ho'
    exact ⟨_,es',ep',hL,r'⟩) hok I.bare
theorem Inv.call {g':Array GenState} {t':Nat} {d':Drawn} {ch:List Addr} (I:Inv X pins σ H s) (u:Un (frs X.stack) ch H H' s.heap h') (hok:HOk X.prog X.w H' h') (hg:AllBare g')
    (hch:∀ b ∈ ch,(b ∈ X.ex \/ X.s₀.heap.objs.size <= b) /\ b ≠ X.env.locals /\ (∀ x c,X.env.cells.lookup x = some c -> c ≠ b) /\ ∀ p ∈ X.pn ++ pins,p.1 ≠ b) :
    Inv X pins σ H' { s with heap:=h',gens:=g',drawn:=d',toks:=t' }:=by
  obtain ⟨m,⟨o,es,ep,ho,r⟩,_⟩:=id I.loc
  obtain ⟨sl,hL⟩:=u.any ho I.free fun z=>(hch _ z).2.1 rfl
  exact I.step (ch:=ch) hch (fun b o hL hb hc e n=>u.keep b o e n (fun z=>(List.mem_cons.mp (I.stkSub b z)).elim hL hb) hc) (fun b o _ _ hc e n=>u.any e n hc) (fun b o hc e n=>u.free b o e n hc) (fun b o hc e=>u.there b o e hc) u.tups u.frzs u.tbls (fun m' hm=>by
    obtain ⟨o',es',ep',ho',r'⟩:=hm
    rw [ho] at ho';cases ho'
    exact ⟨_,es',ep',hL,r'⟩) hok hg
theorem Inv.turned {t':Nat} {it:Addr} (I:Inv X pins σ H s) (k:∀ b o,b ≠ it -> s.heap.get? b = some o -> h'.get? b = some o) (hn:H it = none) (hL:it ≠ X.env.locals)
    (h1:it ∈ X.ex \/ X.s₀.heap.objs.size <= it) (h2:∀ x c,X.env.cells.lookup x = some c -> c ≠ it) (h3:∀ p ∈ X.pn ++ pins,p.1 ≠ it):Inv X pins σ H { s with heap:=h',toks:=t' }:=by
  have nit:∀ b u,H b = some u -> b ≠ it:=fun b u e z=>by rw [z,hn] at e;cases e
  refine I.step (g':=s.gens) (d':=s.drawn) (ch:=[it]) (fun b hb=>?_) (fun b o _ _ hc e _=>k b o (fun z=>hc (by simp [z])) e) (fun b o _ _ hc e _=>⟨o.slots,k b o (fun z=>hc (by simp [z])) e⟩) (fun _ _ _ _ n=>n)
    (fun b o hc e=>⟨o,k b o (fun z=>hc (by simp [z])) e⟩) (fun _ _ e=>e) (fun _ _ _ e=>e) (fun b ps e=>⟨#[],by rw [e];simp⟩) (fun m hm=>?_) (fun b u e=>?_) I.bare
  · have e:b = it:=by simpa using hb
    subst e
    exact ⟨h1,hL,h2,h3⟩
  · obtain ⟨o,es,ep,ho,r⟩:=hm
    exact ⟨o,es,ep,k _ o (Ne.symm hL) ho,r⟩
  · refine (I.hok b u e).stay (fun c v hc q=>k c v ?_ q) (fun _ q=>q) fun _ _ q=>q
    rcases hc with z | z
    · rw [z];exact nit b u e
    · exact nit c _ z
theorem Inv.tok (I:Inv X pins σ H s) (t:Nat):Inv X pins σ H { s with toks:=t }:=I.un (h':=s.heap) (t':=t) Un.refl I.hok
theorem Inv.kept {t':Nat} (I:Inv X pins σ H s) (k:∀ b u,s.heap.get? b = some u -> h'.get? b = some u):Inv X pins σ H { s with heap:=h',toks:=t' }:=I.un (Un.kept k) (I.hok.kept k)
theorem Inv.laid {a:Addr} {o:HO} {t':Nat} (I:Inv X pins σ H s) (k:∀ b u,s.heap.get? b = some u -> h'.get? b = some u) (hp:s.heap.objs.size <= a) (new:ObjOk X.prog X.w (upd H a o) h' a o) :
    Inv X pins σ (upd H a o) { s with heap:=h',toks:=t' }:=I.un (Un.laid k hp (I.hok.fresh hp)) (I.hok.laid k hp new)
theorem Inv.write {x e:Addr} {o:HO} {t':Nat} (I:Inv X pins σ H s) (mu:Mut (H x)) (he:e = x \/ H e = some (.own x)) (k:∀ b u,b ≠ e -> s.heap.get? b = some u -> h'.get? b = some u) (heo:∃ u,h'.get? e = some u)
    (new:ObjOk X.prog X.w (upd H x o) h' x o):Inv X pins σ (upd H x o) { s with heap:=h',toks:=t' }:=I.un (Un.write mu he k heo) (I.hok.write mu he k heo new)
theorem Inv.weak {σ':List (Option V)} (I:Inv X pins σ H s) (hl:σ'.length = σ.length) (w:∀ (i:Nat) v,σ'[i]? = some (some v) -> σ[i]? = some (some v)):Inv X pins σ' H s:=
  ⟨I.ok,I.os,I.bare,I.base,let ⟨m,hn,hl'⟩:=I.loc;⟨m,hn,fun i x v e1 e2 e3=>hl' i x v e1 (w i v e2) e3⟩,I.cell,I.free,I.freeC,I.pin,I.hok,hl.trans I.len⟩
theorem Inv.pins_of {pins':List (Addr × Obj)} (I:Inv X pins σ H s) (h:∀ p ∈ pins',s.heap.get? p.1 = some p.2 /\ H p.1 = none /\ p.1 ≠ X.env.locals /\ p.1 ∉ X.fs /\ ∀ v,p.2.data ≠ .cell v):Inv X pins' σ H s:=
  ⟨I.ok,I.os,I.bare,I.base,I.loc,I.cell,I.free,I.freeC,fun p hp=>(List.mem_append.mp hp).elim (fun z=>I.pin p (List.mem_append_left _ z)) (h p),I.hok,I.len⟩
theorem yA {N:List Str} (hN:N.Nodup) {i j:Nat} {x:Str} (a:N[i]? = some x) (b:N[j]? = some x):i = j:=by
  obtain ⟨h1,e1⟩:=List.getElem?_eq_some_iff.mp a
  obtain ⟨h2,e2⟩:=List.getElem?_eq_some_iff.mp b
  exact (List.getElem_inj hN).mp (e1.trans e2.symm)
theorem Qy {M:Model} {A:Around} {E:Value -> Shared -> Prop} {i:Nat} {x:Str} {v:V} {u:Value} {Q:Unit -> Shared -> Prop} (I:Inv X pins σ H s) (hN:X.N.Nodup) (hi:X.N[i]? = some x) (hx:Loc X.env.scope x) (r:RelV v u)
    (h:∀ s',Inv X pins (σ.set i (some v)) H s' -> (∃ a,Heap.SameBut a s.heap s'.heap /\ (a = X.env.locals \/ X.env.cells.lookup x = some a)) -> Q () s') (hf:X.fn x = true \/ X.env.scope.names.lookup x = some .local:=by first | exact .inl rfl | exact .inr rfl | assumption):wpAny M A (storeName X.env x u) Q E s:=by
  obtain ⟨m,hn,hl⟩:=id I.loc
  have hcls:(X.env.scope.kind == .class || (X.env.scope.kind == .module && X.env.locals != X.env.globals)) = false:=by rw [I.ok.kind];rfl
  have hiσ:i < σ.length:=by rw [I.len];exact (List.getElem?_eq_some_iff.mp hi).1
  have cne:=I.cne
  have tracked:∀ {a:Addr} {h':Heap},(∃ o,s.heap.get? a = some o /\ H a = none) -> Heap.SameBut a s.heap h' -> HOk X.prog X.w H h':=fun {a h'} ha hs b ob e=>by
    obtain ⟨_,_,hfree⟩:=ha
    refine (I.hok b ob e).stay (fun c w' hc q=>(hs.2 c ?_).trans q) (fun _ q=>q) fun _ _ q=>q
    rintro rfl
    rcases hc with rfl | hc
    · rw [hfree] at e;cases e
    · rw [hfree] at hc;cases hc
  rcases hx with hk | hk
  · refine wpAny_storeName_local hk hn (fun h' hn' hs=>?_) hcls
    obtain ⟨oL,_,_,hoL,_⟩:=id hn
    refine h _ ⟨I.ok,I.os,I.bare,⟨fun b o e n hb hx=>?_,fun b o e n hb hx=>?_,I.base.free,fun b o e hx=>?_,I.base.tups,I.base.frzs,I.base.tbls⟩,⟨_,hn',fun j y v' e1 e2 e3=>?_⟩,fun y c e=>?_,I.free,I.freeC,fun p hp=>?_,tracked ⟨oL,hoL,I.free⟩ hs,by simpa using I.len⟩ ⟨_,hs,.inl rfl⟩
    · exact (hs.2 b (Nat.ne_of_lt (Nat.lt_of_lt_of_le (Heap.lt_size e) I.ok.above))).trans (I.base.keep b o e n hb hx)
    · obtain ⟨sl,e1⟩:=I.base.slot b o e n hb hx
      exact ⟨sl,(hs.2 b (Nat.ne_of_lt (Nat.lt_of_lt_of_le (Heap.lt_size e) I.ok.above))).trans e1⟩
    · obtain ⟨o',e1⟩:=I.base.there b o e hx
      exact ⟨o',(hs.2 b (Nat.ne_of_lt (Nat.lt_of_lt_of_le (Heap.lt_size e) I.ok.above))).trans e1⟩
    · by_cases hj:j = i
      · subst hj
        rw [hi] at e1;cases e1
        rw [List.getElem?_set_self hiσ] at e2
        cases e2
        exact ⟨u,r,.inl ⟨hk,by simp⟩⟩
      · rw [List.getElem?_set_ne (Ne.symm hj)] at e2
        obtain ⟨u',r',q⟩:=hl j y v' e1 e2 e3
        refine ⟨u',r',?_⟩
        rcases q with ⟨k,e⟩ | ⟨k,c,e,z⟩
        · refine .inl ⟨k,?_⟩
          have:y ≠ x:=fun e=>hj (yA hN e1 (e ▸ hi))
          simp [this,e]
        · exact .inr ⟨k,c,e,z.sameBut hs (cne y c e)⟩
    · obtain ⟨w',z⟩:=I.cell y c e
      exact ⟨w',z.sameBut hs (cne y c e)⟩
    · obtain ⟨e,n,ne,nf,d⟩:=I.pin p hp
      exact ⟨(hs.2 p.1 ne).trans e,n,ne,nf,d⟩
  · have hfn:X.fn x = true:=by
      rcases hf with z | z
      · exact z
      · rw [z] at hk;cases hk
    obtain ⟨c,hc⟩:=I.ok.has x (.inl hk)
    obtain ⟨w',z⟩:=I.cell x c hc
    refine wpAny_storeName_cell I.ok.kind hk hc z (fun h' hc' hs=>?_)
    obtain ⟨oc,hoc,hocd⟩:=id z
    refine h { s with heap:=h' } ⟨I.ok,I.os,I.bare,⟨fun b o e n hb hx=>?_,fun b o e n hb hx=>?_,I.base.free,fun b o e hx=>?_,I.base.tups,I.base.frzs,I.base.tbls⟩,⟨m,hn.sameBut hs (Ne.symm (cne x c hc)),fun j y v' e1 e2 e3=>?_⟩,fun y c' e=>?_,I.free,I.freeC,fun p hp=>?_,tracked ⟨oc,hoc,I.freeC x c hc⟩ hs,by simpa using I.len⟩ ⟨c,hs,.inr hc⟩
    · exact (hs.2 b (Nat.ne_of_lt (Nat.lt_of_lt_of_le (Heap.lt_size e) (I.ok.cab x c hfn hc)))).trans (I.base.keep b o e n hb hx)
    · obtain ⟨sl,e1⟩:=I.base.slot b o e n hb hx
      exact ⟨sl,(hs.2 b (Nat.ne_of_lt (Nat.lt_of_lt_of_le (Heap.lt_size e) (I.ok.cab x c hfn hc)))).trans e1⟩
    · obtain ⟨o',e1⟩:=I.base.there b o e hx
      exact ⟨o',(hs.2 b (Nat.ne_of_lt (Nat.lt_of_lt_of_le (Heap.lt_size e) (I.ok.cab x c hfn hc)))).trans e1⟩
    · by_cases hj:j = i
      · subst hj
        rw [hi] at e1;cases e1
        rw [List.getElem?_set_self hiσ] at e2
        cases e2
        exact ⟨u,r,.inr ⟨.inl hk,c,hc,hc'⟩⟩
      · rw [List.getElem?_set_ne (Ne.symm hj)] at e2
        obtain ⟨u',r',q⟩:=hl j y v' e1 e2 e3
        refine ⟨u',r',?_⟩
        rcases q with q | ⟨k,c',e,z'⟩
        · exact .inl q
        · refine .inr ⟨k,c',e,z'.sameBut hs ?_⟩
          rintro rfl
          exact hj (yA hN e1 (I.ok.inj _ _ _ e hc ▸ hi))
    · by_cases hcc:c' = c
      · subst hcc;exact ⟨_,hc'⟩
      · obtain ⟨w2,z2⟩:=I.cell y c' e
        exact ⟨w2,z2.sameBut hs hcc⟩
    · obtain ⟨e,n,ne,nf,d⟩:=I.pin p hp
      refine ⟨(hs.2 p.1 ?_).trans e,n,ne,nf,d⟩
      intro q
      rw [q,hoc] at e
      have q':oc = p.2:=Option.some.inj e
      exact d w' (by rw [<- q'];exact hocd)
theorem xk {M:Model} {A:Around} {E:Value -> Shared -> Prop} {i:Nat} {x:Str} {v:V} {u:Value} {Q:Unit -> Shared -> Prop} (I:Inv X pins σ H s) (hN:X.N.Nodup) (hi:X.N[i]? = some x) (hx:Loc X.env.scope x) (r:RelV v u)
    (h:∀ s',Inv X pins (σ.set i (some v)) H s' -> Q () s') (hf:X.fn x = true \/ X.env.scope.names.lookup x = some .local:=by first | exact .inl rfl | exact .inr rfl | assumption):wpAny M A (storeName X.env x u) Q E s:=
  Qy I hN hi hx r (fun s' I' _=>h s' I') hf
theorem Inv.call' {s':Shared} {ch:List Addr} (I:Inv X pins σ H s) (ho:s'.os = s.os) (u:Un (frs X.stack) ch H H' s.heap s'.heap) (hok:HOk X.prog X.w H' s'.heap) (hg:AllBare s'.gens)
    (hch:∀ b ∈ ch,(b ∈ X.ex \/ X.s₀.heap.objs.size <= b) /\ b ≠ X.env.locals /\ (∀ x c,X.env.cells.lookup x = some c -> c ≠ b) /\ ∀ p ∈ X.pn ++ pins,p.1 ≠ b):Inv X pins σ H' s':=by
  obtain ⟨h',g',d',t',o'⟩:=s'
  have e:o' = s.os:=ho
  subst e
  exact I.call (g':=g') (t':=t') (d':=d') u hok hg hch
end
abbrev XK:=Value -> Option Addr -> Hp -> Prop
abbrev St:=List (Option V)
abbrev VK:=V -> Hp -> Prop
abbrev TE:=St -> Hp -> VK -> Prop
abbrev TT:=St -> Hp -> (Bool -> Hp -> Prop) -> Prop
abbrev TA:=St -> Hp -> (List V -> Hp -> Prop) -> Prop
structure wU where
  nx:St -> Hp -> Prop
  rt:VK
  bk:St -> Hp -> Prop:=fun _ _=>False
  ct:St -> Hp -> Prop:=fun _ _=>False
abbrev TS:=wU -> St -> Hp -> Prop
def EP (X:Cx) (pins:List (Addr × Obj)) (σ:St) (Q:VK) (u:Value) (s':Shared):Prop:=∃ v H',Inv X pins σ H' s' /\ RelV v u /\ Q v H'
def TP (X:Cx) (pins:List (Addr × Obj)) (σ:St) (Q:Bool -> Hp -> Prop) (b:Bool) (s':Shared):Prop:=∃ H',Inv X pins σ H' s' /\ Q b H'
def AP (X:Cx) (pins:List (Addr × Obj)) (σ:St) (Q:List V -> Hp -> Prop) (us:List Value) (s':Shared):Prop:=∃ vs H',Inv X pins σ H' s' /\ Vals vs us /\ Q vs H'
def SP (X:Cx) (pins:List (Addr × Obj)) (D:wU) (f:Flow) (s':Shared):Prop:=
  match f with
  | .next=>∃ σ' H',Inv X pins σ' H' s' /\ D.nx σ' H'
  | .brk=>∃ σ' H',Inv X pins σ' H' s' /\ D.bk σ' H'
  | .cont=>∃ σ' H',Inv X pins σ' H' s' /\ D.ct σ' H'
  | .ret u=>∃ v σ' H',Inv X pins σ' H' s' /\ RelV v u /\ D.rt v H'
def PE (X:Cx) (e:Expr) (t:TE):Prop:=
  ∀ (pins:List (Addr × Obj)) (s:Shared) (σ:St) (H:Hp) (Q:VK),Inv X pins σ H s -> t σ H Q -> wpAny (model X.prog X.w) X.A (eval e X.env) (EP X pins σ Q) X.xe s
def PT (X:Cx) (e:Expr) (t:TT):Prop:=
  ∀ (pins:List (Addr × Obj)) (s:Shared) (σ:St) (H:Hp) (Q:Bool -> Hp -> Prop),Inv X pins σ H s -> t σ H Q -> wpAny (model X.prog X.w) X.A (isTrue e X.env (eval e X.env)) (TP X pins σ Q) X.xe s
def PW (X:Cx) (e:Expr) (t:TT):Prop:=
  ∀ (whole:Sem Value) (pins:List (Addr × Obj)) (s:Shared) (σ:St) (H:Hp) (Q:Bool -> Hp -> Prop),Inv X pins σ H s -> t σ H Q -> wpAny (model X.prog X.w) X.A (isTrue e X.env whole) (TP X pins σ Q) X.xe s
theorem PW.pt {X:Cx} {e:Expr} {t:TT} (h:PW X e t):PT X e t:=h _
def PA (X:Cx) (es:List Expr) (t:TA):Prop:=
  ∀ (pos:Pos) (pins:List (Addr × Obj)) (s:Shared) (σ:St) (H:Hp) (Q:List V -> Hp -> Prop),Inv X pins σ H s -> t σ H Q -> wpAny (model X.prog X.w) X.A (spliced (backTo pos (starEach es X.env))) (AP X pins σ Q) X.xe s
def PS (X:Cx) (st:Stmt) (t:TS):Prop:=
  ∀ (pins:List (Addr × Obj)) (s:Shared) (σ:St) (H:Hp) (D:wU),Inv X pins σ H s -> t D σ H -> wpAny (model X.prog X.w) X.A (exec st X.env) (SP X pins D) X.xe s
def PSs (X:Cx) (st:List Stmt) (t:TS):Prop:=
  ∀ (pins:List (Addr × Obj)) (s:Shared) (σ:St) (H:Hp) (D:wU),Inv X pins σ H s -> t D σ H -> wpAny (model X.prog X.w) X.A (execs st X.env) (SP X pins D) X.xe s
theorem thn {α:Type} {t:Sem α} {Q Q':α -> Shared -> Prop} {M:Model} {A:Around} {E:Value -> Shared -> Prop} {s:Shared} (h:wpAny M A t Q E s) (hQ:∀ a s,Q a s -> Q' a s):wpAny M A t Q' E s:=wpAny_mono h hQ fun _ _ x=>x
section
variable {X:Cx}
inductive IsB (x:V) (H:Hp) (Q:Bool -> Hp -> Prop):Prop
  | mk (c:Bool) (h:x = .bl c) (q:Q c H):IsB x H Q
inductive IsI (x:V) (H:Hp) (Q:Int -> Hp -> Prop):Prop
  | mk (i:Int) (h:x = .int i) (q:Q i H):IsI x H Q
inductive WB (vs:List V) (H:Hp) (Q:V -> V -> Hp -> Prop):Prop
  | mk (v w:V) (h:vs = [v,w]) (q:Q v w H):WB vs H Q
inductive Xh (i:Nat) (σ:St) (H:Hp) (Q:VK):Prop
  | mk (v:_) (_:σ[i]? = some (some v)) (_:Q v H):Xh i σ H Q
def tC (v:V):TE:=fun _ H Q=>Q v H
theorem VB {i:Nat} {x:Str} {pos:Pos} (hN:X.N[i]? = some x) (hv:Vis X.env.scope x) (hd:(x == ("__debug__" : Str)) = false:=by decide) (hcd:(x == ("__classdict__" : Str)) = false:=by decide):PE X (.Name x pos) (Xh i):=by
  intro pins s σ H Q I h
  obtain ⟨v,e,h⟩:=h
  obtain ⟨m,hn,hl⟩:=I.loc
  obtain ⟨u,r,l⟩:=hl i x v hN e hv
  have fin:EP X pins σ Q u s:=⟨v,H,I,r,h⟩
  rcases l with ⟨hk,hm⟩ | ⟨hk,c,hc,hcell⟩
  · exact wpAny_Name (wpAny_loadName_local I.ok.kind hk hn hm fin) hd
  · rcases hk with hk | hk
    · exact wpAny_Name (wpAny_loadName_cell I.ok.kind hk hc hcell fin) hd
    · exact wpAny_Name (wpAny_loadName_free I.ok.kind hk hc hcell fin hcd) hd
theorem zc {i j pos}:PE X (.Constant (.int i) j pos) (tC (.int i)):=fun _ _ _ H _ I h=>wpAny_Constant_int ⟨.int i,H,I.tok _,⟨_,rfl⟩,h⟩
theorem qD {b j pos}:PE X (.Constant (.bool b) j pos) (tC (.bl b)):=fun _ _ _ H _ I h=>Constant_bool ⟨.bl b,H,I,rfl,h⟩
theorem vp {j pos}:PE X (.Constant .none j pos) (tC .non):=fun _ _ _ H _ I h=>Constant_none ⟨.non,H,I,rfl,h⟩
theorem jA {x j pos}:PE X (.Constant (.str x) j pos) (tC (.str x)):=fun _ _ _ H _ I h=>Calls.Constant_str ⟨.str x,H,I.tok _,⟨_,rfl⟩,h⟩
def Gl (X:Cx) (x:Str):Prop:=X.env.kindOf x = some .globalImplicit
theorem XT {E:Value -> Shared -> Prop} {pins:List (Addr × Obj)} {s:Shared} {σ:St} {H:Hp} {x:Str} {u:Value} {pos:Pos} {Q:Value -> Shared -> Prop} (I:Inv X pins σ H s) (hg:Gl X x) (hm:X.mg x = some u) (h:Q u s)
    (hd:(x == ("__debug__" : Str)) = false:=by decide):wpAny (model X.prog X.w) X.A (eval (.Name x pos) X.env) Q E s:=
  Calls.Name_function_global I.ok.kind hg (Calls.loadGlobal_global (by rw [I.ok.glob];exact I.mod.glob.keeps I.bk) hm h) hd
theorem jQ {E:Value -> Shared -> Prop} {pins:List (Addr × Obj)} {s:Shared} {σ:St} {H:Hp} {x:Str} {u:Value} {pos:Pos} {Q:Value -> Shared -> Prop} (I:Inv X pins σ H s) (hg:Gl X x) (hm:X.mg x = none) (hv:bootBuiltins x = some u) (h:Q u s)
    (hn:x ≠ "__name__" :=by decide) (hd:(x == ("__debug__" : Str)) = false:=by decide):wpAny (model X.prog X.w) X.A (eval (.Name x pos) X.env) Q E s:=by
  obtain ⟨mb,h1,h2⟩:=I.mod.blt
  exact Calls.Name_function_global I.ok.kind hg (Calls.loadGlobal_builtin (by rw [I.ok.glob];exact I.mod.glob.keeps I.bk) hm (by rw [I.ok.blt];exact h1.keeps I.bk) ((h2 x hn).trans hv) h) hd
theorem zN {x:Str} {v:V} {u:Value} {pos:Pos} (hg:Gl X x) (hm:X.mg x = none) (hv:bootBuiltins x = some u) (r:RelV v u) (hn:x ≠ "__name__" :=by decide) (hd:(x == ("__debug__" : Str)) = false:=by decide):PE X (.Name x pos) (tC v):=
  fun _ _ _ H _ I h=>jQ I hg hm hv ⟨v,H,I,r,h⟩ hn hd
variable {a b:Expr} {ta tb:TE} {pos:Pos}
def tB (t:TE):TT:=fun σ H Q=>t σ H fun x H1=>IsB x H1 Q
theorem z7 {e:Expr} {t:TE} (h:PE X e t) (he:∀ whole,isTrue e X.env whole = (do let v <- whole;standAt e.pos;holding [v] (truthy v)):=by intro _;rfl):PT X e (tB t):=by
  intro pins s σ H Q I hw
  refine isTrue_plain (thn (h pins s σ H _ I hw) fun v s1 ⟨x,H1,I1,r1,q1⟩=>?_) (he _)
  obtain ⟨d,rfl,q⟩:=q1
  cases r1
  exact wpAny_truthy_bool ⟨H1,I1,q⟩
variable {tA tB':TT} {jv:List Expr}
def tOr (t u:TT):TT:=fun σ H Q=>t σ H fun c H1=>if c = true then Q true H1 else u σ H1 Q
def WH (t:TT):TT:=fun σ H Q=>t σ H fun c H1=>Q (!c) H1
theorem jw (ha:PT X a tA):PW X (.BoolOp .Or [a] pos) tA:=by
  intro wh pins s σ H Q I h
  refine isTrue_or (thn (ha pins s σ H Q I h) fun c s1 e=>?_)
  cases c with
  | false=>exact isTrue_or_nil e
  | true=>exact e
theorem jr (ha:PT X a tA) (hb:PW X (.BoolOp .Or (b :: jv) pos) tB'):PW X (.BoolOp .Or (a :: b :: jv) pos) (tOr tA tB'):=by
  intro wh pins s σ H Q I h
  refine isTrue_or (thn (ha pins s σ H _ I h) fun c s1 ⟨H1,I1,q1⟩=>?_)
  cases c with
  | true=>exact ⟨H1,I1,q1⟩
  | false=>exact hb wh pins s1 σ H1 Q I1 q1
theorem qC (ha:PT X a tA):PT X (.UnaryOp .Not a pos) (WH tA):=by
  intro pins s σ H Q I h
  exact isTrue_not (ha pins s σ H (fun c H1=>Q (!c) H1) I h)
def V7 (ta tb:TE):TE:=fun σ H Q=>ta σ H fun x H1=>IsB x H1 fun c H1=>if c = true then tb σ H1 Q else Q (.bl false) H1
def V4 (ta:TE):TE:=fun σ H Q=>ta σ H fun x H1=>IsB x H1 fun c H1=>Q (.bl (!c)) H1
theorem qS {op} {t:TE} (h:PE X a t):PE X (.BoolOp op [a] pos) t:=fun pins s σ H Q I hw=>BoolOp_one (h pins s σ H Q I hw)
theorem qH (ha:PE X a ta) (hb:PE X (.BoolOp .And (b :: jv) pos) tb):PE X (.BoolOp .And (a :: b :: jv) pos) (V7 ta tb):=by
  intro pins s σ H Q I h
  refine BoolOp_and (thn (ha pins s σ H _ I h) fun v s1 ⟨x,H1,I1,r1,q1⟩=>?_)
  obtain ⟨c,rfl,q1⟩:=q1
  cases r1
  refine wpAny_truthy_bool ?_
  cases c with
  | true=>exact hb pins s1 σ H1 Q I1 q1
  | false=>exact ⟨.bl false,H1,I1,rfl,q1⟩
theorem Zi (ha:PE X a ta):PE X (.UnaryOp .Not a pos) (V4 ta):=by
  intro pins s σ H Q I h
  refine UnaryOp_ (thn (ha pins s σ H _ I h) fun v s1 ⟨x,H1,I1,r1,q1⟩=>?_)
  obtain ⟨c,rfl,q1⟩:=q1
  cases r1
  exact not_of (wpAny_truthy_bool ⟨.bl (!c),H1,I1,rfl,q1⟩)
def tIf (t:TT) (ta tb:TE):TE:=fun σ H Q=>t σ H fun c H1=>if c = true then ta σ H1 Q else tb σ H1 Q
theorem qo {c:Expr} (hc:PT X c tA) (ha:PE X a ta) (hb:PE X b tb):PE X (.IfExp c a b pos) (tIf tA ta tb):=by
  intro pins s σ H Q I h
  refine wpAny_IfExp (thn (hc pins s σ H _ I h) fun d s1 ⟨H1,I1,q1⟩=>?_)
  cases d with
  | true=>exact ha pins s1 σ H1 Q I1 q1
  | false=>exact hb pins s1 σ H1 Q I1 q1
end
def SqL (K:PySem.W.Frag) (H:Hp) (a:Addr) (xs:List V):Prop:=
  Rd H a (.lst xs) \/
    ∃ (o:Obj) (its:Array Value) (n:Nat),K.lookup a = some o /\ o.cls = .type "list" /\ o.dict = none /\ o.data = .seq its n /\ its.size <= sizeLine /\ Vals xs its.toList
def SqT (K:PySem.W.Frag) (H:Hp) (a:Addr) (xs:List V):Prop:=
  Rd H a (.tup xs) \/
    ∃ (o:Obj) (its:Array Value) (n:Nat),K.lookup a = some o /\ o.cls = .type "tuple" /\ o.data = .seq its n /\ its.size <= sizeLine /\ Vals xs its.toList
def W0:Value -> Option V
  | .none=>some .non
  | .bool b=>some (.bl b)
  | .int i _=>some (.int i)
  | .str x _=>some (.str x)
  | .bytes b _=>some (.byt b)
  | .float b _=>some (.flt b)
  | .ref a=>some (.ref a)
  | .type n=>some (.ty n)
  | _=>none
theorem RelV.abs {x:V} {u:Value} (r:RelV x u):W0 u = some x:=by
  cases x with
  | non=>cases r;rfl
  | bl _=>cases r;rfl
  | int _=>obtain ⟨t,rfl⟩:=r;rfl
  | str _=>obtain ⟨t,rfl⟩:=r;rfl
  | byt _=>obtain ⟨t,rfl⟩:=r;rfl
  | flt _=>obtain ⟨t,rfl⟩:=r;rfl
  | ref _=>cases r;rfl
  | ty _=>cases r;rfl
theorem RelV.inj {x y:V} {u:Value} (r:RelV x u) (q:RelV y u):x = y:=Option.some.inj (r.abs.symm.trans q.abs)
theorem Vals.inj:∀ {xs ys:List V} {us:List Value},Vals xs us -> Vals ys us -> xs = ys
  | _,_,_,.nil,.nil=>rfl
  | _,_,_,.cons r t,.cons r' t'=>by rw [r.inj r',Vals.inj t t']
section
variable {X:Cx} {pins:List (Addr × Obj)} {σ:St} {H:Hp} {s:Shared} {a:Addr} {xs ys:List V}
theorem SqL.of {K:PySem.W.Frag} (h:H a = some (.lst xs)):SqL K H a xs:=.inl (.inl h)
theorem SqT.of {K:PySem.W.Frag} (h:H a = some (.tup xs)):SqT K H a xs:=.inl (.inl h)
theorem Inv.list (I:Inv X pins σ H s) (h:SqL X.K H a xs):∃ its:List Value,Vals xs its /\ PlainL s.heap a its.toArray /\ xs.length <= sizeLine:=by
  rcases h with h | ⟨o,its,n,hk,hc,hd,hs,hz,r⟩
  · obtain ⟨z,its,n,r,e⟩:=h.ok I.hok
    exact ⟨its,r,⟨_,n,e,rfl,rfl,rfl⟩,z⟩
  · refine ⟨its.toList,r,⟨o,n,I.kIn a o hk,hc,hd,by simpa using hs⟩,?_⟩
    have e:=r.length
    simp only [Array.length_toList] at e
    omega
theorem Inv.tuple (I:Inv X pins σ H s) (h:SqT X.K H a xs):∃ its:List Value,Vals xs its /\ IsTup s.heap a its.toArray /\ xs.length <= sizeLine:=by
  rcases h with h | ⟨o,its,n,hk,hc,hs,hz,r⟩
  · obtain ⟨z,its,r,p⟩:=h.ok I.hok
    exact ⟨its,r,p.1,z⟩
  · refine ⟨its.toList,r,⟨o,I.kIn a o hk,hc,n,by simpa using hs⟩,?_⟩
    have e:=r.length
    simp only [Array.length_toList] at e
    omega
theorem Inv.list_inj (I:Inv X pins σ H s) (h:SqL X.K H a xs) (h':SqL X.K H a ys):xs = ys:=by
  obtain ⟨its,r,⟨o,n,e,_,_,d⟩,_⟩:=I.list h
  obtain ⟨its',r',⟨o',n',e',_,_,d'⟩,_⟩:=I.list h'
  rw [e] at e';cases e'
  rw [d] at d'
  injection d' with d1 _
  have:its = its':=by simpa using congrArg Array.toList d1
  subst this
  exact r.inj r'
theorem Inv.tuple_inj (I:Inv X pins σ H s) (h:SqT X.K H a xs) (h':SqT X.K H a ys):xs = ys:=by
  obtain ⟨its,r,⟨o,e,_,n,d⟩,_⟩:=I.tuple h
  obtain ⟨its',r',⟨o',e',_,n',d'⟩,_⟩:=I.tuple h'
  rw [e] at e';cases e'
  rw [d] at d'
  injection d' with d1 _
  have:its = its':=by simpa using congrArg Array.toList d1
  subst this
  exact r.inj r'
end
abbrev Cx.wish (X:Cx) (E:Value -> Shared -> Prop):Cx:={ X with xe:=E }
abbrev Cx.nox (X:Cx):Cx:=X.wish fun _ _=>False
theorem Cx.Ok.wish {X:Cx} (ok:X.Ok) (E:Value -> Shared -> Prop):(X.wish E).Ok:=
  ⟨ok.mod,ok.kind,ok.glob,ok.blt,ok.above,ok.inj,ok.has,ok.cab,ok.hd,ok.frames,ok.stk,ok.exf,ok.bs,ok.bsz,ok.noex,ok.exfs,ok.funs,ok.frf⟩
theorem Cx.Ok.unwish {X:Cx} {E:Value -> Shared -> Prop} (ok:(X.wish E).Ok):X.Ok:=
  ⟨ok.mod,ok.kind,ok.glob,ok.blt,ok.above,ok.inj,ok.has,ok.cab,ok.hd,ok.frames,ok.stk,ok.exf,ok.bs,ok.bsz,ok.noex,ok.exfs,ok.funs,ok.frf⟩
section
variable {X:Cx} {pins:List (Addr × Obj)} {σ:St} {H:Hp} {s:Shared} {E:Value -> Shared -> Prop}
theorem Inv.wish (I:Inv X pins σ H s) (E:Value -> Shared -> Prop):Inv (X.wish E) pins σ H s:=⟨I.ok.wish E,I.os,I.bare,I.base,I.loc,I.cell,I.free,I.freeC,I.pin,I.hok,I.len⟩
theorem Inv.unwish (I:Inv (X.wish E) pins σ H s):Inv X pins σ H s:=⟨I.ok.unwish,I.os,I.bare,I.base,I.loc,I.cell,I.free,I.freeC,I.pin,I.hok,I.len⟩
theorem SP.unwish {D:wU} {f:Flow} {s':Shared} (h:SP (X.wish E) pins D f s'):SP X pins D f s':=by
  cases f with
  | next=>obtain ⟨σ',H',I,q⟩:=h;exact ⟨σ',H',I.unwish,q⟩
  | brk=>obtain ⟨σ',H',I,q⟩:=h;exact ⟨σ',H',I.unwish,q⟩
  | cont=>obtain ⟨σ',H',I,q⟩:=h;exact ⟨σ',H',I.unwish,q⟩
  | ret u=>obtain ⟨v,σ',H',I,r,q⟩:=h;exact ⟨v,σ',H',I.unwish,r,q⟩
theorem PE.nox {e:Expr} {t:TE} (h:PE X.nox e t):PE X e t:=fun pins s σ H Q I hw=>
  wpAny_mono (h pins s σ H Q (I.wish _) hw) (fun _ _ ⟨v,H',I',r,q⟩=>⟨v,H',I'.unwish,r,q⟩) fun _ _ z=>False.elim z
theorem PT.nox {e:Expr} {t:TT} (h:PT X.nox e t):PT X e t:=fun pins s σ H Q I hw=>
  wpAny_mono (h pins s σ H Q (I.wish _) hw) (fun _ _ ⟨H',I',q⟩=>⟨H',I'.unwish,q⟩) fun _ _ z=>False.elim z
theorem PSs.nox {st:List Stmt} {t:TS} (h:PSs X.nox st t):PSs X st t:=fun pins s σ H D I hw=>
  wpAny_mono (h pins s σ H D (I.wish _) hw) (fun _ _ q=>q.unwish) fun _ _ z=>False.elim z
end
section
variable {X:Cx} {st:Stmt} {jv:List Stmt} {t u:TS} {e:Expr} {te:TE} {pos:Pos}
def V5:TS:=fun D σ H=>D.nx σ H
def Q7 (t u:TS):TS:=fun D σ H=>t { D with nx:=u D } σ H
theorem zM:PSs X [] V5:=fun _ _ σ H _ I h=>wpAny_execs_nil ⟨σ,H,I,h⟩
theorem zg (h1:PS X st t) (h2:PSs X jv u):PSs X (st :: jv) (Q7 t u):=by
  intro pins s σ H D I h
  refine wpAny_execs_cons (thn (h1 pins s σ H { D with nx:=u D } I h) fun f s1 q=>?_)
  cases f with
  | next=>
    obtain ⟨σ',H',I',q⟩:=q
    exact h2 pins s1 σ' H' D I' q
  | ret v=>exact q
  | brk=>exact q
  | cont=>exact q
theorem zk (h1:PS X st t):PSs X [st] t:=by
  intro pins s σ H D I h
  refine wpAny_execs_cons (thn (h1 pins s σ H D I h) fun f s1 q=>?_)
  cases f with
  | next=>exact wpAny_execs_nil q
  | ret v=>exact q
  | brk=>exact q
  | cont=>exact q
theorem Inv.quiet {pins:List (Addr × Obj)} {σ:St} {H:Hp} {s:Shared} (I:Inv X pins σ H s):interactive X.env = false:=by simp [interactive,I.ok.kind]
def V6 (te:TE):TS:=fun D σ H=>te σ H fun _ H1=>D.nx σ H1
theorem jY (he:PE X e te) (hs:swapsWith e none pos.line X.env = pure false:=by rfl):PS X (.Expr e pos) (V6 te):=by
  intro pins s σ H D I h
  exact wpAny_Expr_any (thn (he pins s σ H _ I h) fun v s1 ⟨x,H1,I1,r1,q1⟩=>⟨σ,H1,I1,q1⟩) I.quiet hs
def WF (te:TE):TS:=fun D σ H=>te σ H D.rt
theorem zu (he:PE X e te):PS X (.Return (some e) pos) (WF te):=by
  intro pins s σ H D I h
  exact wpAny_Return_some (thn (he pins s σ H _ I h) fun v s1 ⟨x,H1,I1,r1,q1⟩=>⟨x,σ,H1,I1,r1,q1⟩)
def WI (c:TT) (t u:TS):TS:=fun D σ H=>c σ H fun b H1=>if b = true then t D σ H1 else u D σ H1
theorem z9 {c:Expr} {a b:List Stmt} {tc:TT} (hc:PT X c tc) (ha:PSs X a t) (hb:PSs X b u):PS X (.If c a b pos) (WI tc t u):=by
  intro pins s σ H D I h
  refine wpAny_If (thn (hc pins s σ H _ I h) fun d s1 ⟨H1,I1,q1⟩=>?_)
  cases d with
  | true=>exact ha pins s1 σ H1 D I1 q1
  | false=>exact hb pins s1 σ H1 D I1 q1
end
abbrev TG:=V -> St -> Hp -> (St -> Hp -> Prop) -> Prop
abbrev TGs:=List V -> St -> Hp -> (St -> Hp -> Prop) -> Prop
def PG (X:Cx) (target:Expr) (t:TG):Prop:=
  ∀ (pins:List (Addr × Obj)) (s:Shared) (σ:St) (H:Hp) (v:V) (u:Value) (Q:St -> Hp -> Prop),Inv X pins σ H s -> RelV v u -> t v σ H Q ->
    wpAny (model X.prog X.w) X.A (assign target X.env u) (fun _ s'=>∃ σ' H',Inv X pins σ' H' s' /\ Q σ' H') X.xe s
def PGs (X:Cx) (ts:List Expr) (t:TGs):Prop:=
  ∀ (pins:List (Addr × Obj)) (s:Shared) (σ:St) (H:Hp) (vs:List V) (us:List Value) (Q:St -> Hp -> Prop),Inv X pins σ H s -> Vals vs us -> t vs σ H Q ->
    wpAny (model X.prog X.w) X.A (assignInOrder ((assignEach ts X.env).map (·.2)) us) (fun _ s'=>∃ σ' H',Inv X pins σ' H' s' /\ Q σ' H') X.xe s
abbrev VY:=V -> V -> V -> Hp -> (Hp -> Prop) -> Prop
def Wz (X:Cx) (t:VY):Prop:=
  ∀ (pins:List (Addr × Obj)) (s:Shared) (σ:St) (H:Hp) (o i v:V) (ov iv u:Value) (Q:Hp -> Prop),Inv X pins σ H s -> RelV o ov -> RelV i iv -> RelV v u -> t o i v H Q ->
    wpAny (model X.prog X.w) X.A (setItem ov iv u) (fun _ s'=>∃ H',Inv X pins σ H' s' /\ Q H') X.xe s
section
variable {X:Cx} {pos:Pos}
def jK (i:Nat):TG:=fun v σ H Q=>Q (σ.set i (some v)) H
theorem zU {i:Nat} {x:Str} (hN:X.N.Nodup) (hi:X.N[i]? = some x) (hx:Loc X.env.scope x) (hf:X.fn x = true \/ X.env.scope.names.lookup x = some .local:=by first | exact .inl rfl | exact .inr rfl | assumption):PG X (.Name x pos) (jK i):=by
  intro pins s σ H v u Q I r h
  exact wpAny_assign_Name (xk I hN hi hx r (fun s' I'=>⟨_,H,I',h⟩) hf)
def XW:TGs:=fun vs σ H Q=>vs = [] /\ Q σ H
inductive xI (t:TG) (u:TGs) (vs:List V) (σ:St) (H:Hp) (Q:St -> Hp -> Prop):Prop
  | mk (v r:_) (_:vs = v :: r) (_:t v σ H fun σ' H'=>u r σ' H' Q):xI t u vs σ H Q
theorem qX:PGs X [] XW:=by
  intro pins s σ H vs us Q I r h
  obtain ⟨e,h⟩:=h
  subst e
  cases r
  exact assignInOrder_nil ⟨σ,H,I,h⟩
theorem zX {e:Expr} {es:List Expr} {t:TG} {u:TGs} (h1:PG X e t) (h2:PGs X es u)
    (hs:(assignEach (e :: es) X.env).map (·.2) = assign e X.env :: (assignEach es X.env).map (·.2):=by rfl):PGs X (e :: es) (xI t u):=by
  intro pins s σ H vs us Q I r h
  obtain ⟨v,vr,e1,h⟩:=h
  subst e1
  cases r with
  | cons r rr=>
    rw [hs]
    refine assignInOrder_cons (thn (h1 pins s σ H _ _ _ I r h) fun _ s1 ⟨σ1,H1,I1,q1⟩=>?_)
    exact h2 pins s1 σ1 H1 _ _ Q I1 rr q1
inductive JV (K:PySem.W.Frag) (n:Nat) (t:TGs) (v:V) (σ:St) (H:Hp) (Q:St -> Hp -> Prop):Prop
  | mk (a xs:_) (_:v = .ref a) (_:SqT K H a xs) (_:xs.length = n) (_:t xs σ H Q):JV K n t v σ H Q
theorem jz {es:List Expr} {k:Nat} {t:TGs} {n:Nat} (hc:X.calm = true) (h:PGs X es t)
    (hn:(assignEach es X.env).length = n:=by rfl) (hst:(assignEach es X.env).findIdx? (·.1) = none:=by rfl):PG X (.Tuple es k pos) (JV X.K n t):=by
  intro pins s σ H v u Q I r hw
  obtain ⟨a,xs,e1,hq,hl,hw⟩:=hw
  subst e1
  cases r
  obtain ⟨its,rv,ht,hz⟩:=I.tuple hq
  refine assign_Tuple_tuple (I.ok.hd hc) ht (by simp [hn,<- hl,rv.length]) hst fun h' hx=>?_
  have I1:Inv X pins σ H { s with heap:=h' }:=I.kept (t':=s.toks) fun b o e=>hx b o (Nat.ne_of_lt (Heap.lt_size e)) e
  exact h pins _ σ H xs _ Q I1 (by simpa using rv) hw
def WS (to ti:TE) (t:VY):TG:=fun v σ H Q=>to σ H fun o H1=>ti σ H1 fun i H2=>t o i v H2 fun H3=>Q σ H3
theorem wH {o i:Expr} {to ti:TE} {t:VY} (ho:PE X o to) (hi:PE X i ti) (hs:Wz X t)
    (ha:∀ v,assign (.Subscript o i pos) X.env v = (do
      let ov <- holding [v] (eval o X.env)
      let iv <- holding [v,ov] (eval i X.env)
      standAt pos
      holding [v,ov,iv] (setItem ov iv v)
      release [v,ov,iv] []):=by intro _;rfl):PG X (.Subscript o i pos) (WS to ti t):=by
  intro pins s σ H v u Q I r h
  rw [ha]
  refine wpAny_bind (wpAny_holding (thn (ho pins s σ H _ I h) fun ov s1 ⟨x,H1,I1,r1,q1⟩=>?_))
  refine wpAny_bind (wpAny_holding (thn (hi pins s1 σ H1 _ I1 q1) fun iv s2 ⟨y,H2,I2,r2,q2⟩=>?_))
  refine wpAny_bind (wpAny_standAt (wpAny_bind (wpAny_holding (thn (hs pins s2 σ H2 x y v ov iv u _ I2 r1 r2 r q2) fun _ s3 ⟨H3,I3,q3⟩=>?_))))
  exact wpAny_release ⟨σ,H3,I3,q3⟩
def y9 (te:TE) (g:TG):TS:=fun D σ H=>te σ H fun x H1=>g x σ H1 D.nx
theorem jP {tg e:Expr} {te:TE} {g:TG} (he:PE X e te) (hg:PG X tg g) (hs:swapsWithSole [tg] e pos.line X.env = pure false:=by rfl) (hw:swappedStores [tg] e X.env = pure none:=by rfl)
    (h1:(assignEach [tg] X.env).map (·.2) = [assign tg X.env]:=by rfl):PS X (.Assign [tg] e pos) (y9 te g):=by
  intro pins s σ H D I h
  refine wpAny_Assign_stores (thn (he pins s σ H _ I h) fun v s1 ⟨x,H1,I1,r1,q1⟩=>?_) hs hw
  rw [h1]
  exact thn (hg pins s1 σ H1 x v _ I1 r1 q1) fun _ s2 q=>q
theorem zy {i:Nat} {x:Str} {e:Expr} {te:TE} {pos':Pos} (hN:X.N.Nodup) (hi:X.N[i]? = some x) (hx:Loc X.env.scope x) (he:PE X e te) (hs:swapsWith e (some (.Name x pos')) pos.line X.env = pure false:=by rfl) (hf:X.fn x = true \/ X.env.scope.names.lookup x = some .local:=by first | exact .inl rfl | exact .inr rfl | assumption) :
    PS X (.Assign [.Name x pos'] e pos) (y9 te (jK i)):=by
  intro pins s σ H D I h
  refine wpAny_Assign_Name (thn (he pins s σ H _ I h) fun v s1 ⟨y,H1,I1,r1,q1⟩=>?_) hs
  exact xk I1 hN hi hx r1 (fun s2 I2=>⟨_,H1,I2,q1⟩) hf
def WG (i j:Nat) (ta:TA):TS:=fun D σ H=>ta σ H fun vs H1=>WB vs H1 fun v w H1=>D.nx ((σ.set i (some v)).set j (some w)) H1
theorem vn {i j:Nat} {x y:Str} {a b:Expr} {ta:TA} {px py pt:Pos} {kt k2 pt2} (hc:X.calm = true) (hN:X.N.Nodup) (hi:X.N[i]? = some x) (hj:X.N[j]? = some y) (hij:i ≠ j)
    (hx:X.env.scope.names.lookup x = some .local) (hy:X.env.scope.names.lookup y = some .local) (ha:PA X [a,b] ta)
    (hw:swappedStores [.Tuple [.Name x px,.Name y py] kt pt] (.Tuple [a,b] k2 pt2) X.env = pure (some [x,y]))
    (hs:swapsWithSole [.Tuple [.Name x px,.Name y py] kt pt] (.Tuple [a,b] k2 pt2) pos.line X.env = pure false:=by rfl) :
    PS X (.Assign [.Tuple [.Name x px,.Name y py] kt pt] (.Tuple [a,b] k2 pt2) pos) (WG i j ta):=by
  intro pins s σ H D I h
  rw [exec_Assign_arm]
  refine wpAny_bind (wpAny_standAt ?_)
  rw [hs]
  refine wpAny_bind (wpAny_pure ?_)
  rw [if_neg (by decide)]
  refine wpAny_bind (Tuple_ (thn (ha _ pins s σ H _ I h) fun us s1 ⟨vs,H1,I1,r1,q1⟩=>?_))
  obtain ⟨v,w,e1,q1⟩:=q1
  subst e1
  obtain ⟨u1,u2,rfl,rv,rw'⟩:∃ u1 u2,us = [u1,u2] /\ RelV v u1 /\ RelV w u2:=by
    cases r1 with
    | cons p q=>
      cases q with
      | cons p' q'=>
        cases q'
        exact ⟨_,_,rfl,p,p'⟩
  refine wpAny_newObj_type ?_ (by show 2 <= sizeLine;decide)
  have I2:Inv X pins σ H1 { s1 with heap:=s1.heap.push { cls:=.type "tuple",data:=.seq [u1,u2].toArray } }:=I1.kept (t':=s1.toks) fun b o e=>Heap.get?_push_of_some _ e
  rw [hw]
  refine wpAny_bind (wpAny_pure ?_)
  show wpAny (model X.prog X.w) X.A (do rule "assign.swapped-stores";let items <- unpackItems (.ref s1.heap.objs.size) 2 none;assignInOrder [fun v=>bindName X.env y v,fun v=>bindName X.env x v] items.reverse;pure Flow.next) _ _ _
  refine wpAny_bind (wpAny_rule (wpAny_bind (unpackItems_tuple (items:=#[u1,u2]) (I.ok.hd hc) (IsTup.new s1.heap _) fun h' hx'=>?_)))
  have I3:=I2.kept (h':=h') (t':=s1.toks) fun b o e=>hx' b o (Nat.ne_of_lt (Heap.lt_size e)) e
  show wpAny _ _ (assignInOrder [fun v=>bindName X.env y v,fun v=>bindName X.env x v] [u2,u1] >>= fun _=>pure Flow.next) _ _ _
  refine wpAny_bind (assignInOrder_cons (wpAny_bindName (xk I3 hN hj (.inl hy) rw' (fun s2 I4=>?_) (.inr hy))))
  refine assignInOrder_cons (wpAny_bindName (xk I4 hN hi (.inl hx) rv (fun s3 I5=>assignInOrder_nil (wpAny_pure ?_)) (.inr hx)))
  rw [List.set_comm _ _ (Ne.symm hij)] at I5
  exact ⟨_,H1,I5,q1⟩
end
section
variable {X:Cx} {pos:Pos}
end
structure It where
  go:Nat -> Hp -> Prop
  yld:Nat -> Hp -> V -> Hp -> Prop
  stop:Nat -> Hp -> Prop
def jI (X:Cx) (pins:List (Addr × Obj)) (H:Hp) (b:Addr):Prop:=
  H b = none /\ b ≠ X.env.locals /\ b ∉ X.fs /\ (b ∈ X.ex \/ X.s₀.heap.objs.size <= b) /\ (∀ x c,X.env.cells.lookup x = some c -> c ≠ b) /\ ∀ p ∈ X.pn ++ pins,p.1 ≠ b
theorem Inv.fpOk {X:Cx} {pins:List (Addr × Obj)} {σ:St} {H H':Hp} {s:Shared} {b:Addr} (I:Inv X pins σ H s) (hb:s.heap.objs.size <= b) (hn:H' b = none):jI X pins H' b:=by
  refine ⟨hn,Nat.ne_of_gt (Nat.lt_of_lt_of_le I.lt hb),I.nofs hb,.inr (Nat.le_trans I.sz hb),fun x c e z=>?_,fun p hp z=>?_⟩
  · obtain ⟨v,q⟩:=I.cell x c e
    exact absurd (Nat.lt_of_lt_of_le q.lt (by rw [z];exact hb)) (Nat.lt_irrefl _)
  · exact absurd (Nat.lt_of_lt_of_le (Heap.lt_size (I.pin p hp).1) (by rw [z];exact hb)) (Nat.lt_irrefl _)
structure QV (P:Program) (w:World) (K:PySem.W.Frag) (tg:Expr) (J:It) (fp:List Addr) (it:Addr) (tn:Nat -> Heap -> Prop):Prop where
  mem:it ∈ fp
  obj:∀ i h,tn i h -> ∀ b ∈ fp,∃ o,h.get? b = some o /\ ∀ v,o.data ≠ .cell v
  keep:∀ i h h',tn i h -> (∀ b ∈ fp,∀ o,h.get? b = some o -> h'.get? b = some o) -> tn i h'
  item:∀ (X:Cx),X.prog = P -> X.w = w -> X.K = K -> X.calm = true -> ∀ (i:Nat) (pins:List (Addr × Obj)) (s:Shared) (σ:St) (H:Hp) (E:Value -> Shared -> Prop),Inv X pins σ H s -> (∀ b ∈ fp,jI X pins H b) -> tn i s.heap -> J.go i H ->
    wpAny (model P w) X.A (pyNext (.ref it)) (fun r s1=>∃ u,r = some u /\
      wpAny (model P w) X.A (letOwnedTupleGo tg (.ref it) u) (fun _ s2=>∃ x H',Inv X pins σ H' s2 /\ RelV x u /\ J.yld i H x H' /\ tn (i + 1) s2.heap /\ ∀ b ∈ fp,H' b = none) E s1) E s
  done:∀ (X:Cx),X.prog = P -> X.w = w -> X.K = K -> X.calm = true -> ∀ (i:Nat) (pins:List (Addr × Obj)) (s:Shared) (σ:St) (H:Hp) (E:Value -> Shared -> Prop),Inv X pins σ H s -> (∀ b ∈ fp,jI X pins H b) -> tn i s.heap -> J.stop i H ->
    wpAny (model P w) X.A (pyNext (.ref it)) (fun r s1=>r = none /\ Inv X pins σ H s1) E s
  self:∀ (A:Around) (i:Nat) (s:Shared) (Q:Value -> Shared -> Prop) (E:Value -> Shared -> Prop),tn i s.heap -> Q (.ref it) s -> wpAny (model P w) A (pyIter (.ref it)) Q E s
abbrev TI:=St -> Hp -> (It -> Hp -> Prop) -> Prop
def PIE (X:Cx) (pins:List (Addr × Obj)) (σ:St) (tg:Expr) (R:It -> Hp -> Prop) (itv:Value) (s2:Shared):Prop:=
  ∃ (it:Addr) (fp:List Addr) (tn:Nat -> Heap -> Prop) (J:It) (H':Hp),itv = .ref it /\ Inv X pins σ H' s2 /\ QV X.prog X.w X.K tg J fp it tn /\ tn 0 s2.heap /\ (∀ b ∈ fp,jI X pins H' b) /\ R J H'
def PI (X:Cx) (tg iter:Expr) (wi:TI):Prop:=
  ∀ (pins:List (Addr × Obj)) (s:Shared) (σ:St) (H:Hp) (R:It -> Hp -> Prop),Inv X pins σ H s -> wi σ H R ->
    wpAny (model X.prog X.w) X.A (eval iter X.env) (fun v s1=>wpAny (model X.prog X.w) X.A (pyIter v) (PIE X pins σ tg R) X.xe s1) X.xe s
theorem JU {M:Model} {A:Around} {E:Value -> Shared -> Prop} {s:Shared} {tg:Expr} {it:Addr} {u:Value} {o:Obj} {n:String} {vs:Array Value} {Q:Unit -> Shared -> Prop} (ho:s.heap.get? it = some o) (hc:o.cls = .type n) (hd:o.data = .fields vs)
    (hn:["enumerate", "zip", "dict_itemiterator", "dict_reverseitemiterator", "odict_iterator", "itertools.zip_longest", "itertools.pairwise"].contains n = false) (hQ:Q () s):wpAny M A (letOwnedTupleGo tg (.ref it) u) Q E s:=by
  unfold letOwnedTupleGo
  cases tg <;> first
    | exact wpAny_pure hQ
    | (cases u <;> first
        | exact wpAny_pure hQ
        | (refine wpAny_bind (wpAny_load ho ?_)
           rw [hc,hd]
           show wpAny M A (if (["enumerate", "zip", "dict_itemiterator", "dict_reverseitemiterator", "odict_iterator", "itertools.zip_longest", "itertools.pairwise"].contains n && vs[0]? == some (rawInt _)) = true then _ else _) Q E s
           rw [if_neg (by intro h;rw [hn,Bool.false_and] at h;cases h)]
           exact wpAny_pure hQ))
def Itl (K:PySem.W.Frag) (a:Addr):It:=
  ⟨fun i H=>∃ xs x,SqL K H a xs /\ xs[i]? = some x,fun i H x H'=>H' = H /\ ∀ xs,SqL K H a xs -> xs[i]? = some x,fun i H=>∃ xs,SqL K H a xs /\ xs.length <= i⟩
def Itt (K:PySem.W.Frag) (a:Addr):It:=
  ⟨fun i H=>∃ xs x,SqT K H a xs /\ xs[i]? = some x,fun i H x H'=>H' = H /\ ∀ xs,SqT K H a xs -> xs[i]? = some x,fun i H=>∃ xs,SqT K H a xs /\ xs.length <= i⟩
def Itr (lo:Int) (n:Nat):It:=⟨fun i _=>i < n,fun i H x H'=>H' = H /\ x = .int (lo + i),fun i _=>n <= i⟩
theorem Qu {P:Program} {w:World} {K:PySem.W.Frag} {tg:Expr} (a it:Addr):QV P w K tg (Itl K a) [it] it (fun i h=>h.IsListIter it a i) where
  mem:=by simp
  obj:=fun i h st b hb=>by
    have e:b = it:=by simpa using hb
    subst e
    obtain ⟨o,e,c,d⟩:=st
    exact ⟨o,e,fun v z=>by rw [d] at z;cases z⟩
  keep:=fun i h h' st k=>st.at fun o e=>k it (by simp) o e
  item:=by
    intro X hP hw hK hc i pins s σ H E I hf st hg
    subst hP hw hK
    obtain ⟨xs,x,hq,hx⟩:=hg
    obtain ⟨its,rv,p,hz⟩:=I.list hq
    obtain ⟨u,hu,ru⟩:=rv.get hx
    obtain ⟨f0,f1,f2,f3,f4,f5⟩:=hf it (by simp)
    refine wpAny_pyNext_list_item st p.isList (x:=u) (by simpa using hu) fun h' st' sb=>?_
    have I1:Inv X pins σ H { s with heap:=h' }:=I.turned (t':=s.toks) (fun b o hb e=>(sb.2 b hb).trans e) f0 f1 f3 f4 f5
    obtain ⟨o,e,c,d⟩:=id st'
    exact ⟨u,rfl,JU (s:={ s with heap:=h' }) e c d (by decide) ⟨x,H,I1,ru,⟨rfl,fun ys hy=>by rw [I.list_inj hy hq];exact hx⟩,st',fun b hb=>(hf b hb).1⟩⟩
  done:=by
    intro X hP hw hK hc i pins s σ H E I hf st hg
    subst hP hw hK
    obtain ⟨xs,hq,hx⟩:=hg
    obtain ⟨its,rv,p,hz⟩:=I.list hq
    obtain ⟨f0,f1,f2,f3,f4,f5⟩:=hf it (by simp)
    have hl:=rv.length
    exact wpAny_pyNext_list_end (I.ok.hd hc) st p.isList (by simp;omega) fun h' eb=>⟨rfl,I.turned (t':=s.toks) (fun b o hb e=>eb b o hb e) f0 f1 f3 f4 f5⟩
  self:=fun _ _ _ _ _ st h=>wpAny_pyIter_listiter st h
theorem yY {P:Program} {w:World} {K:PySem.W.Frag} {tg:Expr} (a it:Addr):QV P w K tg (Itt K a) [it] it (fun i h=>h.IsTupleIter it a i) where
  mem:=by simp
  obj:=fun i h st b hb=>by
    have e:b = it:=by simpa using hb
    subst e
    obtain ⟨o,e,c,d⟩:=st
    exact ⟨o,e,fun v z=>by rw [d] at z;cases z⟩
  keep:=fun i h h' st k=>st.at fun o e=>k it (by simp) o e
  item:=by
    intro X hP hw hK hc i pins s σ H E I hf st hg
    subst hP hw hK
    obtain ⟨xs,x,hq,hx⟩:=hg
    obtain ⟨its,rv,p,hz⟩:=I.tuple hq
    obtain ⟨u,hu,ru⟩:=rv.get hx
    obtain ⟨f0,f1,f2,f3,f4,f5⟩:=hf it (by simp)
    refine wpAny_pyNext_tuple_item st (show s.heap.IsTuple a its.toArray from p) (x:=u) (by simpa using hu) fun h' st' sb=>?_
    have I1:Inv X pins σ H { s with heap:=h' }:=I.turned (t':=s.toks) (fun b o hb e=>(sb.2 b hb).trans e) f0 f1 f3 f4 f5
    obtain ⟨o,e,c,d⟩:=id st'
    exact ⟨u,rfl,JU (s:={ s with heap:=h' }) e c d (by decide) ⟨x,H,I1,ru,⟨rfl,fun ys hy=>by rw [I.tuple_inj hy hq];exact hx⟩,st',fun b hb=>(hf b hb).1⟩⟩
  done:=by
    intro X hP hw hK hc i pins s σ H E I hf st hg
    subst hP hw hK
    obtain ⟨xs,hq,hx⟩:=hg
    obtain ⟨its,rv,p,hz⟩:=I.tuple hq
    obtain ⟨f0,f1,f2,f3,f4,f5⟩:=hf it (by simp)
    have hl:=rv.length
    exact wpAny_pyNext_tuple_end (I.ok.hd hc) st (show s.heap.IsTuple a its.toArray from p) (by simp;omega) fun h' eb=>⟨rfl,I.turned (t':=s.toks) (fun b o hb e=>eb b o hb e) f0 f1 f3 f4 f5⟩
  self:=fun _ _ _ _ _ st h=>wpAny_pyIter_tupleiter st h
theorem yZ {P:Program} {w:World} {K:PySem.W.Frag} {tg:Expr} (it:Addr) (lo:Int) (n:Nat):QV P w K tg (Itr lo n) [it] it (fun i h=>IsRangeIter h it (lo + (i:Nat) * 1) ((n:Int) - (i:Nat)) 1) where
  mem:=by simp
  obj:=fun i h st b hb=>by
    have e:b = it:=by simpa using hb
    subst e
    exact ⟨_,st,fun v z=>by
      have z':Data.fields _ = Data.cell v:=z
      cases z'⟩
  keep:=fun i h h' st k=>k it (by simp) _ st
  item:=by
    intro X hP hw hK hc i pins s σ H E I hf st hg
    subst hP hw hK
    obtain ⟨f0,f1,f2,f3,f4,f5⟩:=hf it (by simp)
    have W:=Walks.range (prog:=X.prog) (w:=X.w) (I.ok.hd hc) it lo 1 n
    refine W.item i s _ _ hg st fun v h' tk hv st' kk=>?_
    obtain ⟨t,rfl⟩:=hv
    have I1:Inv X pins σ H { s with heap:=h',toks:=tk }:=I.turned (fun b o hb e=>kk b o (by simpa using hb) e) f0 f1 f3 f4 f5
    refine ⟨_,rfl,JU (s:={ s with heap:=h',toks:=tk }) (n:= "range_iterator") st' rfl rfl (by decide) ⟨.int (lo + i),H,I1,⟨t,?_⟩,⟨rfl,rfl⟩,st',fun b hb=>(hf b hb).1⟩⟩
    rw [Int.mul_one]
  done:=by
    intro X hP hw hK hc i pins s σ H E I hf st hg
    subst hP hw hK
    obtain ⟨f0,f1,f2,f3,f4,f5⟩:=hf it (by simp)
    exact wpAny_pyNext_range_end (I.ok.hd hc) st (by have:n <= i:=hg;omega) fun h' eb=>⟨rfl,I.turned (t':=s.toks) (fun b o hb e=>eb b o hb e) f0 f1 f3 f4 f5⟩
  self:=fun _ _ _ _ _ st h=>wpAny_pyIter_rangeiter st h
section
variable {X:Cx} {tg:Expr}
inductive InL (K:PySem.W.Frag) (x:V) (H:Hp) (R:It -> Hp -> Prop):Prop
  | mk (a:Addr) (h:x = .ref a) (e:∃ xs,SqL K H a xs) (r:R (Itl K a) H):InL K x H R
inductive InT (K:PySem.W.Frag) (x:V) (H:Hp) (R:It -> Hp -> Prop):Prop
  | mk (a:Addr) (h:x = .ref a) (e:∃ xs,SqT K H a xs) (r:R (Itt K a) H):InT K x H R
def Wt (K:PySem.W.Frag) (tl:TE):TI:=fun σ H R=>tl σ H fun x H1=>InL K x H1 R
def WR (K:PySem.W.Frag) (tl:TE):TI:=fun σ H R=>tl σ H fun x H1=>InT K x H1 R
theorem xp {l:Expr} {tl:TE} (hl:PE X l tl):PI X tg l (Wt X.K tl):=by
  intro pins s σ H R I h
  refine thn (hl pins s σ H _ I h) fun v s1 ⟨x,H1,I1,r1,q1⟩=>?_
  obtain ⟨a,e,⟨xs,hq⟩,q⟩:=q1
  subst e
  cases r1
  obtain ⟨its,rv,p,hz⟩:=I1.list hq
  refine wpAny_pyIter_list p.isList ?_
  refine ⟨s1.heap.objs.size,[s1.heap.objs.size],_,_,H1,rfl,I1.kept (t':=s1.toks) fun b o e=>Heap.get?_push_of_some _ e,Qu a _,⟨_,Heap.get?_push_size _ rfl,rfl,rfl⟩,fun b hb=>?_,q⟩
  have e:b = s1.heap.objs.size:=by simpa using hb
  subst e
  exact I1.fpOk (Nat.le_refl _) (I1.hok.fresh (Nat.le_refl _))
theorem jy {l:Expr} {tl:TE} (hl:PE X l tl):PI X tg l (WR X.K tl):=by
  intro pins s σ H R I h
  refine thn (hl pins s σ H _ I h) fun v s1 ⟨x,H1,I1,r1,q1⟩=>?_
  obtain ⟨a,e,⟨xs,hq⟩,q⟩:=q1
  subst e
  cases r1
  obtain ⟨its,rv,p,hz⟩:=I1.tuple hq
  refine wpAny_pyIter_tuple (show s1.heap.IsTuple a its.toArray from p) ?_
  refine ⟨s1.heap.objs.size,[s1.heap.objs.size],_,_,H1,rfl,I1.kept (t':=s1.toks) fun b o e=>Heap.get?_push_of_some _ e,yY a _,⟨_,Heap.get?_push_size _ rfl,rfl,rfl⟩,fun b hb=>?_,q⟩
  have e:b = s1.heap.objs.size:=by simpa using hb
  subst e
  exact I1.fpOk (Nat.le_refl _) (I1.hok.fresh (Nat.le_refl _))
theorem Jq {pins:List (Addr × Obj)} {σ:St} {H:Hp} {s:Shared} {R:It -> Hp -> Prop} {E:Value -> Shared -> Prop} {lo hi:Int} {t u v:Tok} {tk:Nat} (I:Inv X pins σ H s) (h1:-(2 ^ 62) <= lo) (h2:lo < 2 ^ 62) (h3:-(2 ^ 62) <= hi) (h4:hi < 2 ^ 62)
    (q:R (Itr lo (hi - lo).toNat) H):wpAny (model X.prog X.w) X.A (pyIter (.ref s.heap.objs.size)) (PIE X pins σ tg R) E { s with heap:=s.heap.push { cls:=.type "range",data:=.fields #[.int lo t,.int hi u,.int 1 v] },toks:=tk }:=by
  refine wpAny_pyIter_range (IsRange.new ..) (small_one h1 h2 h3 h4) ?_
  have I1:Inv X pins σ H { s with heap:=s.heap.push { cls:=.type "range",data:=.fields #[.int lo t,.int hi u,.int 1 v] },toks:=tk }:=I.kept fun b o e=>Heap.get?_push_of_some _ e
  refine ⟨(s.heap.push { cls:=.type "range",data:=.fields #[.int lo t,.int hi u,.int 1 v] }).objs.size,[(s.heap.push { cls:=.type "range",data:=.fields #[.int lo t,.int hi u,.int 1 v] }).objs.size],_,_,H,rfl,
    I1.kept (t':=tk) fun b o e=>Heap.get?_push_of_some _ e,yZ _ lo (hi - lo).toNat,?_,fun b hb=>?_,q⟩
  · have e1:lo + ((0:Nat):Int) * 1 = lo:=by simp
    have e2:(((hi - lo).toNat:Nat):Int) - ((0:Nat):Int) = Builtin.Range.rangeSize lo hi 1:=by rw [rangeSize_one];split <;> omega
    show IsRangeIter _ _ (lo + ((0:Nat):Int) * 1) ((((hi - lo).toNat:Nat):Int) - ((0:Nat):Int)) 1
    rw [e1,e2]
    exact Heap.get?_push_size _ rfl
  · have e:b = (s.heap.push { cls:=.type "range",data:=.fields #[.int lo t,.int hi u,.int 1 v] }).objs.size:=by simpa using hb
    subst e
    exact I1.fpOk (Nat.le_refl _) (I1.hok.fresh (Nat.le_refl _))
inductive WC (vs:List V) (H:Hp) (R:It -> Hp -> Prop):Prop
  | mk (j:Int) (h:vs = [.int j]) (h1:-(2 ^ 62) <= j) (h2:j < 2 ^ 62) (r:R (Itr 0 j.toNat) H):WC vs H R
def Ws (ta:TA):TI:=fun σ H R=>ta σ H fun vs H1=>WC vs H1 R
theorem qm {a:Expr} {ta:TA} {p pos:Pos} (hg:Gl X "range") (hm:X.mg "range" = none) (ha:PA X [a] ta) (hs:starEach [a] X.env = [(false,eval a X.env)]:=by rfl):PI X tg (.Call (.Name "range" p) [a] [] pos) (Ws ta):=by
  intro pins s σ H R I h
  refine Call_ (jQ I hg hm boot_range (PyProof.Rows.callWith_type1 (thn (ha pos pins s σ H _ I h) fun us s1 ⟨vs,H1,I1,r1,q1⟩=>?_) hs rfl))
  obtain ⟨j,e,q1,q2,q⟩:=q1
  subst e
  cases r1 with
  | cons r rr=>
    cases rr
    obtain ⟨t,rfl⟩:=r
    exact call_range_1 (Jq I1 (by omega) (by omega) q1 q2 (by simpa using q))
def WJ (wi:TI) (g:TG) (tb:TS):TS:=fun D σ H=>wi σ H fun J H1=>∃ W:Nat -> Nat -> St -> Hp -> Prop,(∃ m,W 0 m σ H1) /\ ∀ i m σ H,W i m σ H ->
  (J.stop i H /\ D.nx σ H) \/ (J.go i H /\ ∃ N:St -> Hp -> Prop,(∀ σ' H',N σ' H' -> ∃ m',m' < m /\ W (i + 1) m' σ' H') /\ ∀ x H',J.yld i H x H' -> g x σ H' fun σ2 H2=>tb { D with nx:=N,ct:=N,bk:=D.nx } σ2 H2)
def zO (fp:List Addr) (h:Heap):List (Addr × Obj):=fp.filterMap fun b=>(h.get? b).map fun o=>(b,o)
theorem qq {fp:List Addr} {h:Heap} {b:Addr} {o:Obj} (hb:b ∈ fp) (e:h.get? b = some o):(b,o) ∈ zO fp h:=List.mem_filterMap.mpr ⟨b,hb,by rw [e];rfl⟩
theorem jZ {fp:List Addr} {h:Heap} {p:Addr × Obj} (hp:p ∈ zO fp h):p.1 ∈ fp /\ h.get? p.1 = some p.2:=by
  obtain ⟨b,hb,e⟩:=List.mem_filterMap.mp hp
  cases q:h.get? b with
  | none=>rw [q] at e;cases e
  | some o=>
    rw [q] at e
    have e':(b,o) = p:=Option.some.inj e
    subst e'
    exact ⟨hb,q⟩
theorem Inv.pinned {pins:List (Addr × Obj)} {σ:St} {H:Hp} {s:Shared} {fp:List Addr} (I:Inv X pins σ H s) (hf:∀ b ∈ fp,jI X pins H b) (ho:∀ b ∈ fp,∃ o,s.heap.get? b = some o /\ ∀ v,o.data ≠ .cell v):Inv X (pins ++ zO fp s.heap) σ H s:=
  I.pins_of fun p hp=>(List.mem_append.mp hp).elim (fun z=>I.pin p (List.mem_append_right _ z)) fun z=>by
    obtain ⟨hb,e⟩:=jZ z
    obtain ⟨f0,f1,f2,_⟩:=hf p.1 hb
    obtain ⟨o,e',d⟩:=ho p.1 hb
    rw [e] at e';cases e'
    exact ⟨e,f0,f1,f2,d⟩
theorem Inv.unpinned {pins pl:List (Addr × Obj)} {σ:St} {H:Hp} {s:Shared} (I:Inv X (pins ++ pl) σ H s):Inv X pins σ H s:=I.pins_of fun p hp=>I.pin p (List.mem_append_right _ (List.mem_append_left _ hp))
theorem qM {iter:Expr} {body:List Stmt} {wi:TI} {g:TG} {tb:TS} {pos:Pos} (hp:PassesOwn (model X.prog X.w) X.A X.env X.xe) (hc:X.calm = true) (hi:PI X tg iter wi) (hg:PG X tg g) (hb:PSs X body tb)
    (hs:∀ x,foldedSetIterable iter X.env x = pure x:=by intro _;rfl):PS X (.For tg iter body [] pos) (WJ wi g tb):=by
  intro pins s σ H D I h
  refine wpAny_For (thn (hi pins s σ H _ I h) fun v s1 h1=>thn h1 fun itv s2 h2=>?_) hs
  obtain ⟨it,fp,tn,J,H2,e,I2,T,st2,f2,W,⟨m0,w0⟩,turn⟩:=h2
  subst e
  have stat:∀ {H':Hp},(∀ b ∈ fp,H' b = none) -> ∀ b ∈ fp,jI X pins H' b:=fun hn b hb=>⟨hn b hb,(f2 b hb).2⟩
  refine codeAny_forLoop_any (fun n s'=>∃ i σ' H',Inv X pins σ' H' s' /\ tn i s'.heap /\ (∀ b ∈ fp,H' b = none) /\ W i n σ' H') ?_ m0 ⟨0,σ,H2,I2,st2,fun b hb=>(f2 b hb).1,w0⟩
  rintro n s3 ⟨i,σ3,H3,I3,st3,fr3,w3⟩
  rcases turn i n σ3 H3 w3 with ⟨stop,qn⟩ | ⟨go,N,hN,step⟩
  · refine wpAny_passesOwn hp (thn (T.done X rfl rfl rfl hc i pins s3 σ3 H3 X.xe I3 (stat fr3) st3 stop) fun r s4 ⟨hr,I4⟩=>?_)
    subst hr
    exact wpAny_execs_nil ⟨σ3,H3,I4,qn⟩
  · refine wpAny_passesOwn hp (thn (T.item X rfl rfl rfl hc i pins s3 σ3 H3 X.xe I3 (stat fr3) st3 go) fun r s4 ⟨u,hr,h4⟩=>?_)
    subst hr
    refine wpAny_passesOwn hp (thn h4 fun _ s5 ⟨x,H5,I5,r5,y5,st5,fr5⟩=>?_)
    have I5':=I5.pinned (stat fr5) (T.obj _ _ st5)
    refine wpAny_passesOwn hp (thn (hg _ s5 σ3 H5 x u _ I5' r5 (step x H5 y5)) fun _ s6 ⟨σ6,H6,I6,q6⟩=>?_)
    refine wpAny_passesOwn hp (thn (hb _ s6 σ6 H6 _ I6 q6) fun f s7 q7=>?_)
    have again:∀ {σ7:St} {H7:Hp},Inv X (pins ++ zO fp s5.heap) σ7 H7 s7 -> N σ7 H7 -> ∃ m,m < n /\ ∃ i σ' H',Inv X pins σ' H' s7 /\ tn i s7.heap /\ (∀ b ∈ fp,H' b = none) /\ W i m σ' H':=fun {σ7 H7} I7 n7=>by
      obtain ⟨m',hm,w7⟩:=hN σ7 H7 n7
      refine ⟨m',hm,i + 1,σ7,H7,I7.unpinned,T.keep _ _ _ st5 fun b hb o e=>(I7.pin (b,o) (List.mem_append_right _ (List.mem_append_right _ (qq hb e)))).1,fun b hb=>?_,w7⟩
      obtain ⟨o,e,d⟩:=T.obj _ _ st5 b hb
      exact (I7.pin (b,o) (List.mem_append_right _ (List.mem_append_right _ (qq hb e)))).2.1
    cases f with
    | next=>obtain ⟨σ7,H7,I7,n7⟩:=q7;exact again I7 n7
    | cont=>obtain ⟨σ7,H7,I7,n7⟩:=q7;exact again I7 n7
    | brk=>obtain ⟨σ7,H7,I7,q7⟩:=q7;exact ⟨σ7,H7,I7.unpinned,q7⟩
    | ret v=>obtain ⟨x7,σ7,H7,I7,r7,q7⟩:=q7;exact ⟨x7,σ7,H7,I7.unpinned,r7,q7⟩
end
theorem yL {K:PySem.W.Frag} {a:Addr} {xs:List V} {g:TG} {tb:TS} {D:wU} {σ:St} {H:Hp} (Pv:Nat -> St -> Hp -> Prop) (h0:Pv 0 σ H) (hl:∀ i σ H,i <= xs.length -> Pv i σ H -> SqL K H a xs)
    (hs:∀ i x σ H,xs[i]? = some x -> Pv i σ H -> g x σ H fun σ2 H2=>tb { D with nx:=Pv (i + 1),ct:=Pv (i + 1),bk:=D.nx } σ2 H2) (hd:∀ σ H,Pv xs.length σ H -> D.nx σ H) :
    ∃ W:Nat -> Nat -> St -> Hp -> Prop,(∃ m,W 0 m σ H) /\ ∀ i m σ H,W i m σ H ->
      ((Itl K a).stop i H /\ D.nx σ H) \/ ((Itl K a).go i H /\ ∃ N:St -> Hp -> Prop,(∀ σ' H',N σ' H' -> ∃ m',m' < m /\ W (i + 1) m' σ' H') /\ ∀ x H',(Itl K a).yld i H x H' -> g x σ H' fun σ2 H2=>tb { D with nx:=N,ct:=N,bk:=D.nx } σ2 H2):=by
  refine ⟨fun i m σ H=>m = xs.length - i /\ i <= xs.length /\ Pv i σ H,⟨xs.length,by simp,Nat.zero_le _,h0⟩,?_⟩
  rintro i m σ H ⟨rfl,hi,p⟩
  have q:=hl i σ H hi p
  by_cases hlt:i < xs.length
  · refine .inr ⟨⟨xs,xs[i],q,by simp [hlt]⟩,Pv (i + 1),fun σ' H' p'=>⟨xs.length - (i + 1),by omega,rfl,hlt,p'⟩,fun x H' y=>?_⟩
    obtain ⟨e,y⟩:=y
    subst e
    exact hs i x σ _ (y xs q) p
  · have e:i = xs.length:=by omega
    subst e
    exact .inl ⟨⟨xs,q,Nat.le_refl _⟩,hd σ H p⟩
theorem XY {K:PySem.W.Frag} {a:Addr} {xs:List V} {g:TG} {tb:TS} {D:wU} {σ:St} {H:Hp} (Pv:Nat -> St -> Hp -> Prop) (h0:Pv 0 σ H) (hl:∀ i σ H,i <= xs.length -> Pv i σ H -> SqT K H a xs)
    (hs:∀ i x σ H,xs[i]? = some x -> Pv i σ H -> g x σ H fun σ2 H2=>tb { D with nx:=Pv (i + 1),ct:=Pv (i + 1),bk:=D.nx } σ2 H2) (hd:∀ σ H,Pv xs.length σ H -> D.nx σ H) :
    ∃ W:Nat -> Nat -> St -> Hp -> Prop,(∃ m,W 0 m σ H) /\ ∀ i m σ H,W i m σ H ->
      ((Itt K a).stop i H /\ D.nx σ H) \/ ((Itt K a).go i H /\ ∃ N:St -> Hp -> Prop,(∀ σ' H',N σ' H' -> ∃ m',m' < m /\ W (i + 1) m' σ' H') /\ ∀ x H',(Itt K a).yld i H x H' -> g x σ H' fun σ2 H2=>tb { D with nx:=N,ct:=N,bk:=D.nx } σ2 H2):=by
  refine ⟨fun i m σ H=>m = xs.length - i /\ i <= xs.length /\ Pv i σ H,⟨xs.length,by simp,Nat.zero_le _,h0⟩,?_⟩
  rintro i m σ H ⟨rfl,hi,p⟩
  have q:=hl i σ H hi p
  by_cases hlt:i < xs.length
  · refine .inr ⟨⟨xs,xs[i],q,by simp [hlt]⟩,Pv (i + 1),fun σ' H' p'=>⟨xs.length - (i + 1),by omega,rfl,hlt,p'⟩,fun x H' y=>?_⟩
    obtain ⟨e,y⟩:=y
    subst e
    exact hs i x σ _ (y xs q) p
  · have e:i = xs.length:=by omega
    subst e
    exact .inl ⟨⟨xs,q,Nat.le_refl _⟩,hd σ H p⟩
theorem qA {lo:Int} {n:Nat} {g:TG} {tb:TS} {D:wU} {σ:St} {H:Hp} (Pv:Nat -> St -> Hp -> Prop) (h0:Pv 0 σ H)
    (hs:∀ i σ H,i < n -> Pv i σ H -> g (.int (lo + i)) σ H fun σ2 H2=>tb { D with nx:=Pv (i + 1),ct:=Pv (i + 1),bk:=D.nx } σ2 H2) (hd:∀ σ H,Pv n σ H -> D.nx σ H) :
    ∃ W:Nat -> Nat -> St -> Hp -> Prop,(∃ m,W 0 m σ H) /\ ∀ i m σ H,W i m σ H ->
      ((Itr lo n).stop i H /\ D.nx σ H) \/ ((Itr lo n).go i H /\ ∃ N:St -> Hp -> Prop,(∀ σ' H',N σ' H' -> ∃ m',m' < m /\ W (i + 1) m' σ' H') /\ ∀ x H',(Itr lo n).yld i H x H' -> g x σ H' fun σ2 H2=>tb { D with nx:=N,ct:=N,bk:=D.nx } σ2 H2):=by
  refine ⟨fun i m σ H=>m = n - i /\ i <= n /\ Pv i σ H,⟨n,by simp,Nat.zero_le _,h0⟩,?_⟩
  rintro i m σ H ⟨rfl,hi,p⟩
  by_cases hlt:i < n
  · refine .inr ⟨hlt,Pv (i + 1),fun σ' H' p'=>⟨n - (i + 1),by omega,rfl,hlt,p'⟩,fun x H' y=>?_⟩
    obtain ⟨e,y⟩:=y
    subst e y
    exact hs i σ _ hlt p
  · have e:i = n:=by omega
    subst e
    exact .inl ⟨Nat.le_refl _,hd σ H p⟩
abbrev R2:=V -> V -> Hp -> VK -> Prop
def OpR (X:Cx) (f:Value -> Value -> Sem Value) (r:R2):Prop:=
  ∀ (pins:List (Addr × Obj)) (s:Shared) (σ:St) (H:Hp) (x y:V) (v u:Value) (Q:VK),Inv X pins σ H s -> RelV x v -> RelV y u -> r x y H Q ->
    wpAny (model X.prog X.w) X.A (f v u) (EP X pins σ Q) X.xe s
def UnR (X:Cx) (f:Value -> Sem Value) (r:V -> Hp -> VK -> Prop):Prop:=
  ∀ (pins:List (Addr × Obj)) (s:Shared) (σ:St) (H:Hp) (x:V) (v:Value) (Q:VK),Inv X pins σ H s -> RelV x v -> r x H Q ->
    wpAny (model X.prog X.w) X.A (f v) (EP X pins σ Q) X.xe s
def CallR (X:Cx) (f:Value) (r:List V -> Hp -> VK -> Prop):Prop:=
  ∀ (pins:List (Addr × Obj)) (s:Shared) (σ:St) (H:Hp) (xs:List V) (us:List Value) (Q:VK),Inv X pins σ H s -> Vals xs us -> r xs H Q ->
    wpAny (model X.prog X.w) X.A (call f us) (EP X pins σ Q) X.xe s
def tOp (r:R2) (ta tb:TE):TE:=fun σ H Q=>ta σ H fun x H1=>tb σ H1 fun y H2=>r x y H2 Q
def tUn (r:V -> Hp -> VK -> Prop) (ta:TE):TE:=fun σ H Q=>ta σ H fun x H1=>r x H1 Q
inductive rI (C:Int -> Int -> Prop) (g:Int -> Int -> V) (x:V) (y:V) (H:Hp) (Q:VK):Prop
  | mk (i j:_) (_:x = .int i) (_:y = .int j) (_:C i j) (_:Q (g i j) H):rI C g x y H Q
inductive rI0 (g:Int -> Int -> V) (x:V) (y:V) (H:Hp) (Q:VK):Prop
  | mk (i j:_) (_:x = .int i) (_:y = .int j) (_:Q (g i j) H):rI0 g x y H Q
inductive rU (g:Int -> V) (x:V) (H:Hp) (Q:VK):Prop
  | mk (i:_) (_:x = .int i) (_:Q (g i) H):rU g x H Q
section
variable {X:Cx} {a b c:Expr} {ta tb tc:TE} {pos:Pos}
theorem VX (ha:PE X a ta) (hb:PE X b tb) {pins:List (Addr × Obj)} {s:Shared} {σ:St} {H:Hp} {R:V -> V -> Hp -> Prop} (I:Inv X pins σ H s)
    (h:ta σ H fun x H1=>tb σ H1 fun y H2=>R x y H2) {Q:Value -> Shared -> Prop} {f:Value -> Value -> Sem Value}
    (hf:∀ v u s2 x y H2,Inv X pins σ H2 s2 -> RelV x v -> RelV y u -> R x y H2 -> wpAny (model X.prog X.w) X.A (f v u) Q X.xe s2) :
    wpAny (model X.prog X.w) X.A (eval a X.env) (fun v s₁=>wpAny (model X.prog X.w) X.A (eval b X.env) (fun u s₂=>wpAny (model X.prog X.w) X.A (f v u) Q X.xe s₂) X.xe s₁) X.xe s:=by
  refine thn (ha pins s σ H _ I h) fun v s1 ⟨x,H1,I1,r1,q1⟩=>?_
  refine thn (hb pins s1 σ H1 _ I1 q1) fun u s2 ⟨y,H2,I2,r2,q2⟩=>?_
  exact hf v u s2 x y H2 I2 r1 r2 q2
theorem zo {op:Operator} {r:R2} (ho:OpR X (binaryOp op) r) (ha:PE X a ta) (hb:PE X b tb):PE X (.BinOp a op b pos) (tOp r ta tb):=by
  intro pins s σ H Q I h
  exact wpAny_BinOp (VX ha hb I h fun v u s2 x y H2 I2 rx ry q=>ho pins s2 σ H2 x y v u Q I2 rx ry q)
theorem Ju {op:UnaryOp} {r:V -> Hp -> VK -> Prop} (ho:UnR X (unaryOp op) r) (ha:PE X a ta):PE X (.UnaryOp op a pos) (tUn r ta):=by
  intro pins s σ H Q I h
  exact UnaryOp_ (thn (ha pins s σ H _ I h) fun v s1 ⟨x,H1,I1,r1,q1⟩=>ho pins s1 σ H1 x v Q I1 r1 q1)
theorem opI {f:Value -> Value -> Sem Value} {C:Int -> Int -> Prop} {g:Int -> Int -> Int}
    (rule:∀ (i j:Int) (t u:Tok) (s:Shared) (Q:Value -> Shared -> Prop) (E:Value -> Shared -> Prop),C i j -> Q (.int (g i j) s.toks) { s with toks:=s.toks + 1 } -> wpAny (model X.prog X.w) X.A (f (.int i t) (.int j u)) Q E s) :
    OpR X f (rI C fun i j=>.int (g i j)):=by
  intro pins s σ H x y v u Q I rx ry h
  obtain ⟨i,j,rfl,rfl,hc,q⟩:=h
  obtain ⟨t,rfl⟩:=rx
  obtain ⟨t',rfl⟩:=ry
  exact rule i j t t' s _ _ hc ⟨.int (g i j),H,I.tok _,⟨_,rfl⟩,q⟩
theorem Wn {f:Value -> Value -> Sem Value} {g:Int -> Int -> Int}
    (rule:∀ (i j:Int) (t u:Tok) (s:Shared) (Q:Value -> Shared -> Prop) (E:Value -> Shared -> Prop),Q (.int (g i j) s.toks) { s with toks:=s.toks + 1 } -> wpAny (model X.prog X.w) X.A (f (.int i t) (.int j u)) Q E s) :
    OpR X f (rI0 fun i j=>.int (g i j)):=by
  intro pins s σ H x y v u Q I rx ry h
  obtain ⟨i,j,rfl,rfl,q⟩:=h
  obtain ⟨t,rfl⟩:=rx
  obtain ⟨t',rfl⟩:=ry
  exact rule i j t t' s _ _ ⟨.int (g i j),H,I.tok _,⟨_,rfl⟩,q⟩
theorem XA {f:Value -> Value -> Sem Value} {g:Int -> Int -> Bool}
    (rule:∀ (i j:Int) (t u:Tok) (s:Shared) (Q:Value -> Shared -> Prop) (E:Value -> Shared -> Prop),Q (.bool (g i j)) s -> wpAny (model X.prog X.w) X.A (f (.int i t) (.int j u)) Q E s) :
    OpR X f (rI0 fun i j=>.bl (g i j)):=by
  intro pins s σ H x y v u Q I rx ry h
  obtain ⟨i,j,rfl,rfl,q⟩:=h
  obtain ⟨t,rfl⟩:=rx
  obtain ⟨t',rfl⟩:=ry
  exact rule i j t t' s _ _ ⟨.bl (g i j),H,I,rfl,q⟩
def WD (i j:Int):Prop:=0 < j /\ j < 1073741824
def W2 (i j:Int):Prop:=0 <= j /\ j <= 1000000 /\ i.natAbs < 2 ^ 64
def CMul (i j:Int):Prop:=(-(2 ^ 64) < i /\ i < 2 ^ 64) \/ (-(2 ^ 64) < j /\ j < 2 ^ 64)
theorem CMul.ok {i j:Int} (h:CMul i j):IntMulOk i j:=by
  rcases h with ⟨h1,h2⟩ | ⟨h1,h2⟩
  · exact .of_left (intBits_le_64 h1 h2)
  · exact .of_right (intBits_le_64 h1 h2)
theorem zH:OpR X (binaryOp .Add) (rI0 fun i j=>.int (i + j)):=Wn fun _ _ _ _ _ _ _ q=>add_int q
theorem qI:OpR X (binaryOp .Sub) (rI0 fun i j=>.int (i - j)):=Wn fun _ _ _ _ _ _ _ q=>sub_int q
theorem jd:OpR X (binaryOp .Mult) (rI CMul fun i j=>.int (i * j)):=opI fun _ _ _ _ _ _ _ hc q=>mul_int q hc.ok
theorem ZS:OpR X (binaryOp .FloorDiv) (rI WD fun i j=>.int (i / j)):=opI fun i j _ _ _ _ _ hc q=>by
  have h1:(0:Int) < j:=hc.1
  have h2:j < 1073741824:=hc.2
  exact floordiv_int (by omega) (by rw [Int.fdiv_eq_ediv_of_nonneg i (by omega)];exact q) (.inl (PyProof.noPylong_small (by omega)))
theorem qT:OpR X (binaryOp .Mod) (rI (fun _ j=>0 < j) fun i j=>.int (i % j)):=opI fun i j _ _ _ _ _ hc q=>by
  have h1:(0:Int) < j:=hc
  exact mod_int' (by omega) (by rw [Int.fmod_eq_emod_of_nonneg i (by omega)];exact q)
theorem Jx:OpR X (binaryOp .Pow) (rI W2 fun i j=>.int (i ^ j.toNat)):=opI fun _ _ _ _ _ _ _ hc q=>pow_int_small hc.1 hc.2.1 hc.2.2 q
theorem unI {f:Value -> Sem Value} {g:Int -> Int}
    (rule:∀ (i:Int) (t:Tok) (s:Shared) (Q:Value -> Shared -> Prop) (E:Value -> Shared -> Prop),Q (.int (g i) s.toks) { s with toks:=s.toks + 1 } -> wpAny (model X.prog X.w) X.A (f (.int i t)) Q E s) :
    UnR X f (rU fun i=>.int (g i)):=by
  intro pins s σ H x v Q I rx h
  obtain ⟨i,rfl,q⟩:=h
  obtain ⟨t,rfl⟩:=rx
  exact rule i t s _ _ ⟨.int (g i),H,I.tok _,⟨_,rfl⟩,q⟩
theorem yW:UnR X (unaryOp .USub) (rU fun i=>.int (-i)):=unI fun _ _ _ _ _ q=>neg_int q
end
def V8:V -> V -> Bool
  | .non,.non=>true | .non,.int _=>true | .int _,.non=>true | .non,.bl _=>true | .bl _,.non=>true | .non,.str _=>true | .str _,.non=>true
  | .int _,.int _=>true | .bl _,.bl _=>true | .str _,.str _=>true | .byt _,.byt _=>true
  | .int _,.str _=>true | .str _,.int _=>true | .bl _,.str _=>true | .str _,.bl _=>true
  | _,_=>false
def rEq:R2:=fun x y H Q=>V8 x y = true /\ Q (.bl (decide (x = y))) H
def rNe:R2:=fun x y H Q=>V8 x y = true /\ Q (.bl (!decide (x = y))) H
theorem Z4 {i j:Int}:decide (V.int i = V.int j) = (i == j):=by
  rw [Bool.eq_iff_iff]
  simp
theorem JY {i j:Bool}:decide (V.bl i = V.bl j) = (i == j):=by
  rw [Bool.eq_iff_iff]
  simp
theorem Z3 {i j:Str}:decide (V.str i = V.str j) = (i == j):=by
  rw [Bool.eq_iff_iff]
  simp
theorem Z5 {i j:Array UInt8}:decide (V.byt i = V.byt j) = (i.toList == j.toList):=by
  rw [Bool.eq_iff_iff]
  cases i
  cases j
  simp
section
variable {X:Cx} {a b c:Expr} {ta tb tc:TE} {pos:Pos}
theorem zQ {pins:List (Addr × Obj)} {σ:St} {H:Hp} {s:Shared} {Q:VK} {k k':Bool} (I:Inv X pins σ H s) (q:Q (.bl k) H) (e:k = k'):EP X pins σ Q (.bool k') s:=by
  subst e
  exact ⟨.bl k,H,I,rfl,q⟩
theorem qe:OpR X (compareOp .Eq) rEq:=by
  intro pins s σ H x y v u Q I rx ry h
  obtain ⟨hs,q⟩:=h
  cases x with
  | non=>
    cases rx
    cases y with
    | non=>cases ry;exact PySem.EqNone.eq_none_none (zQ I q (by simp))
    | bl j=>cases ry;exact PySem.EqNone.eq_none_bool (zQ I q (by simp))
    | int j=>obtain ⟨t',rfl⟩:=ry;exact PySem.EqNone.eq_none_int (zQ I q (by simp))
    | str j=>obtain ⟨t',rfl⟩:=ry;exact PySem.EqNone.eq_none_str (zQ I q (by simp))
    | _=>exact absurd (show false = true from hs) Bool.false_ne_true
  | bl i=>
    cases rx
    cases y with
    | non=>cases ry;exact PySem.EqNone.eq_bool_none (zQ I q (by simp))
    | bl j=>cases ry;exact eq_bool (zQ I q JY)
    | str j=>obtain ⟨t',rfl⟩:=ry;exact PySem.EqMixed.eq_bool_str (zQ I q (by simp))
    | _=>exact absurd (show false = true from hs) Bool.false_ne_true
  | int i=>
    obtain ⟨t,rfl⟩:=rx
    cases y with
    | non=>cases ry;exact PySem.EqNone.eq_int_none (zQ I q (by simp))
    | int j=>obtain ⟨t',rfl⟩:=ry;exact eq_int (zQ I q Z4)
    | str j=>obtain ⟨t',rfl⟩:=ry;exact PySem.EqMixed.eq_int_str (zQ I q (by simp))
    | _=>exact absurd (show false = true from hs) Bool.false_ne_true
  | str i=>
    obtain ⟨t,rfl⟩:=rx
    cases y with
    | non=>cases ry;exact PySem.EqNone.eq_str_none (zQ I q (by simp))
    | bl j=>cases ry;exact PySem.EqMixed.eq_str_bool (zQ I q (by simp))
    | int j=>obtain ⟨t',rfl⟩:=ry;exact PySem.EqMixed.eq_str_int (zQ I q (by simp))
    | str j=>obtain ⟨t',rfl⟩:=ry;exact eq_str (zQ I q Z3)
    | _=>exact absurd (show false = true from hs) Bool.false_ne_true
  | byt i=>
    obtain ⟨t,rfl⟩:=rx
    cases y with
    | byt j=>obtain ⟨t',rfl⟩:=ry;exact PySem.W.eq_bytes (zQ I q Z5)
    | _=>exact absurd (show false = true from hs) Bool.false_ne_true
  | _=>cases y <;> exact absurd (show false = true from hs) Bool.false_ne_true
theorem yy:OpR X (compareOp .NotEq) rNe:=by
  intro pins s σ H x y v u Q I rx ry h
  obtain ⟨hs,q⟩:=h
  cases x with
  | non=>
    cases rx
    cases y with
    | non=>cases ry;exact PySem.EqNone.ne_none_none (zQ I q (by simp))
    | bl j=>cases ry;exact PySem.EqNone.ne_none_bool (zQ I q (by simp))
    | int j=>obtain ⟨t',rfl⟩:=ry;exact PySem.EqNone.ne_none_int (zQ I q (by simp))
    | str j=>obtain ⟨t',rfl⟩:=ry;exact PySem.EqNone.ne_none_str (zQ I q (by simp))
    | _=>exact absurd (show false = true from hs) Bool.false_ne_true
  | bl i=>
    cases rx
    cases y with
    | non=>cases ry;exact PySem.EqNone.ne_bool_none (zQ I q (by simp))
    | bl j=>cases ry;exact ne_bool (zQ I q (congrArg not JY))
    | str j=>obtain ⟨t',rfl⟩:=ry;exact PySem.EqMixed.ne_bool_str (zQ I q (by simp))
    | _=>exact absurd (show false = true from hs) Bool.false_ne_true
  | int i=>
    obtain ⟨t,rfl⟩:=rx
    cases y with
    | non=>cases ry;exact PySem.EqNone.ne_int_none (zQ I q (by simp))
    | int j=>obtain ⟨t',rfl⟩:=ry;exact ne_int (zQ I q (congrArg not Z4))
    | str j=>obtain ⟨t',rfl⟩:=ry;exact PySem.EqMixed.ne_int_str (zQ I q (by simp))
    | _=>exact absurd (show false = true from hs) Bool.false_ne_true
  | str i=>
    obtain ⟨t,rfl⟩:=rx
    cases y with
    | non=>cases ry;exact PySem.EqNone.ne_str_none (zQ I q (by simp))
    | bl j=>cases ry;exact PySem.EqMixed.ne_str_bool (zQ I q (by simp))
    | int j=>obtain ⟨t',rfl⟩:=ry;exact PySem.EqMixed.ne_str_int (zQ I q (by simp))
    | str j=>obtain ⟨t',rfl⟩:=ry;exact ne_str (zQ I q (congrArg not Z3))
    | _=>exact absurd (show false = true from hs) Bool.false_ne_true
  | byt i=>
    obtain ⟨t,rfl⟩:=rx
    cases y with
    | byt j=>obtain ⟨t',rfl⟩:=ry;exact PySem.W.ne_bytes (zQ I q (congrArg not Z5))
    | _=>exact absurd (show false = true from hs) Bool.false_ne_true
  | _=>cases y <;> exact absurd (show false = true from hs) Bool.false_ne_true
theorem Jy:OpR X (compareOp .Lt) (rI0 fun i j=>.bl (decide (i < j))):=XA fun _ _ _ _ _ _ _ q=>lt_int q
theorem vY:OpR X (compareOp .LtE) (rI0 fun i j=>.bl (decide (i <= j))):=XA fun _ _ _ _ _ _ _ q=>le_int q
theorem JB:OpR X (compareOp .Gt) (rI0 fun i j=>.bl (decide (j < i))):=XA fun _ _ _ _ _ _ _ q=>gt_int q
theorem Wm:OpR X (compareOp .GtE) (rI0 fun i j=>.bl (decide (j <= i))):=XA fun _ _ _ _ _ _ _ q=>ge_int q
theorem Jz:OpR X (compareOp .Is) (fun x y H Q=>y = .non /\ Q (.bl (decide (x = .non))) H):=by
  intro pins s σ H x y v u Q I rx ry h
  obtain ⟨rfl,q⟩:=h
  cases ry
  refine is_none_gen (zQ I q ?_)
  cases x <;> first
    | (cases rx;rfl)
    | (obtain ⟨t,rfl⟩:=rx;rfl)
theorem OpR.or {f:Value -> Value -> Sem Value} {r r':R2} (h:OpR X f r) (h':OpR X f r'):OpR X f (fun x y H Q=>r x y H Q \/ r' x y H Q):=by
  intro pins s σ H x y v u Q I rx ry q
  rcases q with q | q
  · exact h pins s σ H x y v u Q I rx ry q
  · exact h' pins s σ H x y v u Q I rx ry q
theorem zx (b:Expr) {op:CmpOp} (h:op ≠ .In:=by decide) (h2:op ≠ .NotIn:=by decide):behindInMarks op b = false:=by
  have e1:(op == CmpOp.In) = false:=by cases op <;> first | rfl | exact absurd rfl h
  have e2:(op == CmpOp.NotIn) = false:=by cases op <;> first | rfl | exact absurd rfl h2
  cases b <;> simp [behindInMarks,e1,e2]
theorem qc {op:CmpOp} {r:R2} (ho:OpR X (compareOp op) r) (ha:PE X a ta) (hb:PE X b tb) (hm:behindInMarks op b = false):PE X (.Compare a [op] [b] pos) (tOp r ta tb):=by
  intro pins s σ H Q I h
  exact wpAny_Compare1 (VX ha hb I h fun v u s2 x y H2 I2 rx ry q=>ho pins s2 σ H2 x y v u Q I2 rx ry q) hm
def V2 (t:TE):TT:=fun σ H Q=>t σ H fun x H'=>IsB x H' Q
theorem zE {op:CmpOp} {r:R2} (ho:OpR X (compareOp op) r) (ha:PE X a ta) (hb:PE X b tb) (hm:behindInMarks op b = false):PT X (.Compare a [op] [b] pos) (V2 (tOp r ta tb)):=by
  intro pins s σ H Q I h
  refine wpAny_isTrue_Compare1 (thn (ha pins s σ H _ I h) fun v s1 ⟨x,H1,I1,r1,q1⟩=>thn (hb pins s1 σ H1 _ I1 q1) fun u s2 ⟨y,H2,I2,r2,q2⟩=>
    thn (ho pins s2 σ H2 x y v u _ I2 r1 r2 q2) fun c s3 ⟨z,H3,I3,r3,k,e,q3⟩=>?_) hm
  subst e
  cases r3
  exact wpAny_truthy_bool ⟨H3,I3,q3⟩
def Vn (r r':R2) (ta tb tc:TE):TE:=fun σ H Q=>ta σ H fun x H1=>tb σ H1 fun y H2=>r x y H2 fun z H3=>∃ k,z = .bl k /\
  (if k = true then tc σ H3 fun w' H4=>r' y w' H4 Q else Q (.bl false) H3)
theorem yw {op op':CmpOp} {r r':R2} (ho:OpR X (compareOp op) r) (ho':OpR X (compareOp op') r') (ha:PE X a ta) (hb:PE X b tb) (hc:PE X c tc)
    (hm:lastMarks [op,op'] [b,c] = false:=by with_unfolding_all rfl):PE X (.Compare a [op,op'] [b,c] pos) (Vn r r' ta tb tc):=by
  intro pins s σ H Q I h
  refine Compare_chain (thn (ha pins s σ H _ I h) fun v s1 ⟨x,H1,I1,r1,q1⟩=>chain_link (thn (hb pins s1 σ H1 _ I1 q1) fun u s2 ⟨y,H2,I2,r2,q2⟩=>
    thn (ho pins s2 σ H2 x y v u _ I2 r1 r2 q2) fun d s3 ⟨z,H3,I3,r3,k,e,q3⟩=>?_)) hm
  subst e
  cases r3
  refine wpAny_truthy_bool ?_
  cases k with
  | false=>exact ite_ff ⟨.bl false,H3,I3,rfl,q3⟩
  | true=>exact ite_tt (chain_last (thn (hc pins s3 σ H3 _ I3 q3) fun w' s4 ⟨z',H4,I4,r4,q4⟩=>ho' pins s4 σ H4 y z' u w' Q I4 r2 r4 q4))
theorem xB:(sizeLine:Nat) < 2 ^ 63:=by rw [sizeLine_eq];decide
inductive xw (x:V) (y:V) (H:Hp) (Q:VK):Prop
  | mk (i j:_) (_:x = .str i) (_:y = .str j) (_:i.length + j.length <= sizeLine) (_:Q (.str (i ++ j)) H):xw x y H Q
theorem qP:OpR X (binaryOp .Add) (xw):=by
  intro pins s σ H x y v u Q I rx ry h
  obtain ⟨i,j,rfl,rfl,hz,q⟩:=h
  obtain ⟨t,rfl⟩:=rx
  obtain ⟨t',rfl⟩:=ry
  exact add_str (fun t' tk=>⟨.str (i ++ j),H,I.tok _,⟨_,rfl⟩,q⟩) hz
theorem ja {x:V} {us:List Value} (r:Vals [x] us):∃ u,us = [u] /\ RelV x u:=by
  cases r with
  | cons r1 r2=>cases r2;exact ⟨_,rfl,r1⟩
theorem vQ {x y:V} {us:List Value} (r:Vals [x,y] us):∃ u w',us = [u,w'] /\ RelV x u /\ RelV y w':=by
  cases r with
  | cons r1 r2=>
    cases r2 with
    | cons r3 r4=>cases r4;exact ⟨_,_,rfl,r1,r3⟩
inductive vJ (xs:List V) (H:Hp) (Q:VK):Prop
  | mk (i:_) (_:xs = [.int i]) (_:Q (.int (if i < 0 then -i else i)) H):vJ xs H Q
theorem yP:CallR X (.builtin "abs") (vJ):=by
  intro pins s σ H xs us Q I r h
  obtain ⟨i,rfl,q⟩:=h
  obtain ⟨u,rfl,t,rfl⟩:=ja r
  exact call_abs_int fun u tk=>⟨.int (if i < 0 then -i else i),H,I.tok _,⟨_,rfl⟩,q⟩
inductive xN (xs:List V) (H:Hp) (Q:VK):Prop
  | mk (i j:_) (_:xs = [.int i,.int j]) (_:Q (.int (if j > i then j else i)) H):xN xs H Q
theorem QS (hc:X.calm = true):CallR X (.builtin "max") (xN):=by
  intro pins s σ H xs us Q I r h
  obtain ⟨i,j,rfl,q⟩:=h
  obtain ⟨u,w',rfl,⟨t,rfl⟩,⟨t',rfl⟩⟩:=vQ r
  refine max_two_ints (I.ok.hd hc) fun h' tk k=>⟨_,H,I.kept k,?_,q⟩
  by_cases hj:j > i
  · rw [if_pos hj,if_pos hj];exact ⟨_,rfl⟩
  · rw [if_neg hj,if_neg hj];exact ⟨_,rfl⟩
theorem wj:CallR X (.type "int") (fun xs H Q=>(∃ i,xs = [.int i] /\ Q (.int i) H) \/ ∃ k,xs = [.bl k] /\ Q (.int (if k then 1 else 0)) H):=by
  intro pins s σ H xs us Q I r h
  rcases h with ⟨i,rfl,q⟩ | ⟨k,rfl,q⟩
  · obtain ⟨u,rfl,t,rfl⟩:=ja r
    exact call_int_int ⟨.int i,H,I,⟨_,rfl⟩,q⟩
  · obtain ⟨u,rfl,r1⟩:=ja r
    cases r1
    exact call_int_bool ⟨.int (if k then 1 else 0),H,I.tok _,⟨_,rfl⟩,q⟩
inductive jT (xs:List V) (H:Hp) (Q:VK):Prop
  | mk (i:_) (_:xs = [.int i]) (_:i.natAbs.log2 < 1920) (_:Q (.str (toString i)) H):jT xs H Q
theorem xu:CallR X (.type "str") (jT):=by
  intro pins s σ H xs us Q I r h
  obtain ⟨i,rfl,hz,q⟩:=h
  obtain ⟨u,rfl,t,rfl⟩:=ja r
  exact PySem.P.str_of_int hz ⟨.str _,H,I.tok _,⟨_,rfl⟩,q⟩
inductive j8 (xs:List V) (H:Hp) (Q:VK):Prop
  | mk (i j:_) (_:xs = [.int i,.int j]) (_:WD i j) (_:∀ p,H p = none -> Q (.ref p) (upd H p (.tup [.int (i / j),.int (i % j)]))):j8 xs H Q
theorem yO:CallR X (.builtin "divmod") (j8):=by
  intro pins s σ H xs us Q I r h
  obtain ⟨i,j,rfl,⟨h1,h2⟩,q⟩:=h
  obtain ⟨u,w',rfl,⟨t,rfl⟩,⟨t',rfl⟩⟩:=vQ r
  refine divmod_int (by omega) ?_ (.inl (PyProof.noPylong_small (by omega)))
  rw [Int.fdiv_eq_ediv_of_nonneg i (by omega),Int.fmod_eq_emod_of_nonneg i (by omega)]
  have hn:H s.heap.objs.size = none:=I.hok.fresh (Nat.le_refl _)
  refine ⟨.ref s.heap.objs.size,_,?_,rfl,q _ hn⟩
  refine I.laid (fun b o e=>Heap.get?_push_of_some _ e) (Nat.le_refl _) ⟨by simp only [List.length_cons,List.length_nil];rw [sizeLine_eq];decide,[.int (i / j) s.toks,.int (i % j) (s.toks + 1)],.cons ⟨_,rfl⟩ (.cons ⟨_,rfl⟩ .nil),?_⟩
  exact ⟨⟨_,Heap.get?_push_size s.heap rfl,rfl,0,rfl⟩,_,Heap.get?_push_size s.heap rfl,rfl⟩
end
structure ObjM (h:Heap) (x dx C:Addr) (mA:Str -> Option Value):Prop where
  obj:h.get? x = some (PySem.W.instObj C dx)
  ns:h.Ns1 dx mA
  ne:dx ≠ x
section
variable {prog:Program} {w:World} {A:Around} {E:Value -> Shared -> Prop} {s:Shared} {K:PySem.W.Frag} {x dx C f:Addr} {mA:Str -> Option Value} {name:Str} {v:Value}
end
section
variable {P:Program} {w:World} {H H':Hp} {h h':Heap} {a C dx:Addr} {fs fs':List (Str × V)}
end
structure Cls (K:PySem.W.Frag) (C:Addr):Prop where
  pg:PySem.W.plainGet K C Str.empty = true
  hd:PySem.W.hasDictIn K C = true
  po:PySem.W.plainOver K C = true
  sa:PySem.W.findIn K (.ref C) "__setattr__" = some (some (.builtin "object.__setattr__"))
theorem Cls.get {K:PySem.W.Frag} {C:Addr} (c:Cls K C) (f:Str):PySem.W.plainGet K C f = true:=c.pg
structure Con (K:PySem.W.Frag) (C:Addr) (f:Str) (v:V) (u:Value):Prop where
  at_:PySem.W.findIn K (.ref C) f = some (some u)
  rel:RelV v u
  get:PySem.W.specialIn K u "__get__" = some none
  cp:PySem.W.copiedNames.contains f = false
structure Meth (K:PySem.W.Frag) (C:Addr) (m:Str) (f:Addr):Prop where
  at_:PySem.W.findIn K (.ref C) m = some (some (.ref f))
  fn:PySem.W.isFn K (.ref f) = true
  kp:PySem.W.keepIn K (.ref f) = true
section
variable {X:Cx} {pins:List (Addr × Obj)} {σ:St} {H:Hp} {s:Shared} {a C dx:Addr} {fs:List (Str × V)} {f:Str} {v:V} {A:Around} {E:Value -> Shared -> Prop}
theorem Inv.made (I:Inv X pins σ H s):Inv X pins σ (upd (upd H s.heap.objs.size (.own (s.heap.objs.size + 1))) (s.heap.objs.size + 1) (.ins C s.heap.objs.size []))
    { s with heap:=(s.heap.push PySem.W.emptyDict).push (PySem.W.instObj C s.heap.objs.size) }:=by
  have e1:(s.heap.push PySem.W.emptyDict).get? s.heap.objs.size = some PySem.W.emptyDict:=Heap.get?_push_size s.heap rfl
  have e2:((s.heap.push PySem.W.emptyDict).push (PySem.W.instObj C s.heap.objs.size)).get? (s.heap.objs.size + 1) = some (PySem.W.instObj C s.heap.objs.size):=by
    have:=Heap.get?_push_size (s.heap.push PySem.W.emptyDict) (o:=PySem.W.instObj C s.heap.objs.size) rfl
    rwa [Heap.size_push] at this
  have e3:(s.heap.push PySem.W.emptyDict).Ns s.heap.objs.size (fun _=>none):=⟨PySem.W.emptyDict,#[],_,e1,rfl,(fun e he=>absurd he (by simp)),fun _=>rfl⟩
  have I1:=I.laid (a:=s.heap.objs.size) (o:=.own (s.heap.objs.size + 1)) (h':=s.heap.push PySem.W.emptyDict) (t':=s.toks) (fun b u q=>Heap.get?_push_of_some _ q) (Nat.le_refl _) ⟨_,e1⟩
  refine I1.laid (a:=s.heap.objs.size + 1) (o:=.ins C s.heap.objs.size []) (t':=s.toks) (fun b u q=>Heap.get?_push_of_some _ q) (Nat.le_of_eq (Heap.size_push _ _)) ?_
  have ne:s.heap.objs.size ≠ s.heap.objs.size + 1:=Nat.ne_of_lt (Nat.lt_succ_self _)
  refine ⟨by rw [zv ne,zd],Nat.zero_le _,ne,e2,fun _=>none,(Heap.Ns1.of_empty e3).at fun o q=>Heap.get?_push_of_some _ q,fun _=>True.intro,fun y hy=>absurd rfl hy⟩
end
section
variable {X:Cx} {o e value:Expr} {f:Str} {pos pos' tpos:Pos} {ta tv:TE}
end
section
variable {X:Cx} {pins:List (Addr × Obj)} {σ:St} {H:Hp} {s:Shared} {A:Around} {E:Value -> Shared -> Prop} {Q:Value -> Shared -> Prop} {c:Value} {b:Bool}
inductive vI (K:PySem.W.Frag) (H:Hp):V -> Value -> Prop where
  | non:vI K H .non (.type "NoneType")
  | bl (x:Bool):vI K H (.bl x) (.type "bool")
  | int (i:Int):vI K H (.int i) (.type "int")
  | str (x:Str):vI K H (.str x) (.type "str")
  | flt (x:UInt64):vI K H (.flt x) (.type "float")
  | lst {a:Addr} {xs:List V} (e:H a = some (.lst xs)):vI K H (.ref a) (.type "list")
  | frz {a:Addr} {o:Obj} {xs:List V} (e:H a = some (.frz o (.lst xs))):vI K H (.ref a) (.type "list")
  | tup {a:Addr} {xs:List V} (e:H a = some (.tup xs)):vI K H (.ref a) (.type "tuple")
  | dK {a:Addr} {kvs:List (Key × V)} (e:H a = some (.dK kvs)):vI K H (.ref a) (.type "dict")
  | dT {a:Addr} {kvs:List (List Key × V)} (e:H a = some (.dT kvs)):vI K H (.ref a) (.type "dict")
  | ins {a C dx:Addr} {fs:List (Str × V)} (e:H a = some (.ins C dx fs)) (cl:Cls K C) (ha:PySem.W.findIn K (.ref C) "__class__" = some (some (.builtin "object.__class__")))
      (hn:PySem.W.specialIn K (.builtin "object.__class__") "__get__" = some (some (.builtin "getset_descriptor.__get__"))) (htk:PySem.W.takesIn K (.builtin "object.__class__") = some true)
      (hm:PySem.W.mroIn K C (.type "object") = some true):vI K H (.ref a) (.ref C)
end
structure Room (k:Nat) (A:Around):Prop where
  hd:A.handled = none
  dp:A.depth + 3 * k + 5 < recursionLimit
  un:A.units + 16 * k + 200 < cLine
  gd:A.guards = some []
theorem Room.mono {j k:Nat} {A:Around} (r:Room k A) (h:j <= k):Room j A:=⟨r.hd,by have:=r.dp;omega,by have:=r.un;omega,r.gd⟩
theorem Room.deeper {k:Nat} {A:Around} (r:Room (k + 1) A) (env:Env):Room k (A.deeper env):=
  ⟨r.hd,by have:=r.dp;show A.depth + 1 + 3 * k + 5 < _;omega,by have:=r.un;show A.units + 3 + 16 * k + 200 < _;omega,r.gd⟩
theorem Room.in1 {k:Nat} {A:Around} (r:Room (k + 1) A):Room k A.in1:=
  ⟨r.hd,by have:=r.dp;show A.depth + 3 * k + 5 < _;omega,by have:=r.un;show A.units + 1 + 16 * k + 200 < _;omega,r.gd⟩
theorem Room.depth {k:Nat} {A:Around} (r:Room k A):A.depth < recursionLimit:=by have:=r.dp;omega
theorem Room.units {k:Nat} {A:Around} (r:Room k A):A.units + 64 < cLine:=by have:=r.un;omega
theorem Room.units0 {k:Nat} {A:Around} (r:Room k A):A.units < cLine:=by have:=r.un;omega
def wz:TA:=fun _ H Q=>Q [] H
def zL (ta:TE) (tr:TA):TA:=fun σ H Q=>ta σ H fun x H1=>tr σ H1 fun xs H2=>Q (x :: xs) H2
section
variable {X:Cx} {e:Expr} {es:List Expr} {te:TE} {t:TA} {pos:Pos}
theorem zb:PA X [] wz:=fun _ _ _ _ H Q I h=>Calls.spliced_nil ⟨[],H,I,.nil,h⟩
theorem za (ha:PE X e te) (hr:PA X es t) (hs:starEach (e :: es) X.env = (false,eval e X.env) :: starEach es X.env:=by rfl):PA X (e :: es) (zL te t):=by
  intro pos pins s σ H Q I h
  rw [hs]
  show wpAny _ _ (spliced ((false,eval e X.env) :: backTo pos (starEach es X.env))) _ _ s
  refine Calls.spliced_cons (thn (ha pins s σ H _ I h) fun u s1 ⟨x,H1,I1,r1,q1⟩=>?_)
  exact thn (hr pos pins s1 σ H1 _ I1 q1) fun us s2 ⟨xs,H2,I2,r2,q2⟩=>⟨x :: xs,H2,I2,.cons r1 r2,q2⟩
def Xi (t:TA):TE:=fun σ H Q=>t σ H fun xs H1=>xs.length <= sizeLine /\ ∀ p,H1 p = none -> Q (.ref p) (upd H1 p (.tup xs))
def Qx (t:TA):TE:=fun σ H Q=>t σ H fun xs H1=>xs.length <= sizeLine /\ ∀ p,H1 p = none -> Q (.ref p) (upd H1 p (.lst xs))
theorem zw {x1} (h:PA X es t):PE X (.Tuple es x1 pos) (Xi t):=by
  intro pins s σ H Q I hq
  refine wpAny_Tuple_spliced (thn (h pos pins s σ H _ I hq) fun us s1 ⟨xs,H1,I1,r,z,q⟩=>⟨by rw [<- r.length];exact z,?_⟩)
  have hf:H1 s1.heap.objs.size = none:=I1.hok.fresh (Nat.le_refl _)
  refine ⟨.ref s1.heap.objs.size,upd H1 s1.heap.objs.size (.tup xs),I1.laid (t':=s1.toks) (fun b u e=>Heap.get?_push_of_some _ e) (Nat.le_refl _) ?_,rfl,q _ hf⟩
  exact ⟨z,us,r,⟨_,Heap.get?_push_size _ rfl,rfl,_,rfl⟩,_,Heap.get?_push_size _ rfl,rfl⟩
theorem zZ (h:PA X es t):PE X (.List es pos) (Qx t):=by
  intro pins s σ H Q I hq
  refine wpAny_List_spliced (thn (h pos pins s σ H _ I hq) fun us s1 ⟨xs,H1,I1,r,z,q⟩=>⟨by rw [<- r.length];exact z,?_⟩)
  have hf:H1 s1.heap.objs.size = none:=I1.hok.fresh (Nat.le_refl _)
  refine ⟨.ref s1.heap.objs.size,upd H1 s1.heap.objs.size (.lst xs),I1.laid (t':=s1.toks) (fun b u e=>Heap.get?_push_of_some _ e) (Nat.le_refl _) ?_,rfl,q _ hf⟩
  exact ⟨z,us,0,r,Heap.get?_push_size _ rfl⟩
end
abbrev Sp:=List V -> Hp -> VK -> XK -> Prop
abbrev CXT:=List Env -> Hp -> Shared -> XK -> Value -> Shared -> Prop
structure Env0 (P:Program) (w:World) (K:PySem.W.Frag) (mg:Str -> Option Value) (base:Heap) (A:Around) (outer:List Env) (s:Shared) (H:Hp):Prop where
  frames:A.frames = some outer
  mod:Mod K mg base
  bs:∀ b o,base.get? b = some o -> s.heap.get? b = some o /\ H b = none
  bsz:base.objs.size <= s.heap.objs.size
  funs:s.heap.FunFrames base outer
  frf:∀ b ∈ frs outer,H b = none
  hok:HOk P w H s.heap
  bare:AllBare s.gens
def CE (outer:List Env) (P:Program) (w:World) (H:Hp) (s:Shared) (Q:VK) (u:Value) (s':Shared):Prop:=
  ∃ v H',s'.os = s.os /\ AllBare s'.gens /\ Un (frs outer) [] H H' s.heap s'.heap /\ HOk P w H' s'.heap /\ RelV v u /\ Q v H'
def CR (CX:CXT) (outer:List Env) (P:Program) (w:World) (H:Hp) (s:Shared) (Q:VK) (E:XK) (r:Result) (s':Shared):Prop:=
  match r with
  | .ok (.ret u)=>CE outer P w H s Q u s'
  | .ok _=>False
  | .error e=>CX outer H s E e s'
structure FnOk (P:Program) (w:World) (K:PySem.W.Frag) (mg:Str -> Option Value) (base:Heap) (CX:CXT) (k:Nat) (f:Addr) (fd:FuncData) (ps:List Str) (sp:Sp):Prop where
  len:∀ vs H Q E,sp vs H Q E -> vs.length = ps.length
  run:∀ (A:Around) (outer:List Env) (s:Shared) (H:Hp) (args:Args) (us:List Value) (vs:List V) (Q:VK) (E:XK),Room k A -> Env0 P w K mg base A outer s H -> BindsTo s fd args (ps.zip us) -> Vals vs us -> sp vs H Q E ->
    codeAny (model P w) A (.call (.ref f) args) (CR CX outer P w H s Q E) s
theorem FnOk.mono {P:Program} {w:World} {K:PySem.W.Frag} {mg:Str -> Option Value} {base:Heap} {CX:CXT} {j k:Nat} {f:Addr} {fd:FuncData} {ps:List Str} {sp:Sp} (F:FnOk P w K mg base CX j f fd ps sp) (h:j <= k) :
    FnOk P w K mg base CX k f fd ps sp:=⟨F.len,fun A outer s H args us vs Q E hr=>F.run A outer s H args us vs Q E (hr.mono h)⟩
theorem Env0.in1 {P:Program} {w:World} {K:PySem.W.Frag} {mg:Str -> Option Value} {base:Heap} {A:Around} {outer:List Env} {s:Shared} {H:Hp} (e:Env0 P w K mg base A outer s H) :
    Env0 P w K mg base A.in1 outer s H:=⟨e.frames,e.mod,e.bs,e.bsz,e.funs,e.frf,e.hok,e.bare⟩
section
variable {X:Cx} {pins:List (Addr × Obj)} {σ:St} {H:Hp} {s s':Shared}
theorem Inv.env0 (I:Inv X pins σ H s):Env0 X.prog X.w X.K X.mg X.base X.A X.stack s H:=
  ⟨I.ok.frames,I.ok.mod,I.bs,Nat.le_trans I.ok.bsz I.sz,I.stack,I.stkFree,I.hok,I.bare⟩
theorem Inv.after {Q:VK} {u:Value} (I:Inv X pins σ H s) (h:CE X.stack X.prog X.w H s Q u s'):EP X pins σ Q u s':=by
  obtain ⟨v,H',os,bare,un,hok,r,q⟩:=h
  obtain ⟨hh,g,d,t,os'⟩:=s'
  obtain rfl:os' = s.os:=os
  exact ⟨v,H',I.call (h':=hh) (g':=g) (d':=d) (t':=t) (ch:=[]) un hok bare (fun b z=>absurd z (by simp)),r,q⟩
end
def X6 (sp:Sp) (dvs:List V) (E:XK) (t:TA):TE:=fun σ H Q=>t σ H fun vs H1=>sp (vs ++ dvs) H1 Q E
def Binds (K:PySem.W.Frag) (fd:FuncData) (ps:List Str) (ds:List Value):Prop:=
  ∀ (s:Shared) (us:List Value),K.In s.heap -> (us ++ ds).length = ps.length -> BindsTo s fd ⟨us,[]⟩ (ps.zip (us ++ ds))
theorem Binds.all {K:PySem.W.Frag} {fd:FuncData} {ps:List Str} (h:∀ us:List Value,us.length = ps.length -> bindArgs fd ⟨us,[]⟩ = pure (ps.zip us)):Binds K fd ps []:=fun s us _ hl=>by
  rw [List.append_nil] at hl ⊢
  exact .of_eq (h us hl)
def Zu (CX:CXT) (X:Cx) (E:XK):Prop:=∀ (pins:List (Addr × Obj)) (σ:St) (H:Hp) (s:Shared) (e:Value) (s':Shared),Inv X pins σ H s -> CX X.stack H s E e s' -> X.xe e s'
section
variable {X:Cx} {CX:CXT} {k:Nat} {f C:Addr} {fd:FuncData} {ps:List Str} {sp:Sp} {dvs:List V} {ds:List Value} {E:XK} {x m:Str} {p pos apos:Pos} {e o:Expr} {es:List Expr} {ta:TE} {t:TA}
theorem Vs {pins:List (Addr × Obj)} {σ:St} {H:Hp} {s:Shared} {Q:VK} {us:List Value} {vs:List V} (F:FnOk X.prog X.w X.K X.mg X.base CX k f fd ps sp) (hr:Room k X.A) (hb:Binds X.K fd ps ds) (hd:Vals dvs ds) (hx:Zu CX X E)
    (I:Inv X pins σ H s) (r:Vals vs us) (h:sp (vs ++ dvs) H Q E):wpAny (model X.prog X.w) X.A (call (.ref f) us) (EP X pins σ Q) X.xe s:=by
  have r2:Vals (vs ++ dvs) (us ++ ds):=r.append hd
  have hl:(us ++ ds).length = ps.length:=by rw [<- r2.length];exact F.len _ _ _ _ h
  refine wpAny_call (codeAny_mono (F.run X.A X.stack s H ⟨us,[]⟩ (us ++ ds) (vs ++ dvs) Q E hr I.env0 (hb s us I.kIn hl) r2 h) fun r s' hq=>?_)
  cases r with
  | error e=>exact hx pins σ H s e s' I hq
  | ok fl=>
    cases fl with
    | ret u=>exact I.after hq
    | next=>exact False.elim hq
    | brk=>exact False.elim hq
    | cont=>exact False.elim hq
theorem Xv (F:FnOk X.prog X.w X.K X.mg X.base CX k f fd ps sp) (hr:Room k X.A) (hg:Gl X x) (hm:X.mg x = some (.ref f)) (hk:PySem.W.keepIn X.K (.ref f) = true) (hb:Binds X.K fd ps ds) (hd:Vals dvs ds) (hx:Zu CX X E)
    (ha:PA X (e :: es) t) (hdb:(x == ("__debug__" : Str)) = false:=by decide) (he:starEach (e :: es) X.env = (false,eval e X.env) :: starEach es X.env:=by rfl) (hpl:(backTo pos (starEach es X.env)).any (·.1) = false:=by rfl) :
    PE X (.Call (.Name x p) (e :: es) [] pos) (X6 sp dvs E t):=by
  intro pins s σ H Q I h
  refine wpAny_Call_Name_kw (XT I hg hm ?_ hdb)
  refine PySem.W.callWith_K (h₀:=X.base) I.ok.mod.kin hk (thn (ha pos pins s σ H _ I h) fun us s1 ⟨vs,H1,I1,r,q⟩=>⟨I1.kIn,?_⟩) he hpl
  exact Vs F hr hb hd hx I1 r q
structure Mk (K:PySem.W.Frag) (C f:Addr):Prop where
  makes:PySem.W.makesIn K C = true
  init:PySem.W.findIn K (.ref C) "__init__" = some (some (.ref f))
  fn:PySem.W.isFn K (.ref f) = true
  kp:PySem.W.keepIn K (.ref C) = true
end
section
variable {X:Cx} {CX:CXT} {k:Nat} {f C:Addr} {fd:FuncData} {ps ks:List Str} {sp:Sp} {E:XK} {x m:Str} {p pos apos kpos:Pos} {e o:Expr} {es:List Expr} {kws:List Keyword} {te ta:TE} {t tk:TA} {nm:Option Str}
structure KBinds (K:PySem.W.Frag) (fd:FuncData) (ps ks:List Str) (g:List Value -> List Value -> List Value) (gV:List V -> List V -> List V):Prop where
  to:∀ (s:Shared) (us ws:List Value),K.In s.heap -> (g us ws).length = ps.length -> BindsTo s fd ⟨us,ks.zip ws⟩ (ps.zip (g us ws))
  rel:∀ {vs:List V} {us:List Value} {zs:List V} {ws:List Value},Vals vs us -> Vals zs ws -> Vals (gV vs zs) (g us ws)
variable {g:List Value -> List Value -> List Value} {gV:List V -> List V -> List V}
end
structure zG (N P:List Str) (sc:Scope):Prop where
  kind:sc.kind = .function
  co:sc.isCoroutine = false
  gen:sc.isGenerator = false
  nd:N.Nodup
  pre:N.take P.length = P
  par:∀ x ∈ P,sc.names.lookup x = some .local \/ sc.names.lookup x = some .cell
  nofree:∀ y ∈ sc.names,y.2 ≠ .free
theorem wl {kindOf:Str -> Option NameKind} {x:Str}:∀ {binds:List (Str × Value)} {m:Str -> Option Value},(∀ v,(x,v) ∉ binds) -> bindL kindOf binds m x = m x
  | [],_,_=>rfl
  | (n,v) :: r,m,h=>by
    unfold bindL
    rw [wl fun w hw=>h w (List.mem_cons_of_mem _ hw)]
    split
    · have:x ≠ n:=by rintro rfl;exact h v List.mem_cons_self
      simp [this]
    · rfl
theorem wn {kindOf:Str -> Option NameKind} {x:Str}:∀ {binds:List (Str × Value)} {m:Str -> Option Value},(∀ v,(x,v) ∉ binds) -> bindC kindOf binds m x = m x
  | [],_,_=>rfl
  | (n,v) :: r,m,h=>by
    unfold bindC
    rw [wn fun w hw=>h w (List.mem_cons_of_mem _ hw)]
    split
    · rfl
    · have:x ≠ n:=by rintro rfl;exact h v List.mem_cons_self
      simp [this]
theorem wm {kindOf:Str -> Option NameKind} {x:Str} {v:Value}:∀ {P:List Str} {vs:List Value} {i:Nat} {m:Str -> Option Value},P.Nodup -> P[i]? = some x -> vs[i]? = some v -> kindOf x = some .local ->
    bindL kindOf (P.zip vs) m x = some v
  | [],_,_,_,_,h,_,_=>by simp at h
  | _ :: _,[],_,_,_,_,h,_=>by simp at h
  | p :: P,w :: vs,0,m,nd,h1,h2,hk=>by
    simp at h1 h2;subst h1;subst h2
    show bindL kindOf ((p,w) :: P.zip vs) m p = _
    unfold bindL
    rw [wl fun v hv=>(List.nodup_cons.mp nd).1 (List.of_mem_zip hv).1,if_pos hk]
    simp
  | p :: P,w :: vs,i + 1,m,nd,h1,h2,hk=>by
    show bindL kindOf ((p,w) :: P.zip vs) m x = _
    unfold bindL
    exact wm (i:=i) (List.nodup_cons.mp nd).2 (by simpa using h1) (by simpa using h2) hk
theorem wo {kindOf:Str -> Option NameKind} {x:Str} {v:Value}:∀ {P:List Str} {vs:List Value} {i:Nat} {m:Str -> Option Value},P.Nodup -> P[i]? = some x -> vs[i]? = some v -> kindOf x ≠ some .local ->
    bindC kindOf (P.zip vs) m x = some v
  | [],_,_,_,_,h,_,_=>by simp at h
  | _ :: _,[],_,_,_,_,h,_=>by simp at h
  | p :: P,w :: vs,0,m,nd,h1,h2,hk=>by
    simp at h1 h2;subst h1;subst h2
    show bindC kindOf ((p,w) :: P.zip vs) m p = _
    unfold bindC
    rw [wn fun v hv=>(List.nodup_cons.mp nd).1 (List.of_mem_zip hv).1,if_neg hk]
    simp
  | p :: P,w :: vs,i + 1,m,nd,h1,h2,hk=>by
    show bindC kindOf ((p,w) :: P.zip vs) m x = _
    unfold bindC
    exact wo (i:=i) (List.nodup_cons.mp nd).2 (by simpa using h1) (by simpa using h2) hk
def xF (N:List Str) (vs:List V):St:=vs.map some ++ List.replicate (N.length - vs.length) none
def Zq (CX:CXT) (P:Program) (w:World) (K:PySem.W.Frag) (mg:Str -> Option Value) (base:Heap) (N:List Str) (qual:Str) (scope:Scope) (f:Addr) (cd:Value) (A:Around) (outer:List Env) (s:Shared) (H:Hp) (E:XK):Cx where
  prog:=P
  w:=w
  K:=K
  mg:=mg
  base:=base
  A:=A.deeper (envOfC qual scope s.heap.objs.size f cd)
  N:=N
  s₀:=s
  H₀:=H
  env:=envOfC qual scope s.heap.objs.size f cd
  outer:=outer
  stack:=envOfC qual scope s.heap.objs.size f cd :: outer
  ex:=[]
  calm:=true
  fn:=fun _=>true
  pn:=[]
  xe:=fun e s'=>wpAny (model P w) (A.deeper (envOfC qual scope s.heap.objs.size f cd)) (leaving (envOfC qual scope s.heap.objs.size f cd) e) (fun _ s''=>CX outer H s E e s'') (fun e' s''=>CX outer H s E e' s'') s'
theorem yN {sc:Scope} {n:Nat} {x:Str} (h:sc.names.lookup x = some .cell):∃ c,(cellsFrom n sc.names []).lookup x = some c:=by
  have q:=PySem.W.cellsFrom_some sc.names n [] (.inl h)
  exact Option.isSome_iff_exists.mp q
theorem QN {CX:CXT} {P:Program} {w:World} {K:PySem.W.Frag} {mg:Str -> Option Value} {base:Heap} {N ps:List Str} {qual:Str} {scope:Scope} {f:Addr} {cd:Value} {A:Around} {outer:List Env} {s s1:Shared} {H:Hp} {E:XK} {us:List Value} {vs:List V}
    (S:zG N ps scope) (hd:A.handled = none) (e0:Env0 P w K mg base A outer s H) (hl:vs.length = ps.length) (r:Vals vs us)
    (x:InCallC s s.heap.objs.size (bindL (envOfC qual scope s.heap.objs.size f cd).kindOf (ps.zip us) fun _=>none) (cellsFrom (s.heap.objs.size + 1) scope.names []) (bindC (envOfC qual scope s.heap.objs.size f cd).kindOf (ps.zip us) fun _=>none) s1) :
    Inv (Zq CX P w K mg base N qual scope f cd A outer s H E) [] (xF N vs) H s1:=by
  have hpl:ps.length <= N.length:=by have:=congrArg List.length S.pre;rw [List.length_take] at this;omega
  obtain ⟨h1,tk,rfl,hk⟩:=x.done
  have noA:∀ b:Addr,b ∉ (Zq CX P w K mg base N qual scope f cd A outer s H E).ex:=fun b z=>absurd (show b ∈ ([]:List Addr) from z) (by simp)
  refine ⟨⟨e0.mod,S.kind,rfl,rfl,Nat.le_refl _,fun y z c h1 h2=>?_,fun y hy=>?_,fun y c _ h=>?_,fun _=>hd,Around.frames_deeper e0.frames,.inr ⟨rfl,rfl⟩,fun b z=>absurd z (noA b),e0.bs,e0.bsz,fun b _ _=>noA b,fun b z=>absurd z (noA b),e0.funs,e0.frf⟩,
    rfl,e0.bare,Un.kept hk,⟨_,x.toInCall.ns,fun i y v h1 h2 h3=>?_⟩,fun y c h=>⟨_,x.cell y c h⟩,e0.hok.fresh (Nat.le_refl _),fun y c h=>?_,fun p hp=>absurd (show p ∈ ([]:List (Addr × Obj)) from hp) (by simp),e0.hok.kept hk,?_⟩
  · exact name_of_addr x.apart (PySem.mem_of_lookup h1) (PySem.mem_of_lookup h2)
  · have hy:scope.names.lookup y = some .cell \/ scope.names.lookup y = some .free:=hy
    rcases hy with hy | hy
    · exact yN hy
    · exact absurd rfl (S.nofree _ (PySem.mem_of_lookup hy))
  · exact Nat.le_of_lt (x.above y c (PySem.mem_of_lookup h))
  · have hi:i < vs.length:=by
      unfold xF at h2
      by_cases hi:i < vs.length
      · exact hi
      · rw [List.getElem?_append_right (by simpa using hi)] at h2
        rw [List.getElem?_replicate] at h2
        split at h2 <;> cases h2
    have ha:vs[i]? = some v:=by
      unfold xF at h2
      rw [List.getElem?_append_left (by simpa using hi),List.getElem?_map] at h2
      cases e:vs[i]? with
      | none=>rw [e] at h2;cases h2
      | some a=>rw [e] at h2;cases h2;rfl
    obtain ⟨u,hu,rv⟩:=r.get ha
    have hp:ps[i]? = some y:=by
      rw [<- S.pre,List.getElem?_take_of_lt (by omega)];exact h1
    have ndP:ps.Nodup:=by rw [<- S.pre];exact S.nd.sublist (List.take_sublist _ _)
    refine ⟨u,rv,?_⟩
    rcases S.par y (List.mem_of_getElem? hp) with k | k
    · exact .inl ⟨k,wm ndP hp hu k⟩
    · obtain ⟨c,e⟩:=yN (n:=s.heap.objs.size + 1) k
      refine .inr ⟨.inl k,c,e,?_⟩
      have q:=x.cell y c e
      rw [wo ndP hp hu (by show scope.names.lookup y ≠ _;rw [k];decide)] at q
      exact q
  · exact e0.hok.fresh (Nat.le_of_lt (x.above y c (PySem.mem_of_lookup h)))
  · unfold xF
    show _ = N.length
    rw [List.length_append,List.length_map,List.length_replicate]
    omega
theorem Wv {CX:CXT} {P:Program} {w:World} {K:PySem.W.Frag} {mg:Str -> Option Value} {base:Heap} {k:Nat} {f:Addr} {name qual:Str} {params:Arguments} {body:List Stmt} {scope:Scope} {dV kV doc pm cdv ct oc:Value} {an od:Option Addr}
    {osl:Array (Option Value)} {N ps:List Str} {sp:Sp} (lk:K.lookup f = some ⟨oc,od,.func (PySem.W.fnOf name qual params body scope dV kV doc pm an cdv ct),osl⟩) (hcd:PySem.W.codeIn K cdv qual = true) (S:zG N ps scope)
    (len:∀ vs H Q E,sp vs H Q E -> vs.length = ps.length)
    (hbody:∀ (A:Around) (outer:List Env) (s:Shared) (H:Hp) (vs:List V) (Q:VK) (E:XK),Room k (A.deeper (envOfC qual scope s.heap.objs.size f cdv)) -> sp vs H Q E ->
      ∃ t,PSs (Zq CX P w K mg base N qual scope f cdv A outer s H E) body t /\ t { nx:=fun _ H'=>Q .non H',rt:=Q } (xF N vs) H) :
    FnOk P w K mg base CX (k + 1) f (PySem.W.fnOf name qual params body scope dV kV doc pm an cdv ct) ps sp:=by
  refine ⟨len,fun A outer s H args us vs Q E hr e0 hb r hsp=>?_⟩
  have hl:=len _ _ _ _ hsp
  have KX:K.In s.heap:=e0.mod.kin.keeps fun b o e=>(e0.bs b o e).1
  have lim:s.heap.NoLimit:=e0.mod.nolimit.keeps fun b o e=>(e0.bs b o e).1
  have hkind:∀ y ∈ ps.zip us,scope.names.lookup y.1 = some .local \/ (scope.names.lookup y.1 = some .cell /\ ((cellsFrom (s.heap.objs.size + 1) scope.names []).lookup y.1).isSome = true):=fun ⟨n,v⟩ hy=>by
    rcases S.par n (List.of_mem_zip hy).1 with q | q
    · exact .inl q
    · exact .inr ⟨q,PySem.W.cellsFrom_some _ _ _ (.inl q)⟩
  refine codeAny_call_function hr.depth (KX _ _ lk) rfl S.co S.gen rfl (PySem.W.codeRec_of KX hcd) (hb _ _ _ _ ?_)
  refine wpAny_newFunctionEnv_cells S.kind hkind fun env he s1 x=>?_
  subst he
  refine ⟨lim.keeps x.toInCall.keep,codeAny_func ?_⟩
  obtain ⟨t,ht,hq⟩:=hbody A outer s H vs Q E (hr.deeper _) hsp
  have I:Inv (Zq CX P w K mg base N qual scope f cdv A outer s H E) [] (xF N vs) H s1:=QN S hr.hd e0 hl r x
  refine wpAny_mono (ht [] s1 (xF N vs) H _ I hq) (fun fl s' hs=>?_) fun e s' hs=>hs
  have fin:∀ {σ':St} {H':Hp} {v:V} {u:Value},Inv (Zq CX P w K mg base N qual scope f cdv A outer s H E) [] σ' H' s' -> RelV v u -> Q v H' -> CE outer P w H s Q u s':=
    fun {σ' H' v u} J rv q=>⟨v,H',J.os,J.bare,J.base,J.hok,rv,q⟩
  cases fl with
  | ret u=>
    obtain ⟨v,σ',H',J,rv,q⟩:=hs
    exact fin J rv q
  | next=>
    obtain ⟨σ',H',J,q⟩:=hs
    exact fin (v:=V.non) (u:=Value.none) J rfl q
  | brk=>
    obtain ⟨_,_,_,q⟩:=hs
    exact False.elim q
  | cont=>
    obtain ⟨_,_,_,q⟩:=hs
    exact False.elim q
section
variable {X:Cx} {x:Str} {p pos:Pos} {e:Expr} {es:List Expr} {t:TA} {id T:String} {r:List V -> Hp -> VK -> Prop}
def tCB (r:List V -> Hp -> VK -> Prop) (t:TA):TE:=fun σ H Q=>t σ H fun vs H1=>r vs H1 Q
theorem zi (hc:CallR X (.builtin id) r) (hg:Gl X x) (hm:X.mg x = none) (hv:bootBuiltins x = some (.builtin id)) (ha:PA X (e :: es) t) (hn:x ≠ "__name__" :=by decide) (hdb:(x == ("__debug__" : Str)) = false:=by decide)
    (he:starEach (e :: es) X.env = (false,eval e X.env) :: starEach es X.env:=by rfl) (hpl:(backTo pos (starEach es X.env)).any (·.1) = false:=by rfl):PE X (.Call (.Name x p) (e :: es) [] pos) (tCB r t):=by
  intro pins s σ H Q I h
  refine wpAny_Call_Name_kw (jQ I hg hm hv ?_ hn hdb)
  exact PyProof.Rows.callWith_builtin1 (thn (ha pos pins s σ H _ I h) fun us s1 ⟨vs,H1,I1,r1,q1⟩=>hc pins s1 σ H1 vs us Q I1 r1 q1) he hpl
theorem zV (hc:CallR X (.type T) r) (hg:Gl X x) (hm:X.mg x = none) (hv:bootBuiltins x = some (.type T)) (ha:PA X (e :: es) t) (hn:x ≠ "__name__" :=by decide) (hdb:(x == ("__debug__" : Str)) = false:=by decide)
    (he:starEach (e :: es) X.env = (false,eval e X.env) :: starEach es X.env:=by rfl) (hpl:(backTo pos (starEach es X.env)).any (·.1) = false:=by rfl):PE X (.Call (.Name x p) (e :: es) [] pos) (tCB r t):=by
  intro pins s σ H Q I h
  refine wpAny_Call_Name_kw (jQ I hg hm hv ?_ hn hdb)
  exact PyProof.Rows.callWith_type1 (thn (ha pos pins s σ H _ I h) fun us s1 ⟨vs,H1,I1,r1,q1⟩=>hc pins s1 σ H1 vs us Q I1 r1 q1) he hpl
end
end L2
namespace HT
open PySem PyProof.Rows
section
open PySem.SeqAt
open PySem.AutoSeq1 (wpAny_loadPart')
open PySem.MeetsSeq PySem.MeetsSeq2 PySem.MeetsSeq3
end
section
variable {prog:Program} {w:World} {A:Around} {E:Value -> Shared -> Prop} {s:Shared}
theorem cat_tup {t b:Addr} {vs ws:List Value} {Q:Value -> Shared -> Prop} (ht:IsTup s.heap t vs.toArray) (hb:IsTup s.heap b ws.toArray) (hv:vs ≠ [])
    (h1:ws = [] -> Q (.ref t) s) (h2:ws ≠ [] -> Q (.ref s.heap.objs.size) { s with heap:=s.heap.push { cls:=.type "tuple",data:=.seq (vs ++ ws).toArray } })
    (hsz:vs.length + ws.length <= sizeLine):wpAny (model prog w) A (binaryOp .Add (.ref t) (.ref b)) Q E s:=by
  obtain ⟨⟨cls,dd,data,sl⟩,ho,hc,n,hd⟩:=id ht
  obtain ⟨⟨cls2,dd2,data2,sl2⟩,ho2,hc2,n2,hd2⟩:=id hb
  simp only at hc hd hc2 hd2
  subst hc hd hc2 hd2
  have e:vs.toArray ++ ws.toArray = (vs ++ ws).toArray:=by simp
  by_cases hw:ws = []
  · exact concat_meets ⟨_,ho,rfl⟩ ⟨_,ho2,rfl⟩ noFill_tuple_add seq_tuple_add PySem.F.slot_tuple_add PySem.F.entry_tuple_add (PySem.F.args_tuple_add_2 _ _)
      (tuple_addW1 t b vs.toArray ws.toArray n n2 dd dd2 sl sl2 (by simpa using hv) (by simp [hw])) ⟨ho,ho2,h1 hw⟩
  · refine concat_meets ⟨_,ho,rfl⟩ ⟨_,ho2,rfl⟩ noFill_tuple_add seq_tuple_add PySem.F.slot_tuple_add PySem.F.entry_tuple_add (PySem.F.args_tuple_add_2 _ _)
      (tuple_addW2 t b vs.toArray ws.toArray n n2 dd dd2 sl sl2 (by simpa using hv) (by simpa using hw) (by rw [List.size_toArray,List.size_toArray];exact hsz)) ⟨ho,ho2,?_⟩
    rw [e]
    exact h2 hw
def sIx (n d:Nat):Option Int -> Nat
  | none=>d
  | some v=>if v < 0 then (v + (n:Int)).toNat else min v.toNat n
theorem sIx_none (n d:Nat):sIx n d none = d:=rfl
theorem sIx_nat (n d k:Nat):sIx n d (some (k:Int)) = min k n:=by
  show (if (k:Int) < 0 then ((k:Int) + (n:Int)).toNat else min (k:Int).toNat n) = min k n
  rw [if_neg (by omega),Int.toNat_natCast]
theorem Vr (n d:Nat) (hd:d <= n) (o:Option Int):sIx n d o <= n:=by
  cases o with
  | none=>exact hd
  | some v=>
    show (if v < 0 then (v + (n:Int)).toNat else min v.toNat n) <= n
    by_cases hv:v < 0
    · rw [if_pos hv];omega
    · rw [if_neg hv];exact Nat.min_le_right _ _
theorem Z6 (v:Int) (n d:Nat):(if v < 0 then max (v + (n:Int)) 0 else min v (n:Int)) = ((sIx n d (some v):Nat):Int):=by
  show (if v < 0 then max (v + (n:Int)) 0 else min v (n:Int)) = (((if v < 0 then (v + (n:Int)).toNat else min v.toNat n):Nat):Int)
  by_cases hv:v < 0
  · simp only [if_pos hv];omega
  · simp only [if_neg hv];omega
theorem Zt (lo hi:Option Int) (n:Nat):Builtin.Slice.sliceAdjust lo hi 1 (n:Int) = (((sIx n 0 lo:Nat):Int),((sIx n n hi:Nat):Int)):=by
  have h1:¬ ((1:Int) < 0):=by omega
  unfold Builtin.Slice.sliceAdjust
  simp only [h1,if_false]
  refine Prod.ext ?_ ?_
  · cases lo with
    | none=>rfl
    | some v=>exact Z6 v n 0
  · cases hi with
    | none=>rfl
    | some v=>exact Z6 v n n
theorem Zh (i j:Nat):Builtin.Slice.slicePlaces (i:Int) (j:Int) 1 = j - i:=by
  unfold Builtin.Slice.slicePlaces
  have h1:(1:Int) > 0:=by omega
  simp only [h1,if_true,Int.ediv_one]
  split <;> omega
theorem vi {v:Value} {o:Option Int} {Q:Option Int -> Shared -> Prop} (p:IsPart v o) (h:Q o s):wpAny (model prog w) A (Builtin.Slice.slicePartIndex v) Q E s:=by
  cases p with
  | none=>exact slicePart_none h
  | int i t=>exact slicePart_int h
theorem sliceApplied_gen {sl:Addr} {vl vu:Value} {lo hi:Option Int} {n:Nat} {Q:Int × Int × Nat -> Shared -> Prop} (hs:s.heap.IsSliceOf sl vl vu .none) (pl:IsPart vl lo) (pu:IsPart vu hi)
    (h:Q (((sIx n 0 lo:Nat):Int),1,sIx n n hi - sIx n 0 lo) s):wpAny (model prog w) A (Builtin.Slice.sliceApplied (.ref sl) (pure (n:Int))) Q E s:=by
  obtain ⟨os,hos,hcs,hds⟩:=id hs
  unfold Builtin.Slice.sliceApplied Builtin.Slice.sliceFields
  refine wpAny_bind (wpAny_bind (wpAny_field hos hds (x:=vl) rfl (wpAny_bind (wpAny_field hos hds (x:=vu) rfl (wpAny_bind (wpAny_field hos hds (x:=.none) rfl (wpAny_pure ?_)))))))
  refine wpAny_bind (slicePart_none ?_)
  show wpAny _ _ (if ((1:Int) == 0) = true then _ else _) _ _ s
  rw [if_neg (by decide)]
  refine wpAny_bind (vi pl (wpAny_bind (vi pu (wpAny_bind (wpAny_pure ?_)))))
  show wpAny _ _ (match Builtin.Slice.sliceAdjust lo hi 1 (n:Int) with | (lo,hi)=>pure (lo,(1:Int),Builtin.Slice.slicePlaces lo hi 1)) _ _ s
  rw [Zt lo hi n]
  show wpAny _ _ (pure (((sIx n 0 lo:Nat):Int),(1:Int),Builtin.Slice.slicePlaces ((sIx n 0 lo:Nat):Int) ((sIx n n hi:Nat):Int) 1)) _ _ s
  rw [Zh]
  exact wpAny_pure h
theorem Js (xs:Array Value) (i k:Nat):((List.range k).filterMap fun (m:Nat)=>xs[((i:Int) + (m:Int) * 1).toNat]?).toArray = ((xs.toList.drop i).take k).toArray:=by
  have e:(fun (m:Nat)=>xs[((i:Int) + (m:Int) * 1).toNat]?) = fun m=>xs[i + m]?:=by
    funext m
    have:((i:Int) + (m:Int) * 1).toNat = i + m:=by omega
    rw [this]
  rw [e]
  have:=pick_run xs i k
  rw [List.filterMap_map] at this
  have e2:((fun x=>xs[x]?) ∘ fun x=>i + x) = fun m=>xs[i + m]?:=rfl
  rw [e2] at this
  rw [this]
theorem getItem_tuple_cut {t sl:Addr} {items:Array Value} {vl vu:Value} {lo hi:Option Int} {Q:Value -> Shared -> Prop} (ht:IsTup s.heap t items) (hs:s.heap.IsSliceOf sl vl vu .none) (pl:IsPart vl lo) (pu:IsPart vu hi)
    (hw:¬ (sIx items.size 0 lo = 0 /\ sIx items.size items.size hi = items.size))
    (h:Q (.ref s.heap.objs.size) { s with heap:=s.heap.push { cls:=.type "tuple",data:=.seq ((items.toList.drop (sIx items.size 0 lo)).take (sIx items.size items.size hi - sIx items.size 0 lo)).toArray } })
    (hsz:items.size <= sizeLine):wpAny (model prog w) A (getItem (.ref t) (.ref sl)) Q E s:=by
  have htake:sizeOk (.seq ((items.toList.drop (sIx items.size 0 lo)).take (sIx items.size items.size hi - sIx items.size 0 lo)).toArray):=by
    show ((items.toList.drop (sIx items.size 0 lo)).take (sIx items.size items.size hi - sIx items.size 0 lo)).toArray.size <= sizeLine
    rw [List.size_toArray,List.length_take,List.length_drop,Array.length_toList]
    omega
  have hj:sIx items.size items.size hi <= items.size:=Vr _ _ (Nat.le_refl _) hi
  obtain ⟨os,hos,hcs,hds⟩:=id hs
  have hTs:s.TypeIs (.ref sl) "slice" :=⟨os,hos,hcs⟩
  unfold getItem
  try with_reducible refine wpAny_holding ?_
  first | refine wpAny_bind (wpAny_pure ?_) | skip
  refine wpAny_bind (wpAny_sequenceKey ht.typeIs (by decide) ?_)
  refine wpAny_bind (wpAny_callSpecial?_slot (name:=Str.ofString "__getitem__") ht.typeIs PyProof.Rows.slot_tuple_getitem
    (wpAny_call_entry PyProof.Rows.slot_tuple_getitem ht.typeIs entry_tuple_getitem ?_ (args_tuple_getitem _ _)))
  show wpAny _ _ (Builtin.Tuple.tupleItemsOf (.ref t) >>= _) _ _ s
  refine wpAny_bind (tupleItemsOf_ ht ?_)
  refine wpAny_bind (wpAny_typeOf hTs ?_)
  rw [if_pos (by decide)]
  refine wpAny_bind (sliceApplied_gen hs pl pu ?_)
  have hno:¬ ((((sIx items.size 0 lo:Nat):Int) == 0 && (1:Int) == 1 && (sIx items.size items.size hi - sIx items.size 0 lo) == items.size) = true):=by
    intro q
    rw [Bool.and_eq_true,Bool.and_eq_true] at q
    have q1:((sIx items.size 0 lo:Nat):Int) = 0:=eq_of_beq q.1.1
    have q2:sIx items.size items.size hi - sIx items.size 0 lo = items.size:=eq_of_beq q.2
    exact hw ⟨by omega,by omega⟩
  show wpAny _ _ (if (((sIx items.size 0 lo:Nat):Int) == 0 && (1:Int) == 1 && (sIx items.size items.size hi - sIx items.size 0 lo) == items.size) = true then _ else _) _ _ s
  rw [if_neg hno,Js]
  first
    | exact wpAny_bind (m:=Builtin.Tuple.tupleExact _) (wpAny_newObj_type (wpAny_pure ⟨_,rfl,wpAny_pure h⟩) htake)
    | exact wpAny_bind (m:=Builtin.Tuple.tupleExact _) (wpAny_newObj_type (wpAny_bind (wpAny_pure (wpAny_pure ⟨_,rfl,wpAny_pure h⟩))) htake)
    | exact wpAny_bind (wpAny_bind (m:=Builtin.Tuple.tupleExact _) (wpAny_newObj_type (wpAny_pure (wpAny_pure ⟨_,rfl,wpAny_pure h⟩)) htake))
    | exact wpAny_bind (wpAny_bind (m:=Builtin.Tuple.tupleExact _) (wpAny_newObj_type (wpAny_pure ⟨_,rfl,wpAny_pure h⟩) htake))
end
end HT
namespace L2
open PySem PySem.Spec PyProof.Rows
abbrev TO:=St -> Hp -> (Option Int -> Hp -> Prop) -> Prop
def PO (X:Cx) (e:Option Expr) (t:TO):Prop:=
  ∀ (pins:List (Addr × Obj)) (s:Shared) (σ:St) (H:Hp) (Q:Option Int -> Hp -> Prop),Inv X pins σ H s -> t σ H Q ->
    wpAny (model X.prog X.w) X.A (evalPart e X.env) (fun u s'=>∃ o H',Inv X pins σ H' s' /\ IsPart u o /\ Q o H') X.xe s
def Xj:TO:=fun _ H Q=>Q none H
def V3 (t:TE):TO:=fun σ H Q=>t σ H fun x H1=>IsI x H1 fun i H1=>Q (some i) H1
theorem vz {ns:List Int}:∀ {us:List Value},Vals (ns.map V.int) us -> IntsAre us ns:=by
  induction ns with
  | nil=>intro us r;rw [List.map_nil] at r;cases r;exact .nil
  | cons n ns ih=>
    intro us r
    rw [List.map_cons] at r
    cases r with
    | cons r1 r2=>
      obtain ⟨t,e⟩:=r1
      subst e
      exact .cons n t (ih r2)
section
variable {X:Cx} {e:Expr} {te:TE} {lo hi:Option Expr} {tl th:TO} {pos p2:Pos}
theorem zT:PO X none Xj:=by
  intro pins s σ H Q I h
  rw [evalPart_none]
  exact wpAny_pure ⟨none,H,I,.none,h⟩
theorem zD (h:PE X e te):PO X (some e) (V3 te):=by
  intro pins s σ H Q I hw
  rw [evalPart_some]
  refine thn (h pins s σ H _ I hw) fun u s1 ⟨x,H1,I1,r1,q1⟩=>?_
  obtain ⟨i,rfl,q⟩:=q1
  obtain ⟨t,rfl⟩:=r1
  exact ⟨some i,H1,I1,.int i t,q⟩
def SlR (X:Cx) (r:V -> Option Int -> Option Int -> Hp -> VK -> Prop):Prop:=
  ∀ (pins:List (Addr × Obj)) (s:Shared) (σ:St) (H:Hp) (x:V) (v vl vu:Value) (lo hi:Option Int) (sl:Addr) (Q:VK),Inv X pins σ H s -> RelV x v -> s.heap.IsSliceOf sl vl vu .none -> IsPart vl lo -> IsPart vu hi -> r x lo hi H Q ->
    ∃ T id,typeLookup (.type T) "__getitem__" = pure (some (.builtin id)) /\ s.TypeIs v T /\ wpAny (model X.prog X.w) X.A (getItem v (.ref sl)) (EP X pins σ Q) X.xe s
theorem SlR.or {r r':V -> Option Int -> Option Int -> Hp -> VK -> Prop} (h:SlR X r) (h':SlR X r'):SlR X (fun x lo hi H Q=>r x lo hi H Q \/ r' x lo hi H Q):=by
  intro pins s σ H x v vl vu lo hi sl Q I rx hs pl pu q
  rcases q with q | q
  · exact h pins s σ H x v vl vu lo hi sl Q I rx hs pl pu q
  · exact h' pins s σ H x v vl vu lo hi sl Q I rx hs pl pu q
def tSl (r:V -> Option Int -> Option Int -> Hp -> VK -> Prop) (te:TE) (tl th:TO):TE:=fun σ H Q=>te σ H fun x H1=>tl σ H1 fun l H2=>th σ H2 fun u H3=>r x l u H3 Q
theorem zC {r:V -> Option Int -> Option Int -> Hp -> VK -> Prop} (hr:SlR X r) (he:PE X e te) (hl:PO X lo tl) (hu:PO X hi th):PE X (.Subscript e (.Slice lo hi none p2) pos) (tSl r te tl th):=by
  intro pins s σ H Q I h
  refine Subscript_ (thn (he pins s σ H _ I h) fun v s1 ⟨x,H1,I1,r1,q1⟩=>?_)
  refine wpAny_Slice (thn (hl pins s1 σ H1 _ I1 q1) fun vl s2 ⟨l,H2,I2,pl,q2⟩=>thn (hu pins s2 σ H2 _ I2 q2) fun vu s3 ⟨u,H3,I3,pu,q3⟩=>?_)
  rw [evalPart_none]
  refine wpAny_pure ?_
  have I4:Inv X pins σ H3 { s3 with heap:=s3.heap.push { cls:=.type "slice",data:=.fields #[vl,vu,.none] } }:=I3.kept (t':=s3.toks) fun b ob q=>Heap.get?_push_of_some _ q
  obtain ⟨T,id,hT,ht,hg⟩:=hr pins { s3 with heap:=s3.heap.push { cls:=.type "slice",data:=.fields #[vl,vu,.none] } } σ H3 x v vl vu l u s3.heap.objs.size Q I4 r1 (Heap.IsSliceOf.new ..) pl pu q3
  show wpAny (model X.prog X.w) X.A (subscriptTail e (.Slice lo hi none p2) v (.ref s3.heap.objs.size)) (EP X pins σ Q) X.xe { s3 with heap:=s3.heap.push { cls:=.type "slice",data:=.fields #[vl,vu,.none] } }
  exact tail_any (ops:=[.ref s3.heap.objs.size,v]) ht hT hg (by with_unfolding_all rfl)
def qg (xs:List V) (lo hi:Option Int):List V:=(xs.drop (HT.sIx xs.length 0 lo)).take (HT.sIx xs.length xs.length hi - HT.sIx xs.length 0 lo)
theorem jm (xs:List V) (lo hi:Option Int):(qg xs lo hi).length <= xs.length:=by
  unfold qg
  rw [List.length_take,List.length_drop]
  omega
inductive Wd (K:PySem.W.Frag) (x:V) (lo:Option Int) (hi:Option Int) (H:Hp) (Q:VK):Prop
  | mk (a xs:_) (_:x = .ref a) (_:SqT K H a xs) (_:¬ (HT.sIx xs.length 0 lo = 0 /\ HT.sIx xs.length xs.length hi = xs.length)) (_:∀ p,H p = none -> Q (.ref p) (upd H p (.tup (qg xs lo hi)))):Wd K x lo hi H Q
theorem Vo:SlR X (Wd X.K):=by
  intro pins s σ H x v vl vu lo hi sl Q I rx hs pl pu h
  obtain ⟨a,xs,rfl,hx,hw,q⟩:=h
  cases rx
  obtain ⟨its,r,ht,hz⟩:=I.tuple hx
  have hlen:its.toArray.size = xs.length:=by rw [List.size_toArray];exact r.length.symm
  refine ⟨"tuple",_,PyProof.Rows.slot_tuple_getitem.lookup,ht.typeIs,?_⟩
  refine HT.getItem_tuple_cut ht hs pl pu (by rw [hlen];exact hw) ?_ (by rw [hlen];exact hz)
  rw [hlen]
  refine ⟨.ref s.heap.objs.size,_,I.laid (t':=s.toks) (o:=.tup (qg xs lo hi)) (fun b ob q=>Heap.get?_push_of_some _ q) (Nat.le_refl _) ?_,rfl,q _ (I.hok.fresh (Nat.le_refl _))⟩
  exact ⟨Nat.le_trans (jm xs lo hi) hz,_,(r.drop (HT.sIx xs.length 0 lo)).take (HT.sIx xs.length xs.length hi - HT.sIx xs.length 0 lo),⟨IsTup.new _ _,_,Heap.get?_push_size _ rfl,rfl⟩⟩
inductive Vg (K:PySem.W.Frag) (x:V) (y:V) (H:Hp) (Q:VK):Prop
  | mk (a b xs ys:_) (_:x = .ref a) (_:y = .ref b) (_:SqT K H a xs) (_:SqT K H b ys) (_:xs ≠ []) (_:xs.length + ys.length <= sizeLine) (_:(ys = [] -> Q (.ref a) H)) (_:(ys ≠ [] -> ∀ p,H p = none -> Q (.ref p) (upd H p (.tup (xs ++ ys))))):Vg K x y H Q
theorem Vals.nil_iff {xs:List V} {us:List Value} (r:Vals xs us):us = [] ↔ xs = []:=by
  cases r with
  | nil=>simp
  | cons _ _=>simp
theorem Xz:OpR X (binaryOp .Add) (Vg X.K):=by
  intro pins s σ H x y v u Q I rx ry h
  obtain ⟨a,b,xs,ys,rfl,rfl,ha,hb,hx,hz,q1,q2⟩:=h
  cases rx
  cases ry
  obtain ⟨its,r1,p1,_⟩:=I.tuple ha
  obtain ⟨its2,r2,p2,_⟩:=I.tuple hb
  refine HT.cat_tup p1 p2 (fun z=>hx (r1.nil_iff.mp z)) (fun z=>⟨.ref a,H,I,rfl,q1 (r2.nil_iff.mp z)⟩) (fun z=>?_) (by rw [<- r1.length,<- r2.length];exact hz)
  refine ⟨.ref s.heap.objs.size,_,I.laid (t':=s.toks) (o:=.tup (xs ++ ys)) (fun b ob q=>Heap.get?_push_of_some _ q) (Nat.le_refl _) ?_,rfl,q2 (fun w=>z (r2.nil_iff.mpr w)) _ (I.hok.fresh (Nat.le_refl _))⟩
  exact ⟨by rw [List.length_append];exact hz,_,r1.append r2,⟨IsTup.new _ _,_,Heap.get?_push_size _ rfl,rfl⟩⟩
end
def ixN (n:Nat) (i:Int):Option Nat:=if 0 <= i then (if i < n then some i.toNat else none) else if -(n:Int) <= i then some (i + n).toNat else none
def atI {α:Type} (xs:List α) (i:Int):Option α:=(ixN xs.length i).bind fun j=>xs[j]?
theorem ZZ {n:Nat} {i:Int} {j:Nat} (h:ixN n i = some j):seqIndex? i n = some j /\ j < n /\ -(n:Int) <= i /\ i < n:=by
  unfold ixN at h
  by_cases h0:0 <= i
  · rw [if_pos h0] at h
    by_cases h1:i < n
    · rw [if_pos h1] at h
      have e:i.toNat = j:=Option.some.inj h
      exact ⟨by rw [seqIndex_of h0 h1,e],by omega,by omega,h1⟩
    · rw [if_neg h1] at h;cases h
  · rw [if_neg h0] at h
    by_cases h1:-(n:Int) <= i
    · rw [if_pos h1] at h
      have e:(i + n).toNat = j:=Option.some.inj h
      exact ⟨by rw [seqIndex_neg (by omega) h1,e],by omega,h1,by omega⟩
    · rw [if_neg h1] at h;cases h
theorem wR {α:Type} {xs:List α} {i:Int} {v:α} (h:atI xs i = some v):∃ j,seqIndex? i xs.length = some j /\ xs[j]? = some v /\ j < xs.length /\ -(xs.length:Int) <= i /\ i < xs.length:=by
  unfold atI at h
  cases e:ixN xs.length i with
  | none=>rw [e] at h;cases h
  | some j=>
    rw [e] at h
    obtain ⟨h1,h2,h3,h4⟩:=ZZ e
    exact ⟨j,h1,h,h2,h3,h4⟩
theorem jH {α:Type} {xs:List α} {j:Nat} {v:α} (h:xs[j]? = some v):atI xs (j:Int) = some v:=by
  have hj:j < xs.length:=(List.getElem?_eq_some_iff.mp h).1
  have e:ixN xs.length (j:Int) = some j:=by
    unfold ixN
    rw [if_pos (by omega),if_pos (by omega)];simp
  unfold atI;rw [e];exact h
def X4 (b:Expr):Prop:=∀ o i,subscripted b false o i = operate [o,i] (getItem o i)
def IxR (X:Cx) (r:R2):Prop:=
  ∀ (value slice:Expr) (pins:List (Addr × Obj)) (s:Shared) (σ:St) (H:Hp) (x y:V) (v u:Value) (Q:VK),Inv X pins σ H s -> RelV x v -> RelV y u -> r x y H Q ->
    subscripted slice false v u = operate [v,u] (getItem v u) -> wpAny (model X.prog X.w) X.A (subscriptTail value slice v u) (EP X pins σ Q) X.xe s
def MtR (X:Cx) (id:String) (r:V -> List V -> Hp -> VK -> Prop):Prop:=
  ∀ (pins:List (Addr × Obj)) (s:Shared) (σ:St) (H:Hp) (x:V) (xs:List V) (v:Value) (us:List Value) (Q:VK),Inv X pins σ H s -> RelV x v -> Vals xs us -> r x xs H Q ->
    wpAny (model X.prog X.w) X.A (call (.builtin id) (v :: us)) (EP X pins σ Q) X.xe s
section
variable {X:Cx} {a b:Expr} {ta tb:TE} {pos:Pos}
theorem IxR.or {r r':R2} (h:IxR X r) (h':IxR X r'):IxR X (fun x y H Q=>r x y H Q \/ r' x y H Q):=by
  intro value slice pins s σ H x y v u Q I rx ry q hs
  rcases q with q | q
  · exact h value slice pins s σ H x y v u Q I rx ry q hs
  · exact h' value slice pins s σ H x y v u Q I rx ry q hs
theorem MtR.or {id:String} {r r':V -> List V -> Hp -> VK -> Prop} (h:MtR X id r) (h':MtR X id r'):MtR X id (fun x xs H Q=>r x xs H Q \/ r' x xs H Q):=by
  intro pins s σ H x xs v us Q I rx rs q
  rcases q with q | q
  · exact h pins s σ H x xs v us Q I rx rs q
  · exact h' pins s σ H x xs v us Q I rx rs q
theorem zP {r:R2} (hr:IxR X r) (ha:PE X a ta) (hb:PE X b tb) (hs:X4 b):PE X (.Subscript a b pos) (tOp r ta tb):=by
  intro pins s σ H Q I h
  exact Subscript_ (VX ha hb I h fun v u s2 x y H2 I2 rx ry q=>hr a b pins s2 σ H2 x y v u Q I2 rx ry q (hs _ _))
inductive Xq (K:PySem.W.Frag) (x:V) (y:V) (H:Hp) (Q:VK):Prop
  | mk (p xs i v:_) (_:x = .ref p) (_:y = .int i) (_:SqL K H p xs) (_:atI xs i = some v) (_:Q v H):Xq K x y H Q
inductive Xp (K:PySem.W.Frag) (x:V) (y:V) (H:Hp) (Q:VK):Prop
  | mk (p xs i v:_) (_:x = .ref p) (_:y = .int i) (_:SqT K H p xs) (_:atI xs i = some v) (_:Q v H):Xp K x y H Q
inductive Vv (x:V) (y:V) (H:Hp) (Q:VK):Prop
  | mk (z i c:_) (_:x = .str z) (_:y = .int i) (_:z.length <= sizeLine) (_:atI z.cps.toList i = some c) (_:Q (.str ⟨#[c]⟩) H):Vv  x y H Q
theorem j3:IxR X (Xq X.K):=by
  intro value slice pins s σ H x y v u Q I rx ry h hs
  obtain ⟨p,xs,i,z,rfl,rfl,hq,he,q⟩:=h
  cases rx
  obtain ⟨t,rfl⟩:=ry
  obtain ⟨its,r,pl,hz⟩:=I.list hq
  obtain ⟨j,h1,h2,h3,h4,h5⟩:=wR he
  obtain ⟨w,ew,rw'⟩:=r.get h2
  have hl:=r.length
  have hn:=xB
  have fin:EP X pins σ Q w s:=⟨z,H,I,rw',q⟩
  by_cases h0:0 <= i
  · have hj:i.toNat = j:=by
      rw [seqIndex_of h0 h5] at h1
      exact Option.some.inj h1
    exact item_listR pl.isList h0 (by omega) (by rw [hj];simpa using ew) fin hs
  · have hj:(i + (its.toArray.size:Int)).toNat = j:=by
      rw [seqIndex_neg (by omega) h4] at h1
      rw [List.size_toArray,<- hl]
      exact Option.some.inj h1
    exact subscriptTail_builtinR (x:=w) pl.isList.typeIs slot_list_getitem.lookup
      (wpAny_getItem_list_neg (Q:=fun r s'=>r = w /\ EP X pins σ Q r s') pl.isList (by omega) (by rw [List.size_toArray] <;> omega) (by omega) (by rw [hj];simpa using ew) ⟨rfl,fin⟩) hs
theorem qy:IxR X (Xp X.K):=by
  intro value slice pins s σ H x y v u Q I rx ry h hs
  obtain ⟨p,xs,i,z,rfl,rfl,hq,he,q⟩:=h
  cases rx
  obtain ⟨t,rfl⟩:=ry
  obtain ⟨its,r,pl,hz⟩:=I.tuple hq
  obtain ⟨j,h1,h2,h3,h4,h5⟩:=wR he
  obtain ⟨w,ew,rw'⟩:=r.get h2
  have hl:=r.length
  have hn:=xB
  have fin:EP X pins σ Q w s:=⟨z,H,I,rw',q⟩
  exact subscriptTail_builtinR (x:=w) pl.typeIs slot_tuple_getitem.lookup
    (getItem_tuple (j:=j) (Q:=fun r s'=>r = w /\ EP X pins σ Q r s') pl (by omega) (by omega) (by rw [List.size_toArray,<- hl];exact h1) (by simpa using ew) ⟨rfl,fin⟩) hs
theorem Zm:IxR X Vv:=by
  intro value slice pins s σ H x y v u Q I rx ry h hs
  obtain ⟨z,i,c,rfl,rfl,hz,he,q⟩:=h
  obtain ⟨t,rfl⟩:=rx
  obtain ⟨t',rfl⟩:=ry
  obtain ⟨j,h1,h2,h3,h4,h5⟩:=wR he
  have hl:z.cps.toList.length = z.length:=by simp [Str.length]
  rw [hl] at h1 h4 h5
  have hn:=xB
  exact tail_any (typeIs_str s z t) slot_str_getitem.lookup (getItem_str (c:=c) (by
    have e1:decide (i < -(2 ^ 63:Int)) = false:=decide_eq_false (by omega)
    have e2:decide (i ≥ 2 ^ 63) = false:=decide_eq_false (by omega)
    rw [e1,e2,Bool.or_false]) (by rw [h1];simpa using h2) ⟨.str ⟨#[c]⟩,H,I.tok _,⟨_,rfl⟩,q⟩) hs
def rIx (K:PySem.W.Frag):R2:=fun x y H Q=>Xq K x y H Q \/ Xp K x y H Q \/ Vv x y H Q
theorem VT:IxR X (rIx X.K):=j3.or (qy.or Zm)
theorem Zk (its:List Value) (n j:Nat) (u:Value):Obj.mapSeq (·.setIfInBounds j u) { cls:=.type "list",data:=.seq its.toArray n } = { cls:=.type "list",data:=.seq (its.set j u).toArray n }:=by
  simp [Obj.mapSeq]
theorem Inv.lst {pins:List (Addr × Obj)} {σ:St} {H:Hp} {s:Shared} {p:Addr} {xs:List V} (I:Inv X pins σ H s) (h:H p = some (.lst xs)) :
    ∃ (its:List Value) (n:Nat),Vals xs its /\ s.heap.get? p = some { cls:=.type "list",data:=.seq its.toArray n } /\ xs.length <= sizeLine:=by
  obtain ⟨z,its,n,r,e⟩:=I.hok p _ h
  exact ⟨its,n,r,e,z⟩
theorem Inv.lstUpd {pins:List (Addr × Obj)} {σ:St} {H:Hp} {s:Shared} {p:Addr} {xs ys:List V} {its its':List Value} {n n':Nat} {f:Obj -> Obj} (I:Inv X pins σ H s) (h:H p = some (.lst xs))
    (ho:s.heap.get? p = some { cls:=.type "list",data:=.seq its.toArray n }) (hf:f { cls:=.type "list",data:=.seq its.toArray n } = { cls:=.type "list",data:=.seq its'.toArray n' }) (r:Vals ys its') (hz:ys.length <= sizeLine) (t:Nat) :
    Inv X pins σ (upd H p (.lst ys)) { s with heap:=s.heap.update p f,toks:=t }:=by
  have e:(s.heap.update p f).get? p = some { cls:=.type "list",data:=.seq its'.toArray n' }:=by
    rw [Heap.get?_update_self f ho (by rw [hf] <;> rfl),hf]
  refine I.write (x:=p) (e:=p) (by rw [h];trivial) (.inl rfl) (fun b u hb q=>(Heap.get?_update_other _ _ (Ne.symm hb)).trans q) ⟨_,e⟩ ?_
  exact ⟨hz,its',n',r,e⟩
inductive Vf (o:V) (i:V) (v:V) (H:Hp) (Q:Hp -> Prop):Prop
  | mk (p xs k j:_) (_:o = .ref p) (_:i = .int k) (_:H p = some (.lst xs)) (_:ixN xs.length k = some j) (_:Q (upd H p (.lst (xs.set j v)))):Vf  o i v H Q
theorem xn:Wz X Vf:=by
  intro pins s σ H o i v ov iv u Q I ro ri rv h
  obtain ⟨p,xs,k,j,rfl,rfl,hp,hj,q⟩:=h
  cases ro
  obtain ⟨t,rfl⟩:=ri
  obtain ⟨its,n,r,ho,hz⟩:=I.lst hp
  obtain ⟨h1,h2,h3,h4⟩:=ZZ hj
  have hl:=r.length
  have hn:=xB
  have I':Inv X pins σ (upd H p (.lst (xs.set j v))) { s with heap:=s.heap.update p (Obj.mapSeq (·.setIfInBounds j u)) }:=
    I.lstUpd hp ho (Zk its n j u) (r.set rv j) (by rw [List.length_set];exact hz) s.toks
  by_cases h0:0 <= k
  · have hk:k.toNat = j:=by
      rw [seqIndex_of h0 h4] at h1
      exact Option.some.inj h1
    exact PySem.W.ki_setAt ho h0 (by omega) (by rw [List.size_toArray,<- hl];exact h4) (by rw [hk];exact ⟨_,I',q⟩)
  · have hk:(k + (its.toArray.size:Int)).toNat = j:=by
      rw [seqIndex_neg (by omega) h3] at h1
      rw [List.size_toArray,<- hl]
      exact Option.some.inj h1
    exact PySem.W.ki_setBack ho (by omega) (by rw [List.size_toArray,<- hl];exact h3) (by omega) (by rw [hk];exact ⟨_,I',q⟩)
theorem wG (lo hi:Option Int) (n:Nat):(sliceBounds lo hi none n).1 = ((HT.sIx n 0 lo:Nat):Int) /\ (sliceBounds lo hi none n).2.1 = ((HT.sIx n n hi:Nat):Int) /\ (sliceBounds lo hi none n).2.2 = 1:=by
  refine ⟨?_,?_,rfl⟩
  · cases lo with
    | none=>simp [sliceBounds,HT.sIx]
    | some i=>
      simp only [sliceBounds,HT.sIx,Option.getD_none,show (1:Int) > 0 by decide,if_true]
      by_cases h:i < 0
      · simp only [h,if_true] <;> omega
      · simp only [h,if_false] <;> omega
  · cases hi with
    | none=>simp [sliceBounds,HT.sIx]
    | some i=>
      simp only [sliceBounds,HT.sIx,Option.getD_none,show (1:Int) > 0 by decide,if_true]
      by_cases h:i < 0
      · simp only [h,if_true] <;> omega
      · simp only [h,if_false] <;> omega
theorem vK (its:List Value) (lo hi:Option Int):slicePick its.toArray lo hi none = ((its.drop (HT.sIx its.length 0 lo)).take (HT.sIx its.length its.length hi - HT.sIx its.length 0 lo)).toArray:=by
  obtain ⟨h1,h2,h3⟩:=wG lo hi its.toArray.size
  unfold slicePick
  rw [h1,h2,h3]
  simp only [sliceRange_one,pick_run,List.size_toArray] <;> rfl
inductive Vu (K:PySem.W.Frag) (x:V) (lo:Option Int) (hi:Option Int) (H:Hp) (Q:VK):Prop
  | mk (a xs:_) (_:x = .ref a) (_:SqL K H a xs) (_:∀ p,H p = none -> Q (.ref p) (upd H p (.lst (qg xs lo hi)))):Vu K x lo hi H Q
theorem qG:SlR X (Vu X.K):=by
  intro pins s σ H x v vl vu lo hi sl Q I rx hs pl pu h
  obtain ⟨a,xs,rfl,hx,q⟩:=h
  cases rx
  obtain ⟨its,r,ht,hz⟩:=I.list hx
  have hlen:=r.length
  refine ⟨"list",_,slot_list_getitem.lookup,ht.isList.typeIs,?_⟩
  refine wpAny_getItem_list_slice ht.isList hs pl pu .none (by simp) ?_ (by rw [List.size_toArray] <;> omega)
  rw [vK,<- hlen]
  refine ⟨.ref s.heap.objs.size,_,I.laid (t':=s.toks) (o:=.lst (qg xs lo hi)) (fun b ob q=>Heap.get?_push_of_some _ q) (Nat.le_refl _) ?_,rfl,q _ (I.hok.fresh (Nat.le_refl _))⟩
  exact ⟨Nat.le_trans (jm xs lo hi) hz,_,0,(r.drop (HT.sIx xs.length 0 lo)).take (HT.sIx xs.length xs.length hi - HT.sIx xs.length 0 lo),Heap.get?_push_size _ rfl⟩
def jl:V -> Bool
  | .non=>true
  | .bl _=>true
  | .int _=>true
  | .str _=>true
  | _=>false
def eqV:V -> V -> Bool
  | .non,.non=>true
  | .bl a,.bl b=>a == b
  | .bl a,.int b=>(if a then 1 else 0) == b
  | .int a,.bl b=>a == (if b then 1 else 0)
  | .int a,.int b=>a == b
  | .str a,.str b=>a == b
  | _,_=>false
theorem Zp {A:Around} {s:Shared} {y x:V} {u v:Value} (ry:RelV y u) (rx:RelV x v) (fy:jl y = true) (fx:jl x = true):SeqAt.EqAt A s u v (eqV y x):=by
  cases y with
  | non=>
    cases ry
    cases x with
    | non=>cases rx;exact SeqAt.EqAt.same _
    | bl b=>cases rx;exact SeqAt.EqAt.none_bool b
    | int b=>obtain ⟨t,rfl⟩:=rx;exact SeqAt.EqAt.none_int b t
    | str b=>obtain ⟨t,rfl⟩:=rx;exact SeqAt.EqAt.none_str b t
    | _=>exact absurd (show false = true from fx) Bool.false_ne_true
  | bl a=>
    cases ry
    cases x with
    | non=>cases rx;exact SeqAt.EqAt.bool_none a
    | bl b=>cases rx;exact SeqAt.EqAt.bool_bool a b
    | int b=>obtain ⟨t,rfl⟩:=rx;exact SeqAt.EqAt.bool_int a b t
    | str b=>obtain ⟨t,rfl⟩:=rx;exact SeqAt.EqAt.bool_str a b t
    | _=>exact absurd (show false = true from fx) Bool.false_ne_true
  | int a=>
    obtain ⟨t',rfl⟩:=ry
    cases x with
    | non=>cases rx;exact SeqAt.EqAt.int_none a t'
    | bl b=>cases rx;exact SeqAt.EqAt.int_bool a t' b
    | int b=>obtain ⟨t,rfl⟩:=rx;exact SeqAt.EqAt.int_int a t' b t
    | str b=>obtain ⟨t,rfl⟩:=rx;exact SeqAt.EqAt.int_str a t' b t
    | _=>exact absurd (show false = true from fx) Bool.false_ne_true
  | str a=>
    obtain ⟨t',rfl⟩:=ry
    cases x with
    | non=>cases rx;exact SeqAt.EqAt.str_none a t'
    | bl b=>cases rx;exact SeqAt.EqAt.str_bool a t' b
    | int b=>obtain ⟨t,rfl⟩:=rx;exact SeqAt.EqAt.str_int a t' b t
    | str b=>obtain ⟨t,rfl⟩:=rx;exact SeqAt.EqAt.str_str a t' b t
    | _=>exact absurd (show false = true from fx) Bool.false_ne_true
  | _=>exact absurd (show false = true from fy) Bool.false_ne_true
def eqU (x:V) (u:Value):Bool:=match u with
  | .none=>eqV .non x
  | .bool b=>eqV (.bl b) x
  | .int i _=>eqV (.int i) x
  | .str z _=>eqV (.str z) x
  | _=>false
theorem JX {x y:V} {u:Value} (r:RelV y u) (f:jl y = true):eqU x u = eqV y x:=by
  cases y with
  | non=>cases r;rfl
  | bl b=>cases r;rfl
  | int i=>obtain ⟨t,rfl⟩:=r;rfl
  | str z=>obtain ⟨t,rfl⟩:=r;rfl
  | _=>exact absurd (show false = true from f) Bool.false_ne_true
theorem wS {x:V}:∀ {xs:List V} {us:List Value},Vals xs us -> xs.all jl = true -> us.any (eqU x) = xs.any fun y=>eqV y x
  | _,_,.nil,_=>rfl
  | y :: xs,u :: us,.cons r t,f=>by
    rw [List.all_cons,Bool.and_eq_true] at f
    rw [List.any_cons,List.any_cons,JX r f.1,wS t f.2]
theorem vy {A:Around} {s:Shared} {x:V} {v:Value} (rx:RelV x v) (fx:jl x = true):∀ {xs:List V} {us:List Value},Vals xs us -> xs.all jl = true -> ∀ u ∈ us,SeqAt.EqAt A s u v (eqU x u)
  | _,_,.nil,_=>fun u hu=>by cases hu
  | y :: xs,u :: us,.cons r t,f=>fun u' hu=>by
    rw [List.all_cons,Bool.and_eq_true] at f
    rcases List.mem_cons.mp hu with rfl | hu
    · rw [JX r f.1];exact Zp r rx f.1 fx
    · exact vy rx fx t f.2 u' hu
def inV (x:V) (xs:List V):Bool:=xs.any fun y=>eqV y x
inductive rIn (K:PySem.W.Frag) (neg:Bool) (x:V) (y:V) (H:Hp) (Q:VK):Prop
  | mk (p xs:_) (_:y = .ref p) (_:(SqL K H p xs \/ SqT K H p xs)) (_:jl x = true) (_:xs.all jl = true) (_:Q (.bl (if neg then !inV x xs else inV x xs)) H):rIn K neg x y H Q
theorem QH:OpR X (compareOp .In) (rIn X.K false):=by
  intro pins s σ H x y v u Q I rx ry h
  obtain ⟨p,xs,rfl,hq,fx,fs,q⟩:=h
  cases ry
  rcases hq with hq | hq
  · obtain ⟨its,r,pl,hz⟩:=I.list hq
    refine SeqAt.in_listAt (eqU x) pl.isList (fun w hw=>vy rx fx r fs w (by simpa using hw)) ⟨.bl _,H,I,rfl,?_⟩
    rw [show its.toArray.any (eqU x) = its.any (eqU x) by simp,wS r fs]
    exact q
  · obtain ⟨its,r,pl,hz⟩:=I.tuple hq
    refine SeqAt.in_tupleAt (eqU x) pl (fun w hw=>vy rx fx r fs w (by simpa using hw)) ⟨.bl _,H,I,rfl,?_⟩
    rw [show its.toArray.any (eqU x) = its.any (eqU x) by simp,wS r fs]
    exact q
inductive jj (K:PySem.W.Frag) (xs:List V) (H:Hp) (Q:VK):Prop
  | mk (p ys:_) (_:xs = [.ref p]) (_:(SqL K H p ys \/ SqT K H p ys)) (_:Q (.int ys.length) H):jj K xs H Q
theorem zq:CallR X (.builtin "len") (jj X.K):=by
  intro pins s σ H xs us Q I r h
  obtain ⟨p,ys,rfl,hq,q⟩:=h
  obtain ⟨u,rfl,rx⟩:=ja r
  cases rx
  have hn:=xB
  rcases hq with hq | hq
  · obtain ⟨its,r',pl,hz⟩:=I.list hq
    have hlen:=r'.length
    exact Calls.call_len_list pl.isList (by simp only [List.size_toArray] <;> omega) ⟨.int ys.length,H,I.tok _,⟨s.toks + 1,by rw [List.size_toArray,hlen]⟩,q⟩
  · obtain ⟨its,r',pl,hz⟩:=I.tuple hq
    have hlen:=r'.length
    exact len_tuple pl (by simp only [List.size_toArray] <;> omega) ⟨.int ys.length,H,I.tok _,⟨s.toks + 1,by rw [List.size_toArray,hlen]⟩,q⟩
inductive jV (xs:List V) (H:Hp) (Q:VK):Prop
  | mk (z:_) (_:xs = [.str z]) (_:z.length <= sizeLine) (_:Q (.int z.length) H):jV xs H Q
theorem wQ:CallR X (.builtin "len") (jV):=by
  intro pins s σ H xs us Q I r h
  obtain ⟨z,rfl,hz,q⟩:=h
  obtain ⟨u,rfl,t,rfl⟩:=ja r
  have hn:=xB
  exact len_str (by omega) ⟨.int z.length,H,I.tok _,⟨_,rfl⟩,q⟩
theorem CallR.or {f:Value} {r r':List V -> Hp -> VK -> Prop} (h:CallR X f r) (h':CallR X f r'):CallR X f (fun xs H Q=>r xs H Q \/ r' xs H Q):=by
  intro pins s σ H xs us Q I rs q
  rcases q with q | q
  · exact h pins s σ H xs us Q I rs q
  · exact h' pins s σ H xs us Q I rs q
inductive ji (K:PySem.W.Frag) (xs:List V) (H:Hp) (Q:VK):Prop
  | mk (p ys:_) (_:xs = [.ref p]) (_:(SqL K H p ys \/ SqT K H p ys)) (_:∀ l,H l = none -> Q (.ref l) (upd H l (.lst ys))):ji K xs H Q
theorem jG:CallR X (.type "list") (ji X.K):=by
  intro pins s σ H xs us Q I r h
  obtain ⟨p,ys,rfl,hq,q⟩:=h
  obtain ⟨u,rfl,rx⟩:=ja r
  cases rx
  have fin:∀ (its:List Value),Vals ys its -> ys.length <= sizeLine -> ∀ (h':Heap) (c':Nat),(∀ b o',s.heap.get? b = some o' -> h'.get? b = some o') ->
      h'.get? s.heap.objs.size = some { cls:=.type "list",dict:=none,data:=.seq its.toArray c',slots:=#[] } -> EP X pins σ Q (.ref s.heap.objs.size) { s with heap:=h' }:=fun its r' hz h' c' kp e=>
    ⟨.ref s.heap.objs.size,_,I.laid (t':=s.toks) kp (Nat.le_refl _) (show ObjOk X.prog X.w _ h' _ (.lst ys) from ⟨hz,its,c',r',e⟩),rfl,q _ (I.hok.fresh (Nat.le_refl _))⟩
  rcases hq with hq | hq
  · obtain ⟨its,r',pl,hz⟩:=I.list hq
    have hlen:=r'.length
    obtain ⟨o,ho,hc,n,hd⟩:=pl.isList
    exact call_list_seq p (.inl rfl) ho hc hd (fun h' c' kp e=>fin its r' hz h' c' kp e) (by simp only [List.size_toArray] <;> omega)
  · obtain ⟨its,r',pl,hz⟩:=I.tuple hq
    have hlen:=r'.length
    obtain ⟨o,ho,hc,n,hd⟩:=pl
    exact call_list_seq p (.inr rfl) ho hc hd (fun h' c' kp e=>fin its r' hz h' c' kp e) (by simp only [List.size_toArray] <;> omega)
inductive qU (K:PySem.W.Frag) (xs:List V) (H:Hp) (Q:VK):Prop
  | mk (p ys:_) (_:xs = [.ref p]) (_:((SqL K H p ys /\ ∀ l,H l = none -> Q (.ref l) (upd H l (.tup ys))) \/ (SqT K H p ys /\ Q (.ref p) H))):qU K xs H Q
theorem qw:CallR X (.type "tuple") (qU X.K):=by
  intro pins s σ H xs us Q I r h
  obtain ⟨p,ys,rfl,h⟩:=h
  obtain ⟨u,rfl,rx⟩:=ja r
  cases rx
  rcases h with ⟨hq,q⟩ | ⟨hq,q⟩
  · obtain ⟨its,r',pl,hz⟩:=I.list hq
    have hlen:=r'.length
    refine call_tuple_list pl.isList (fun h' kp=>?_) (by simp only [List.size_toArray] <;> omega)
    have I1:Inv X pins σ H { s with heap:=h' }:=I.kept (t':=s.toks) kp
    have I2:Inv X pins σ (upd H h'.objs.size (.tup ys)) { s with heap:=h'.push { cls:=.type "tuple",data:=.seq its.toArray } }:=
      I1.laid (t':=s.toks) (fun b o e=>Heap.get?_push_of_some _ e) (Nat.le_refl _) (show ObjOk X.prog X.w _ _ _ (.tup ys) from ⟨hz,its,r',⟨IsTup.new _ _,_,Heap.get?_push_size _ rfl,rfl⟩⟩)
    exact ⟨.ref h'.objs.size,_,I2,rfl,q _ (I1.hok.fresh (Nat.le_refl _))⟩
  · obtain ⟨its,r',pl,hz⟩:=I.tuple hq
    exact call_tuple_same pl ⟨.ref p,H,I,rfl,q⟩
def tyV (K:PySem.W.Frag) (T:String) (x:V) (H:Hp):Prop:=match x with
  | .str _=>T = "str"
  | .int _=>T = "int"
  | .ref p=>(T = "list" /\ ∃ xs,SqL K H p xs) \/ (T = "tuple" /\ ∃ o,K.lookup p = some o /\ o.cls = .type "tuple" /\ o.dict = none) \/
      (T = "dict" /\ ((∃ kvs,H p = some (.dK kvs)) \/ ∃ kvs,H p = some (.dT kvs))) \/ (T = "set" /\ ∃ S n,H p = some (.set S n))
  | _=>False
theorem Vm {pins:List (Addr × Obj)} {σ:St} {H:Hp} {s:Shared} {T:String} {x:V} {v:Value} (I:Inv X pins σ H s) (r:RelV x v) (ty:tyV X.K T x H) :
    s.TypeIs v T /\ ∀ a,v = .ref a -> ∃ ob,s.heap.get? a = some ob /\ ob.dict = none:=by
  cases x with
  | str z=>
    obtain ⟨t,rfl⟩:=r
    cases (show T = "str" from ty)
    exact ⟨typeIs_str s z t,fun _ e=>nomatch e⟩
  | int i=>
    obtain ⟨t,rfl⟩:=r
    cases (show T = "int" from ty)
    exact ⟨typeIs_int s i t,fun _ e=>nomatch e⟩
  | ref p=>
    cases r
    rcases ty with ⟨rfl,xs,hq⟩ | ⟨rfl,o,hk,hc,hd⟩ | ⟨rfl,hk⟩ | ⟨rfl,S,n,hk⟩
    · obtain ⟨its,_,pl,_⟩:=I.list hq
      refine ⟨pl.isList.typeIs,fun a e=>?_⟩
      cases e
      obtain ⟨o,n,e,c,hd,_⟩:=pl
      exact ⟨o,e,hd⟩
    · refine ⟨⟨o,I.kIn p o hk,hc⟩,fun a e=>?_⟩
      cases e
      exact ⟨o,I.kIn _ o hk,hd⟩
    · have z:∃ o,s.heap.get? p = some o /\ o.ExactDict:=by
        rcases hk with ⟨kvs,hk⟩ | ⟨kvs,hk⟩
        · obtain ⟨_,_,_,_,o,_,_,e,ex,_⟩:=I.hok p _ hk
          exact ⟨o,e,ex⟩
        · obtain ⟨_,_,_,_,o,_,_,e,ex,_⟩:=I.hok p _ hk
          exact ⟨o,e,ex⟩
      obtain ⟨o,e,ex⟩:=z
      refine ⟨⟨o,e,ex.1⟩,fun a e2=>?_⟩
      cases e2
      exact ⟨o,e,ex.2.1⟩
    · obtain ⟨o,_,_,_,e,ex,_⟩:=I.hok p _ hk
      refine ⟨⟨o,e,ex.1⟩,fun a e2=>?_⟩
      cases e2
      exact ⟨o,e,ex.2.1⟩
  | _=>exact False.elim ty
def tBM (K:PySem.W.Frag) (T:String) (r:V -> List V -> Hp -> VK -> Prop) (to:TE) (t:TA):TE:=fun σ H Q=>to σ H fun x H1=>tyV K T x H1 /\ t σ H1 fun xs H2=>r x xs H2 Q
variable {o e:Expr} {es:List Expr} {to:TE} {t:TA} {name:Str} {apos cpos:Pos} {T id:String} {r:V -> List V -> Hp -> VK -> Prop}
theorem vX (pa:PlainAttrs T) (slot:Slot T name id) (hty:typeOf (.builtin id) = pure (.type "method_descriptor")) (hm:MtR X id r) (ho:PE X o to) (ha:PA X (e :: es) t)
    (hbase:attributeBase o name X.env (eval o X.env) = eval o X.env:=by rfl)
    (hfew:((backTo cpos (starEach (e :: es) X.env)).all (fun x=>!x.1) && (backToKw cpos (keywordEach [] X.env)).all (fun x=>x.1.isSome)
      && decide ((e :: es).length + ([]:List Keyword).length + (if ([]:List Keyword).isEmpty then 0 else 1) < 30)) = true:=by rfl)
    (hline:(apos.endLine == cpos.line) = true:=by rfl) (hs:starEach (e :: es) X.env = (false,eval e X.env) :: starEach es X.env:=by rfl) (hplain:(backTo cpos (starEach es X.env)).any (·.1) = false:=by rfl) :
    PE X (.Call (.Attribute o name apos) (e :: es) [] cpos) (tBM X.K T r to t):=by
  intro pins s σ H Q I h
  refine wpAny_Call_method_late hbase hfew hline rfl (thn (ho pins s σ H _ I h) fun v s1 ⟨x,H1,I1,r1,ty,q1⟩=>?_)
  obtain ⟨h1,h2⟩:=Vm I1 r1 ty
  refine ⟨T,id,pa,slot,hty,h1,h2,?_⟩
  have hA:=ha cpos pins s1 σ H1 _ I1 q1
  rw [hs] at hA ⊢
  refine Calls.callWith_builtin (by show (false || (backTo cpos (starEach es X.env)).any (·.1)) = false;rw [hplain] <;> rfl) (Calls.evalArgs_plain ?_)
  exact thn hA fun us s2 ⟨vs,H2,I2,r2,q2⟩=>hm pins s2 σ H2 x vs v us Q I2 r1 r2 q2
end
def MtM (X:Cx) (id:String) (r:V -> List V -> Hp -> VK -> Prop):Prop:=
  ∀ (pins:List (Addr × Obj)) (s:Shared) (σ:St) (H:Hp) (x:V) (xs:List V) (v:Value) (us:List Value) (Q:VK),Inv X pins σ H s -> RelV x v -> Vals xs us -> r x xs H Q ->
    wpAny (model X.prog X.w) X.A (call (.builtin id) (v :: us)) (EP X pins σ Q) X.xe s
theorem Vals.one:∀ {x:V} {us:List Value},Vals [x] us -> ∃ u,us = [u] /\ RelV x u
  | _,_,.cons r .nil=>⟨_,rfl,r⟩
theorem Vals.two:∀ {x y:V} {us:List Value},Vals [x,y] us -> ∃ u v,us = [u,v] /\ RelV x u /\ RelV y v
  | _,_,_,.cons r (.cons q .nil)=>⟨_,_,rfl,r,q⟩
theorem Vals.zero:∀ {us:List Value},Vals [] us -> us = []
  | _,.nil=>rfl
theorem Vals.reverse {xs:List V} {us:List Value} (h:Vals xs us):Vals xs.reverse us.reverse:=by
  induction h with
  | nil=>exact .nil
  | cons r t ih=>rw [List.reverse_cons,List.reverse_cons];exact Vals.append ih (.cons r .nil)
section
variable {X:Cx} {pins:List (Addr × Obj)} {σ:St} {H:Hp} {s:Shared} {l b:Addr} {xs ys zs:List V}
theorem Inv.lset {its its':List Value} {n:Nat} {f:Array Value -> Array Value} {t':Nat} (I:Inv X pins σ H s) (hH:H l = some (.lst xs))
    (e:s.heap.get? l = some { cls:=.type "list",data:=.seq its.toArray n }) (hf:f its.toArray = its'.toArray) (hv:Vals ys its') (hz:ys.length <= sizeLine) :
    Inv X pins σ (upd H l (.lst ys)) { s with heap:=s.heap.update l (Obj.mapSeq f),toks:=t' }:=by
  have q:=PySem.IsL.update e f
  rw [hf] at q
  refine I.write (x:=l) (e:=l) (by rw [hH];exact trivial) (.inl rfl) (fun b' u hb hu=>(Heap.get?_update_other s.heap (Obj.mapSeq f) (Ne.symm hb)).trans hu) ⟨_,q⟩ ?_
  exact ⟨hz,its',_,hv,q⟩
theorem Inv.lnew {its:List Value} {t':Nat} (I:Inv X pins σ H s) (hv:Vals ys its) (hz:ys.length <= sizeLine) :
    Inv X pins σ (upd H s.heap.objs.size (.lst ys)) { s with heap:=s.heap.push { cls:=.type "list",data:=.seq its.toArray },toks:=t' }:=
  I.laid (fun _ _ q=>Heap.get?_push_of_some _ q) (Nat.le_refl _) ⟨hz,its,0,hv,Heap.get?_push_size _ rfl⟩
theorem Inv.fresh (I:Inv X pins σ H s):H s.heap.objs.size = none:=I.hok.fresh (Nat.le_refl _)
theorem Inv.lstM (I:Inv X pins σ H s) (hH:H l = some (.lst xs)):xs.length <= sizeLine /\ ∃ (its:List Value) (n:Nat),Vals xs its /\ xs.length = its.length /\ s.heap.get? l = some { cls:=.type "list",data:=.seq its.toArray n }:=by
  obtain ⟨z,its,n,r,e⟩:=I.hok l _ hH
  exact ⟨z,its,n,r,r.length,e⟩
end
section
variable {X:Cx}
inductive ZR (x:V) (vs:List V) (H:Hp) (Q:VK):Prop
  | mk (l xs y:_) (_:x = .ref l) (_:vs = [y]) (_:H l = some (.lst xs)) (_:xs.length < sizeLine) (_:Q .non (upd H l (.lst (xs ++ [y])))):ZR  x vs H Q
theorem j2:MtM X "list.append" ZR:=by
  intro pins s σ H x vs v us Q I rx rv h
  obtain ⟨l,xs,y,rfl,rfl,hH,hz,q⟩:=h
  cases rx
  obtain ⟨u,rfl,ru⟩:=rv.one
  obtain ⟨z,its,n,r,hl,e⟩:=I.lstM hH
  refine call_meets F.slot_list_append ⟨_,e,rfl⟩ F.entry_list_append (F.args_list_append_2 _ _) (PySem.list_append l its.toArray n u (by rw [List.size_toArray];omega)) ⟨e,?_⟩
  refine ⟨.non,_,I.lset (its':=its ++ [u]) hH e (by simp) (r.append (.cons ru .nil)) ?_,rfl,q⟩
  rw [List.length_append,List.length_singleton]
  omega
inductive Vw (x:V) (y:V) (H:Hp) (Q:VK):Prop
  | mk (l b xs zs:_) (_:x = .ref l) (_:y = .ref b) (_:H l = some (.lst xs)) (_:H b = some (.lst zs)) (_:xs.length + zs.length <= sizeLine) (_:∀ p,H p = none -> Q (.ref p) (upd H p (.lst (xs ++ zs)))):Vw  x y H Q
theorem je:OpR X (binaryOp .Add) Vw:=by
  intro pins s σ H x y v u Q I rx ry h
  obtain ⟨l,b,xs,zs,rfl,rfl,hH,hB,hz,q⟩:=h
  cases rx
  cases ry
  obtain ⟨z,its,n,r,hl,e⟩:=I.lstM hH
  obtain ⟨z2,its2,n2,r2,hl2,e2⟩:=I.lstM hB
  refine PySem.P.add_list e e2 ?_ (by rw [List.size_toArray,List.size_toArray];omega)
  have ea:its.toArray ++ its2.toArray = (its ++ its2).toArray:=by simp
  rw [ea]
  exact ⟨.ref _,_,I.lnew (t':=s.toks) (r.append r2) (by rw [List.length_append];omega),rfl,q _ I.fresh⟩
end
section
variable {prog:Program} {w:World} {A:Around} {E:Value -> Shared -> Prop} {s:Shared}
end
section
variable {X:Cx}
end
end L2
namespace Att
open PySem PySem.W PySem.Calls PyProof.Rows
theorem xT {P:Params} {h:Heap}:∀ (ns:List Int) (vs:List Value),WellAll P h vs (ns.map WData.int) -> IntsAre vs ns:=by
  intro ns
  induction ns with
  | nil=>
    intro vs w
    rw [List.map_nil] at w
    cases w
    exact .nil
  | cons n ns ih=>
    intro vs w
    rw [List.map_cons] at w
    cases w with
    | cons a b=>
      cases a
      exact .cons _ _ (ih _ b)
theorem QD {l:OpenLaw} {n:Nat} (hn:l.most = some n) {P:Params} {h:Heap} {args:List WData} {vals:List Value}
    (hpre:l.row.toRowW.claim.pre args = true) (hwl:WellAll P h vals args) :
    ∃ a vs ns,vals = [Value.ref a] /\ args = [WData.list (ns.map WData.int)] /\ h.get? a = some { cls:=.type "list",data:=.seq vs.toArray } /\ IntsAre vs ns /\ ns.length <= n:=by
  have hsh:WShape.hasAll [] args [.list .int] = true:=(pre_splitW hpre).1
  have hc:l.pre.holds [] { args:=args } = true:=(pre_splitW hpre).2
  obtain ⟨d,r,rfl,h1,h2⟩:=hasAllW_cons hsh
  obtain rfl:=hasAllW_nil h2
  obtain ⟨xs,rfl,h3⟩:=hasW_list h1
  obtain ⟨ns,rfl⟩:=items_int h3
  have hlen:ns.length <= n:=by
    unfold OpenLaw.pre at hc
    have h4:(WTm.not (.lt (.lit (.int (n:Int))) (.len (.arg 0)))).holds [] { args:=[.list (ns.map .int)] } = true:=by
      have h4:=(holds_andW hc).1
      rw [hn] at h4
      exact h4
    have h5:=condW_of h4 (w_not (w_lt w_lit (w_len_list (w_arg rfl))))
    rw [List.length_map] at h5
    refine Nat.le_of_not_lt fun q=>?_
    have q':(n:Int) < ((ns.length:Nat):Int):=by omega
    first
      | (rw [decide_eq_true q'] at h5;exact absurd h5 (by decide))
      | (simp at h5;omega)
  cases hwl with
  | cons w1 w2=>
    cases w2
    cases w1 with
    | list ho hall=>exact ⟨_,_,ns,rfl,rfl,ho,xT ns _ hall,hlen⟩
theorem QF (l:OpenLaw) (args:List WData):l.row.toRowW.claim.post args (.bool true) args = true:=
  postW_of (r:=l.row.toRowW) (X:=(true == true))
    (show WShape.has [] (.bool true) .bool = true by first | rfl | decide | simp [WShape.has,WShape.arms,WShape.armsAll])
    (show (WTm.eq .res (.lit (.bool true))).value [] { args:=args,res:=some (.bool true),after:=args } = some (.bool (true == true)) from w_eq_bool (w_res rfl) w_lit) rfl
theorem attach_call {l:OpenLaw} {n:Nat} {q:Program} {loose:List Str} {XP:(Str -> Option Value) -> Heap -> Prop} {YP:World -> Heap -> Prop} {d:DefRec}
    (hn:l.most = some n) (hdf:d.params.defaults = [])
    (call:∀ (w:World) (s₀ s₁:Shared) (mg mb:Str -> Option Value) (fa:Addr) (o:Obj) (pm cd doc:Value) (a:Addr) (vs:List Value) (ns:List Int),
      Ground q loose [] XP w s₀ mg mb s₁.heap -> YP w s₁.heap ->
      s₁.heap.get? fa = some o -> o.data = .func (docDef d.name d.params d.body d.scope pm cd doc) -> s₁.heap.CodeRec cd d.name -> mg d.name = some (.ref fa) ->
      s₁.heap.get? a = some { cls:=.type "list",data:=.seq vs.toArray } -> IntsAre vs ns -> ns.length <= n -> s₁.gens = #[] ->
      codeAny (model l.prog w) callerA (.call (.ref fa) ⟨[.ref a],[]⟩) (fun r s'=>r = .ok (.ret (.bool true)) /\ OldK s₁.heap s'.heap /\ s'.os = s₁.os /\ AllBare s'.gens) s₁) :
    WalkO q loose XP YP l.row.toRowW d [] (fun f vs=>PySem.call f vs):=by
  intro w s₀ s₁ mg mb G Y fa o pm cd doc dV kV ho hd hcd hD hmg hg args vals as hpre hlay hrd hwl hlo
  obtain rfl:dV = .none:=Dflts.none hD hdf
  obtain rfl:kV = .none:=Dflts.noKw hD
  obtain ⟨a,vs,ns,rfl,rfl,hobj,hints,hlen⟩:=QD hn hpre hwl
  refine enter_call (codeAny_mono (call w s₀ s₁ mg mb fa o pm cd doc a vs ns G Y ho (fd_plain hd) hcd hmg hobj hints hlen hg) fun r s' hq=>?_)
  obtain ⟨rfl,h2,h3,h4⟩:=hq
  exact ⟨.inl ⟨.bool true,.bool true,[],rfl,fun _=>rfl,.bool true,QF l _,fun _=>⟨List.Pairwise.nil,fun _ hm=>(nomatch hm)⟩⟩,h2,h3,h4⟩
section
variable {prog:Program} {w:World} {A:Around} {E:Value -> Shared -> Prop} {s:Shared} {K:Frag}
def ledger (h:Heap) (L d:Addr):List (Addr × Obj):=(List.range h.objs.size).filterMap fun a=>if a = L \/ a = d then none else (h.get? a).map fun o=>(a,o)
end
end Att
namespace L2
open PySem PySem.Spec PyProof.Rows
theorem vP:∀ {vs:List Value} {ns:List Int},IntsAre vs ns -> Vals (ns.map V.int) vs
  | _,_,.nil=>.nil
  | _,_,.cons n t h=>.cons ⟨t,rfl⟩ (vP h)
def VZ (H:Hp):Prop:=∀ b,H b = none \/ ∃ o xs,H b = some (.frz o (.lst xs))
theorem JR {P:Program} {w:World} {K:PySem.W.Frag} {mg mb:Str -> Option Value} {CX:CXT} {k:Nat} {fa a:Addr} {fd:FuncData} {x:Str} {sp:Sp} {s₁:Shared} {vs:List Value} {ns:List Int}
    (KX:K.In s₁.heap) (hns:s₁.heap.Ns mainGlobals mg) (hb:s₁.heap.Ns builtinsNs mb) (hbb:∀ x:Str,x ≠ "__name__" -> mb x = bootBuiltins x) (hlim:s₁.heap.NoLimit) (hg:s₁.gens = #[])
    (ha:s₁.heap.get? a = some { cls:=.type "list",data:=.seq vs.toArray }) (hi:IntsAre vs ns) (hl:ns.length <= sizeLine) (hr:Room k callerA)
    (F:∀ base:Heap,K.In base -> base.Ns mainGlobals mg -> FnOk P w K mg base CX k fa fd [x] sp) (hbind:∀ (s:Shared) (u:Value),BindsTo s fd ⟨[u],[]⟩ [(x,u)])
    (hsp:∀ H:Hp,VZ H -> SqL K H a (ns.map V.int) -> sp [.ref a] H (fun v _=>v = .bl true) fun _ _ _=>False)
    (hCX:∀ H e s',CX [] H s₁ (fun _ _ _=>False) e s' -> False) :
    codeAny (model P w) callerA (.call (.ref fa) ⟨[.ref a],[]⟩) (fun r s'=>r = .ok (.ret (.bool true)) /\ OldK s₁.heap s'.heap /\ s'.os = s₁.os /\ AllBare s'.gens) s₁:=by
  have rv:=vP hi
  have lenV:=hi.length
  have core:∀ H:Hp,VZ H -> SqL K H a (ns.map V.int) -> HOk P w H s₁.heap -> (∀ b,H b ≠ none -> b = a) -> (H a ≠ none -> K.lookup a = none) ->
      codeAny (model P w) callerA (.call (.ref fa) ⟨[.ref a],[]⟩) (fun r s'=>r = .ok (.ret (.bool true)) /\ OldK s₁.heap s'.heap /\ s'.os = s₁.os /\ AllBare s'.gens) s₁:=by
    intro H hO hS hok hA hK
    have base_of:∀ {b:Addr} {o:Obj},s₁.heap.get? b = some o -> H b = none -> (wO s₁.heap H).get? b = some o:=fun e n=>JT e n
    have noA:∀ {b:Addr} {o:Obj} {es:Array DictEntry} {ep:Nat},s₁.heap.get? b = some o -> o.data = .dict es ep -> H b = none:=fun {b o es ep} e d=>by
      cases q:H b with
      | none=>rfl
      | some u=>
        have e':b = a:=hA b (by rw [q];simp)
        subst e'
        rw [ha] at e;cases e
        have d':Data.seq vs.toArray _ = Data.dict es ep:=d
        cases d'
    have nsK:∀ {b:Addr} {m:Str -> Option Value},s₁.heap.Ns b m -> (wO s₁.heap H).Ns b m:=fun {b m} ⟨o,es,ep,e,d,r⟩=>⟨o,es,ep,base_of e (noA e d),d,r⟩
    have hKb:K.In (wO s₁.heap H):=fun b o e=>base_of (KX b o e) (by
      cases q:H b with
      | none=>rfl
      | some u=>
        have e':b = a:=hA b (by rw [q];simp)
        subst e'
        rw [hK (by rw [q];simp)] at e;cases e)
    have hM:Mod K mg (wO s₁.heap H):=⟨hKb,nsK hns,⟨mb,nsK hb,hbb⟩,let ⟨mc,h1,h2⟩:=hlim;⟨mc,nsK h1,h2⟩⟩
    have e0:Env0 P w K mg (wO s₁.heap H) callerA [] s₁ H:=⟨rfl,hM,fun b o e=>XN e,Nat.le_of_eq (QO _ _),trivial,fun b hb=>absurd (show b ∈ ([]:List Addr) from hb) (by simp),hok,.of_eq hg⟩
    refine codeAny_mono ((F _ hKb (nsK hns)).run callerA [] s₁ H ⟨[.ref a],[]⟩ [.ref a] [.ref a] _ _ hr e0 (hbind s₁ (.ref a)) (.cons rfl .nil) (hsp H hO hS)) fun r s' h=>?_
    cases r with
    | error e=>exact (hCX H e s' h).elim
    | ok fl=>
      cases fl with
      | next=>exact False.elim h
      | brk=>exact False.elim h
      | cont=>exact False.elim h
      | ret u=>
        obtain ⟨v,H',os,bare,un,hok',r',q⟩:=h
        have q':v = .bl true:=q
        subst q'
        obtain rfl:u = Value.bool true:=r'
        refine ⟨rfl,OldK.of_keep fun b o e=>?_,os,bare⟩
        cases q:H b with
        | none=>exact un.keep b o e q (by intro z;exact absurd (show b ∈ ([]:List Addr) from z) (by simp)) (by simp)
        | some u=>
          rcases hO b with z | ⟨ob,xs,z⟩
          · rw [q] at z;cases z
          · have z2:=un.frzs b ob _ z
            obtain ⟨e1,_⟩:=hok b _ z
            obtain ⟨e2,_⟩:=hok' b _ z2
            rw [e] at e1;cases e1
            exact e2
  cases hk:K.lookup a with
  | some o=>
    have e:=KX a o hk
    rw [ha] at e
    cases e
    refine core (fun _=>none) (fun _=>.inl rfl) (.inr ⟨_,vs.toArray,_,hk,rfl,rfl,rfl,by rw [List.size_toArray,lenV];exact hl,by simpa using rv⟩) (fun b u z=>by have z':(none:Option HO) = some u:=z;cases z') (fun b z=>absurd rfl z) fun z=>absurd rfl z
  | none=>
    refine core (fun b=>if b = a then some (.frz { cls:=.type "list",data:=.seq vs.toArray } (.lst (ns.map V.int))) else none) (fun b=>?_) (.inl (.inr ⟨{ cls:=.type "list",data:=.seq vs.toArray },if_pos rfl⟩)) (fun b u z=>?_) (fun b z=>?_) fun _=>hk
    · by_cases hb:b = a
      · exact .inr ⟨_,_,if_pos hb⟩
      · exact .inl (if_neg hb)
    · by_cases hb:b = a
      · have z':=(if_pos hb).symm.trans z
        cases z'
        subst hb
        exact ⟨ha,by rw [List.length_map];exact hl,vs,_,rv,ha⟩
      · have z':=(if_neg hb).symm.trans z
        cases z'
    · by_cases hb:b = a
      · exact hb
      · exact absurd (if_neg hb) z
abbrev KOf {K:PySem.W.Frag} {h:Heap} (_:K.In h):PySem.W.Frag:=K
theorem walk_of {l:PySem.W.OpenLaw} {n k:Nat} {q:Program} {loose:List Str} {XP:(Str -> Option Value) -> Heap -> Prop} {YP:World -> Heap -> Prop} {d:DefRec} {K:Params -> PySem.W.Frag} {CX:World -> CXT} {sp:World -> Sp} {x:Str}
    (hn:l.most = some n) (hn2:n <= sizeLine) (hdf:d.params.defaults = []) (hr:Room k callerA)
    (hY:∀ (w:World) (h:Heap),YP w h -> (K w.params).In h)
    (F:∀ (w:World) (mg:Str -> Option Value) (fa:Addr) (h:Heap),(K w.params).In h -> h.Ns mainGlobals mg -> mg d.name = some (.ref fa) ->
      ∃ fd:FuncData,(∀ (s:Shared) (u:Value),BindsTo s fd ⟨[u],[]⟩ [(x,u)]) /\
        ∀ base:Heap,(K w.params).In base -> base.Ns mainGlobals mg -> FnOk l.prog w (K w.params) mg base (CX w) k fa fd [x] (sp w))
    (hsp:∀ (w:World) (H:Hp) (a:Addr) (ns:List Int),ns.length <= n -> VZ H -> SqL (K w.params) H a (ns.map V.int) -> sp w [.ref a] H (fun v _=>v = .bl true) fun _ _ _=>False)
    (hCX:∀ (w:World) (H:Hp) (s:Shared) (e:Value) (s':Shared),CX w [] H s (fun _ _ _=>False) e s' -> False) :
    PySem.W.WalkO q loose XP YP l.row.toRowW d [] (fun f vs=>PySem.call f vs):=by
  refine Att.attach_call hn hdf fun w s₀ s₁ mg mb fa o pm cd doc a vs ns G Y ho hd hcd hmg hobj hints hlen hg=>?_
  have KX:=hY w _ Y
  obtain ⟨fd,hb,hF⟩:=F w mg fa _ KX G.T.g hmg
  exact JR KX G.T.g G.T.b G.T.builtins G.T.nolimit hg hobj hints (Nat.le_trans hlen hn2) hr hF hb (fun H hO hS=>hsp w H a ns hlen hO hS) fun H e s'=>hCX w H s₁ e s'
def zB (s:Stmt):Arguments:=match s with
  | .FunctionDef _ a _ _ _ _ _ _ _ _=>a
  | _=>{ posonlyargs:=[],args:=[],vararg:=none,kwonlyargs:=[],kw_defaults:=[],kwarg:=none,defaults:=[] }
def zA (s:Stmt):List Stmt:=match s with
  | .FunctionDef _ _ b _ _ _ _ _ _ _=>b
  | _=>[]
def zj (s:Stmt):Scope:=match s with
  | .FunctionDef _ _ _ _ _ _ sc _ _ _=>sc
  | _=>{ kind:=.function,names:=[],isGenerator:=false,isCoroutine:=false }
abbrev CX0:CXT:=fun _ _ _ _ _ _=>False
abbrev E0:XK:=fun _ _ _=>False
theorem Wl {X:Cx}:Zu CX0 X E0:=fun _ _ _ _ _ _ _ h=>h.elim
structure Fun (K:PySem.W.Frag) (x qual:Str) (st:Stmt) (f:Addr) (fd:FuncData):Prop where
  ex:∃ (oc:Value) (od:Option Addr) (kV doc pm:Value) (an:Option Addr) (cdv ct:Value) (osl:Array (Option Value)),
    fd = PySem.W.fnOf x qual (zB st) (zA st) (zj st) .none kV doc pm an cdv ct /\ K.lookup f = some ⟨oc,od,.func fd,osl⟩ /\ PySem.W.codeIn K cdv qual = true
  kp:PySem.W.keepIn K (.ref f) = true
section
variable {P:Program} {w:World} {K:PySem.W.Frag} {mg:Str -> Option Value} {base:Heap}
theorem Fun.ok {x qual:Str} {st:Stmt} {f:Addr} {fd:FuncData} {N ps:List Str} {k:Nat} {sp:Sp} (F:Fun K x qual st f fd) (S:zG N ps (zj st)) (len:∀ vs H Q E,sp vs H Q E -> vs.length = ps.length)
    (hbody:∀ (cdv:Value) (A:Around) (outer:List Env) (s:Shared) (H:Hp) (vs:List V) (Q:VK) (E:XK),Room k (A.deeper (envOfC qual (zj st) s.heap.objs.size f cdv)) -> sp vs H Q E ->
      ∃ t,PSs (Zq CX0 P w K mg base N qual (zj st) f cdv A outer s H E).nox (zA st) t /\ t { nx:=fun _ H'=>Q .non H',rt:=Q } (xF N vs) H):FnOk P w K mg base CX0 (k + 1) f fd ps sp:=by
  obtain ⟨oc,od,kV,doc,pm,an,cdv,ct,osl,rfl,lk,hcd⟩:=F.ex
  refine Wv lk hcd S len fun A outer s H vs Q E hr hsp=>?_
  obtain ⟨t,h,q⟩:=hbody cdv A outer s H vs Q E hr hsp
  exact ⟨t,h.nox,q⟩
theorem Fun.binds {x qual:Str} {st:Stmt} {f:Addr} {fd:FuncData} {ps:List Str} (F:Fun K x qual st f fd)
    (h:∀ (kV doc pm:Value) (an:Option Addr) (cdv ct:Value) (us:List Value),us.length = ps.length -> bindArgs (PySem.W.fnOf x qual (zB st) (zA st) (zj st) .none kV doc pm an cdv ct) ⟨us,[]⟩ = pure (ps.zip us)):Binds K fd ps []:=by
  obtain ⟨oc,od,kV,doc,pm,an,cdv,ct,osl,rfl,lk,hcd⟩:=F.ex
  exact .all (h kV doc pm an cdv ct)
theorem zS {x qual:Str} {st:Stmt} {f:Addr} {oc:Value} {od an:Option Addr} {osl:Array (Option Value)} {kV doc pm cdv ct:Value} (l:K.lookup f = some ⟨oc,od,.func (PySem.W.fnOf x qual (zB st) (zA st) (zj st) .none kV doc pm an cdv ct),osl⟩)
    (c:PySem.W.codeIn K cdv qual = true) (k:PySem.W.keepIn K (.ref f) = true):Fun K x qual st f (PySem.W.fnOf x qual (zB st) (zA st) (zj st) .none kV doc pm an cdv ct):=⟨⟨oc,od,kV,doc,pm,an,cdv,ct,osl,rfl,l,c⟩,k⟩
end
section
variable {X:Cx}
theorem pv (i:Nat) {x:Str} {pos:Pos} (hN:X.N[i]? = some x:=by rfl) (hv:Vis X.env.scope x:=by first | exact Or.inl rfl | exact Or.inr (Or.inl rfl) | exact Or.inr (Or.inr rfl)) (hd:(x == ("__debug__" : Str)) = false:=by decide)
    (hcd:(x == ("__classdict__" : Str)) = false:=by decide):PE X (.Name x pos) (Xh i):=VB hN hv hd hcd
end
theorem zW {c A B:Prop} [Decidable c] (h1:c -> A) (h2:¬ c -> B):if c then A else B:=by
  by_cases h:c
  · rw [if_pos h]
    exact h1 h
  · rw [if_neg h]
    exact h2 h
def Same (H H':Hp):Prop:=∀ b o,H b = some o -> H' b = some o
theorem Same.refl (H:Hp):Same H H:=fun _ _ h=>h
theorem Same.trans {H H1 H2:Hp} (a:Same H H1) (b:Same H1 H2):Same H H2:=fun c o h=>b c o (a c o h)
theorem Same.free {H H':Hp} (e:Same H H') {l:Addr} (h:H' l = Option.none):H l = Option.none:=by
  cases q:H l with
  | none=>rfl
  | some o=>
    rw [e l o q] at h
    cases h
theorem Same.seq {K:PySem.W.Frag} {H H':Hp} {a:Addr} {xs:List V} (e:Same H H') (h:SqL K H a xs):SqL K H' a xs:=by
  rcases h with (h | ⟨o,h⟩) | h
  · exact .inl (.inl (e _ _ h))
  · exact .inl (.inr ⟨o,e _ _ h⟩)
  · exact .inr h
end L2
namespace L2
inductive Ex1 {α1:Sort _} (P:α1 -> Prop):Prop
  | mk (a1:α1) (h:P a1):Ex1 P
inductive Ex2 {α1:Sort _} {α2:Sort _} (P:α1 -> α2 -> Prop):Prop
  | mk (a1:α1) (a2:α2) (h:P a1 a2):Ex2 P
inductive Ex3 {α1:Sort _} {α2:Sort _} {α3:Sort _} (P:α1 -> α2 -> α3 -> Prop):Prop
  | mk (a1:α1) (a2:α2) (a3:α3) (h:P a1 a2 a3):Ex3 P
inductive Ex4 {α1:Sort _} {α2:Sort _} {α3:Sort _} {α4:Sort _} (P:α1 -> α2 -> α3 -> α4 -> Prop):Prop
  | mk (a1:α1) (a2:α2) (a3:α3) (a4:α4) (h:P a1 a2 a3 a4):Ex4 P
inductive Ex5 {α1:Sort _} {α2:Sort _} {α3:Sort _} {α4:Sort _} {α5:Sort _} (P:α1 -> α2 -> α3 -> α4 -> α5 -> Prop):Prop
  | mk (a1:α1) (a2:α2) (a3:α3) (a4:α4) (a5:α5) (h:P a1 a2 a3 a4 a5):Ex5 P
inductive Ex6 {α1:Sort _} {α2:Sort _} {α3:Sort _} {α4:Sort _} {α5:Sort _} {α6:Sort _} (P:α1 -> α2 -> α3 -> α4 -> α5 -> α6 -> Prop):Prop
  | mk (a1:α1) (a2:α2) (a3:α3) (a4:α4) (a5:α5) (a6:α6) (h:P a1 a2 a3 a4 a5 a6):Ex6 P
inductive An3 (A1 A2 A3:Prop):Prop
  | mk (h1:A1) (h2:A2) (h3:A3):An3 A1 A2 A3
inductive An4 (A1 A2 A3 A4:Prop):Prop
  | mk (h1:A1) (h2:A2) (h3:A3) (h4:A4):An4 A1 A2 A3 A4
inductive An5 (A1 A2 A3 A4 A5:Prop):Prop
  | mk (h1:A1) (h2:A2) (h3:A3) (h4:A4) (h5:A5):An5 A1 A2 A3 A4 A5
inductive An6 (A1 A2 A3 A4 A5 A6:Prop):Prop
  | mk (h1:A1) (h2:A2) (h3:A3) (h4:A4) (h5:A5) (h6:A6):An6 A1 A2 A3 A4 A5 A6
inductive An8 (A1 A2 A3 A4 A5 A6 A7 A8:Prop):Prop
  | mk (h1:A1) (h2:A2) (h3:A3) (h4:A4) (h5:A5) (h6:A6) (h7:A7) (h8:A8):An8 A1 A2 A3 A4 A5 A6 A7 A8
theorem JP {α:Type _} {us:List α} (h:us.length = 1):∃ a0,us = [a0]:=
  match us,h with
  | [a0],_=>⟨a0,rfl⟩
theorem qE {α:Type _} {us:List α} (h:us.length = 2):∃ a0 a1,us = [a0,a1]:=
  match us,h with
  | [a0,a1],_=>⟨a0,a1,rfl⟩
theorem yF {α:Type _} {us:List α} (h:us.length = 3):∃ a0 a1 a2,us = [a0,a1,a2]:=
  match us,h with
  | [a0,a1,a2],_=>⟨a0,a1,a2,rfl⟩
theorem Vj {α:Type _} {us:List α} (h:us.length = 4):∃ a0 a1 a2 a3,us = [a0,a1,a2,a3]:=
  match us,h with
  | [a0,a1,a2,a3],_=>⟨a0,a1,a2,a3,rfl⟩
end L2
set_option maxHeartbeats 4000000
namespace L2
open PySem PySem.Spec PyProof.Rows
def qF (cs:List (Str × Addr)):List (Str × NameKind) -> List (Str × Addr) -> List (Str × Addr)
  | [],acc=>acc
  | (n,k) :: r,acc=>qF cs r (if (k == NameKind.free) = true then (n,(cs.lookup n).getD 0) :: acc else acc)
theorem J4 {env:Env} (names:List (Str × NameKind)):∀ (acc:List (Str × Addr)),(∀ y ∈ names,y.2 = NameKind.free -> ∃ c,env.cells.lookup y.1 = some c) ->
    (forIn names acc fun (x:Str × NameKind) (cs:List (Str × Addr))=>
      (if (x.2 == NameKind.free) = true then (cellOf env x.1 >>= fun a=>(pure (ForInStep.yield ((x.1,a) :: cs)):Sem (ForInStep (List (Str × Addr))))) else pure (ForInStep.yield cs))) = (pure (qF env.cells names acc):Sem (List (Str × Addr))):=by
  induction names with
  | nil=>intro acc _;rfl
  | cons y r ih=>
    intro acc h
    obtain ⟨n,k⟩:=y
    rw [List.forIn_cons]
    by_cases hk:(k == NameKind.free) = true
    · obtain ⟨c,hc⟩:=h (n,k) List.mem_cons_self (by simpa using hk)
      have e1:cellOf env n = pure c:=by
        unfold cellOf
        rw [show env.cells.lookup n = some c from hc]
      simp only [hk,if_true,e1,pure_bind]
      rw [ih _ fun z hz=>h z (List.mem_cons_of_mem _ hz)]
      show _ = pure (qF env.cells r (if (k == NameKind.free) = true then (n,(env.cells.lookup n).getD 0) :: acc else acc))
      rw [if_pos hk,show env.cells.lookup n = some c from hc]
      all_goals rfl
    · simp only [hk,pure_bind]
      simp only [Bool.false_eq_true,if_false,pure_bind]
      rw [ih _ fun z hz=>h z (List.mem_cons_of_mem _ hz)]
      show _ = pure (qF env.cells r (if (k == NameKind.free) = true then (n,(env.cells.lookup n).getD 0) :: acc else acc))
      rw [if_neg hk]
theorem wP {env:Env} {scope:Scope} (h:∀ y ∈ scope.names,y.2 = NameKind.free -> ∃ c,env.cells.lookup y.1 = some c):closureFor scope env = pure (qF env.cells scope.names []):=by
  have e:=J4 (env:=env) scope.names [] h
  unfold closureFor
  refine Eq.trans ?_ (Eq.trans (congrArg (fun m=>m >>= fun cs=>(pure cs:Sem (List (Str × Addr)))) e) ?_)
  · rfl
  · simp
theorem jF {cs:List (Str × Addr)} {x:Str}:∀ (names:List (Str × NameKind)) (acc:List (Str × Addr)),(qF cs names acc).lookup x = (if (names.any fun y=>y.2 == NameKind.free && x == y.1) = true then some ((cs.lookup x).getD 0) else acc.lookup x)
  | [],acc=>by simp [qF]
  | (n,k) :: r,acc=>by
    unfold qF
    rw [jF r]
    by_cases hr:(r.any fun y=>y.2 == NameKind.free && x == y.1) = true
    · rw [if_pos hr,if_pos (by rw [List.any_cons,hr,Bool.or_true])]
    · rw [if_neg hr]
      by_cases hk:(k == NameKind.free) = true
      · rw [if_pos hk]
        by_cases hx:(x == n) = true
        · rw [if_pos (by rw [List.any_cons];simp only [hk,hx,Bool.and_self,Bool.true_or])]
          have e:x = n:=by simpa using hx
          subst e
          simp [List.lookup_cons]
        · rw [if_neg (by rw [List.any_cons];simp only [hk,hx,Bool.and_false,Bool.false_or];exact hr)]
          have hx':(x == n) = false:=by simpa using hx
          simp [List.lookup_cons,hx']
      · rw [if_neg hk,if_neg (by rw [List.any_cons];simp only [hk,Bool.false_and,Bool.false_or];exact hr)]
abbrev zI (X:Cx) (N':List Str) (scope:Scope) (C:Addr) (s:Shared) (H:Hp) (ex:List Addr):Cx where
  prog:=X.prog
  w:=X.w
  K:=X.K
  mg:=X.mg
  base:=X.base
  A:=X.A
  N:=N'
  s₀:=s
  H₀:=H
  env:=compEnvC scope (qF X.env.cells scope.names []) C X.env
  outer:=X.stack
  stack:=X.stack
  ex:=ex
  fn:=fun _=>false
  calm:=X.calm
  pn:=[]
  xe:=fun _ _=>False
abbrev xX (ifs:List Expr) (env:Env):Sem Bool:=
  forIn ifs true fun (c:Expr) (r:Bool)=>if r = true then (isTrue c env (eval c env) >>= fun ok=>(pure (ForInStep.yield ok):Sem (ForInStep Bool))) else pure (ForInStep.yield r)
theorem yT {prog:Program} {w:World} {A:Around} {R:Result -> Shared -> Prop} {s:Shared} {elt tg iter:Expr} {ifs:List Expr} {scope:Scope} {pos:Pos} {it acc:Value} {env:Env} (J:Nat -> Shared -> Prop)
    (turn:∀ n s,J n s -> wpAny (model prog w) A (pyNext it) (fun r s1=>match r with
      | none=>R (.ok .next) s1
      | some v=>wpAny (model prog w) A (letOwnedTupleGo tg it v) (fun _ s2=>wpAny (model prog w) A (assign tg env v) (fun _ s3=>
          wpAny (model prog w) A (xX ifs env) (fun ok s4=>
            if ok = true then wpAny (model prog w) A (eval elt env) (fun x s5=>
              wpAny (model prog w) A (call (.builtin "list.append") [acc,x]) (fun _ s6=>∃ m,m < n /\ J m s6) (fun _ _=>False) s5) (fun _ _=>False) s4
            else ∃ m,m < n /\ J m s4) (fun _ _=>False) s3) (fun _ _=>False) s2) (fun _ _=>False) s1) (fun _ _=>False) s)
    (n:Nat) (h:J n s):codeAny (model prog w) A (.compLoop (.ListComp elt [⟨tg,iter,ifs,0⟩] scope pos) 0 it acc env) R s:=by
  have no:∀ {α:Type} {t:Sem α} {Q:α -> Shared -> Prop} {E:Value -> Shared -> Prop} {s:Shared},wpAny (model prog w) A t Q (fun _ _=>False) s -> wpAny (model prog w) A t Q E s:=fun x=>wpAny_mono x (fun _ _ q=>q) fun _ _ q=>q.elim
  refine codeAny_loop rfl J (fun k u hJ=>?_) n h
  show wpAny _ A ((compTurn (.ListComp elt [⟨tg,iter,ifs,0⟩] scope pos) 0 it acc env).onRaise (fun x=>do noteFrame x env;theTreesLotGoes x)) _ _ u
  refine wpAny_noted ?_
  rw [compTurn_list]
  refine wpAny_bind (wpAny_standAt (wpAny_bind (no (wpAny_mono (turn k u hJ) (fun r s1 h1=>?_) fun _ _ q=>q))))
  cases r with
  | none=>exact wpAny_pure h1
  | some v=>
    refine wpAny_bind (no (wpAny_mono h1 (fun _ s2 h2=>wpAny_bind (no (wpAny_mono h2 (fun _ s3 h3=>wpAny_bind (no (wpAny_mono h3 (fun ok s4 h4=>?_) fun _ _ q=>q))) fun _ _ q=>q))) fun _ _ q=>q))
    cases ok with
    | false=>exact wpAny_pure ⟨rfl,h4⟩
    | true=>
      have h4':wpAny (model prog w) A (eval elt env) (fun x s5=>wpAny (model prog w) A (call (.builtin "list.append") [acc,x]) (fun _ s6=>∃ m,m < k /\ J m s6) (fun _ _=>False) s5) (fun _ _=>False) s4:=h4
      refine wpAny_bind (wpAny_bind (no (wpAny_mono h4' (fun x s5 h5=>wpAny_bind (no (wpAny_mono h5 (fun _ s6 h6=>wpAny_pure (wpAny_pure ⟨rfl,h6⟩)) fun _ _ q=>q))) fun _ _ q=>q)))
def PF (X:Cx) (ifs:List Expr) (t:TT):Prop:=
  ∀ (pins:List (Addr × Obj)) (s:Shared) (σ:St) (H:Hp) (Q:Bool -> Hp -> Prop),Inv X pins σ H s -> t σ H Q -> wpAny (model X.prog X.w) X.A (xX ifs X.env) (TP X pins σ Q) X.xe s
def Ww:TT:=fun _ H Q=>Q true H
theorem qN {X:Cx}:PF X [] Ww:=fun pins s σ H Q I h=>wpAny_pure ⟨H,I,h⟩
theorem VA {X:Cx} {c:Expr} {t:TT} (hc:PT X c t):PF X [c] t:=by
  intro pins s σ H Q I h
  unfold xX
  simp only [List.forIn_cons,List.forIn_nil,if_true]
  refine wpAny_bind (wpAny_bind (thn (hc pins s σ H Q I h) fun ok s1 q=>wpAny_pure (wpAny_pure q)))
theorem wN {P:Program} {w:World} {H:Hp} {h h':Heap} {C:Addr} (x:HOk P w H h) (hn:H C = none) (k:∀ b o,b ≠ C -> h.get? b = some o -> h'.get? b = some o):HOk P w H h':=fun b u e=>by
  refine (x b u e).stay (fun c v hc q=>k c v ?_ q) (fun _ q=>q) fun _ _ q=>q
  rcases hc with z | z
  · rw [z];exact zr e hn
  · exact zr z hn
theorem xC {P:Program} {w:World} {H:Hp} {h:Heap} {a:Addr} {o:HO} (x:HOk P w H h) (hn:H a = none) (new:ObjOk P w (upd H a o) h a o):HOk P w (upd H a o) h:=fun b u e=>by
  by_cases hb:b = a
  · subst hb;rw [zd] at e;cases e;exact new
  · rw [zv hb] at e
    exact (x b u e).stay (fun c v _ q=>q) (fun c q=>by rw [zv (zr q hn)];exact q) fun c xs q=>by rw [zv (zr q hn)];exact q
theorem va {fs ex:List Addr} {H H':Hp} {h h':Heap} {a:Addr} {o:HO} (u:Un fs ex H H' h h') (ha:a ∈ ex) (hn:H a = none):Un fs ex H (upd H' a o) h h' where
  keep:=u.keep
  slot:=u.slot
  free:=fun b ob q n hx=>by
    have hb:b ≠ a:=fun z=>hx (by rw [z];exact ha)
    rw [zv hb];exact u.free b ob q n hx
  there:=u.there
  tups:=fun b xs q=>by rw [zv (zr q hn)];exact u.tups b xs q
  frzs:=fun b ob v q=>by rw [zv (zr q hn)];exact u.frzs b ob v q
  tbls:=fun b ps q=>by rw [zv (zr q hn)];exact u.tbls b ps q
theorem yX {fs ex:List Addr} {H H':Hp} {h h1 h2:Heap} {C:Addr} (u:Un fs ex H H' h h1) (hC:h.objs.size <= C) (k:∀ b o,b ≠ C -> h1.get? b = some o -> h2.get? b = some o):Un fs ex H H' h h2 where
  keep:=fun b o q n hb hx=>k b o (Nat.ne_of_lt (Nat.lt_of_lt_of_le (Heap.lt_size q) hC)) (u.keep b o q n hb hx)
  slot:=fun b o q n hb hx=>let ⟨sl,e⟩:=u.slot b o q n hb hx;⟨sl,k b _ (Nat.ne_of_lt (Nat.lt_of_lt_of_le (Heap.lt_size q) hC)) e⟩
  free:=u.free
  there:=fun b o q hx=>let ⟨o',e⟩:=u.there b o q hx;⟨o',k b _ (Nat.ne_of_lt (Nat.lt_of_lt_of_le (Heap.lt_size q) hC)) e⟩
  tups:=u.tups
  frzs:=u.frzs
  tbls:=u.tbls
def vF (sn on:List (Str × NameKind)) (N fr:List Str) (js:List Nat):Bool:=
  sn.all (fun y=>y.2 != .cell && (y.2 != .local || sn.lookup y.1 == some .local) && (y.2 != .free || (on.lookup y.1 == some .cell || on.lookup y.1 == some .free))) && fr.length == js.length
    && (fr.zip js).all fun p=>sn.lookup p.1 == some .free && N[p.2]? == some p.1
structure Xe (sn on:List (Str × NameKind)) (N fr:List Str) (js:List Nat):Prop where
  cell:∀ y ∈ sn,y.2 ≠ NameKind.cell
  loc:∀ y ∈ sn,y.2 = NameKind.local -> sn.lookup y.1 = some .local
  free:∀ y ∈ sn,y.2 = NameKind.free -> on.lookup y.1 = some .cell \/ on.lookup y.1 = some .free
  len:fr.length = js.length
  fr:∀ (k:Nat) (x:Str),fr[k]? = some x -> sn.lookup x = some .free /\ ∃ j:Nat,js[k]? = some j /\ N[j]? = some x
theorem vE {sn on:List (Str × NameKind)} {N fr:List Str} {js:List Nat} (h:vF sn on N fr js = true):Xe sn on N fr js:=by
  unfold vF at h
  rw [Bool.and_eq_true,Bool.and_eq_true,List.all_eq_true,List.all_eq_true] at h
  obtain ⟨⟨h1,h2⟩,h3⟩:=h
  have h2':fr.length = js.length:=by simpa using h2
  refine ⟨fun y hy=>?_,fun y hy e=>?_,fun y hy e=>?_,h2',fun k x e=>?_⟩
  · have:=h1 y hy
    simp only [Bool.and_eq_true,bne_iff_ne] at this
    exact this.1.1
  · have:=h1 y hy
    simp only [Bool.and_eq_true,Bool.or_eq_true,bne_iff_ne,beq_iff_eq] at this
    exact this.1.2.resolve_left fun z=>z e
  · have:=h1 y hy
    simp only [Bool.and_eq_true,Bool.or_eq_true,bne_iff_ne,beq_iff_eq] at this
    exact this.2.resolve_left fun z=>z e
  · have hk:k < fr.length:=(List.getElem?_eq_some_iff.mp e).1
    have hj:k < js.length:=by omega
    have hm:(x,js[k]) ∈ fr.zip js:=by
      refine List.mem_of_getElem? (i:=k) ?_
      rw [List.getElem?_zip_eq_some]
      exact ⟨e,by simp [hj]⟩
    have:=h3 _ hm
    simp only [Bool.and_eq_true,beq_iff_eq] at this
    exact ⟨this.1,js[k],by simp [hj],this.2⟩
def upS (n:Nat) (js:List Nat) (σ:St):St:=List.replicate n none ++ js.map fun j=>(σ[j]?).join
def tLC (wi:TI) (n:Nat) (js:List Nat) (g:TG) (tf:TT) (te:TE):TE:=fun σ H Q=>wi σ H fun J H1=>
  ∃ W:Nat -> Nat -> List V -> Hp -> Prop,(∃ m,W 0 m [] H1) /\ ∀ i m ys H2,W i m ys H2 ->
    (J.stop i H2 /\ ys.length <= sizeLine /\ ∀ D,H2 D = none -> Q (.ref D) (upd H2 D (.lst ys))) \/
    (J.go i H2 /\ ∃ N:List V -> Hp -> Prop,(∀ zs H',N zs H' -> ∃ m',m' < m /\ W (i + 1) m' zs H') /\ ∀ x H3,J.yld i H2 x H3 -> g x (upS n js σ) H3 fun σ4 H4=>σ4.drop n = (upS n js σ).drop n /\ tf σ4 H4 fun b H5=>
      if b = true then te σ4 H5 fun y H6=>ys.length < sizeLine /\ N (ys ++ [y]) H6 else N ys H5)
theorem jO {env:Env} {x:Str} {k':NameKind}:∀ {names:List (Str × NameKind)},(names.map fun (n,k)=>if (k == NameKind.free && env.scope.kind == .function && env.kindOf n == some .cell) then (n,NameKind.cell) else (n,k)).lookup x = some k' ->
    ∃ k,names.lookup x = some k /\ (k' = k \/ (k = .free /\ k' = .cell))
  | [],h=>by simp at h
  | (n,k) :: r,h=>by
    by_cases hx:(x == n) = true
    · refine ⟨k,by simp [List.lookup_cons,hx],?_⟩
      have h:List.lookup x ((if (k == NameKind.free && env.scope.kind == .function && env.kindOf n == some .cell) = true then (n,NameKind.cell) else (n,k)) :: _) = some k':=h
      by_cases hc:(k == NameKind.free && env.scope.kind == .function && env.kindOf n == some .cell) = true
      · rw [if_pos hc,List.lookup_cons,hx] at h
        simp only [Bool.and_eq_true,beq_iff_eq] at hc
        exact .inr ⟨hc.1.1,(Option.some.inj h).symm⟩
      · rw [if_neg hc,List.lookup_cons,hx] at h
        exact .inl (Option.some.inj h).symm
    · have hx':(x == n) = false:=by simpa using hx
      have h:List.lookup x ((if (k == NameKind.free && env.scope.kind == .function && env.kindOf n == some .cell) = true then (n,NameKind.cell) else (n,k)) :: _) = some k':=h
      have h2:(r.map fun (n,k)=>if (k == NameKind.free && env.scope.kind == .function && env.kindOf n == some .cell) then (n,NameKind.cell) else (n,k)).lookup x = some k':=by
        by_cases hc:(k == NameKind.free && env.scope.kind == .function && env.kindOf n == some .cell) = true
        · rw [if_pos hc,List.lookup_cons,hx'] at h;exact h
        · rw [if_neg hc,List.lookup_cons,hx'] at h;exact h
      obtain ⟨k0,e,z⟩:=jO h2
      exact ⟨k0,by rw [List.lookup_cons,hx'];exact e,z⟩
theorem xc {env:Env} {x:Str}:∀ {names:List (Str × NameKind)},names.lookup x = some .free -> ∃ k',(names.map fun (n,k)=>if (k == NameKind.free && env.scope.kind == .function && env.kindOf n == some .cell) then (n,NameKind.cell) else (n,k)).lookup x = some k' /\ (k' = .cell \/ k' = .free)
  | [],h=>by simp at h
  | (n,k) :: r,h=>by
    by_cases hx:(x == n) = true
    · rw [List.lookup_cons,hx] at h
      cases (Option.some.inj h)
      show ∃ k',List.lookup x ((if (NameKind.free == NameKind.free && env.scope.kind == .function && env.kindOf n == some .cell) = true then (n,NameKind.cell) else (n,NameKind.free)) :: _) = some k' /\ _
      by_cases hc:(NameKind.free == NameKind.free && env.scope.kind == .function && env.kindOf n == some .cell) = true
      · rw [if_pos hc];exact ⟨.cell,by simp [List.lookup_cons,hx],.inl rfl⟩
      · rw [if_neg hc];exact ⟨.free,by simp [List.lookup_cons,hx],.inr rfl⟩
    · have hx':(x == n) = false:=by simpa using hx
      rw [List.lookup_cons,hx'] at h
      obtain ⟨k',e,z⟩:=xc (env:=env) (names:=r) h
      refine ⟨k',?_,z⟩
      show List.lookup x ((if (k == NameKind.free && env.scope.kind == .function && env.kindOf n == some .cell) = true then (n,NameKind.cell) else (n,k)) :: _) = some k'
      by_cases hc:(k == NameKind.free && env.scope.kind == .function && env.kindOf n == some .cell) = true
      · rw [if_pos hc,List.lookup_cons,hx'];exact e
      · rw [if_neg hc,List.lookup_cons,hx'];exact e
theorem zR {cs:List (Str × Addr)} {names:List (Str × NameKind)} {x:Str} {c:Addr} (h:(qF cs names []).lookup x = some c) (hf:∀ y ∈ names,y.2 = NameKind.free -> ∃ c,cs.lookup y.1 = some c):cs.lookup x = some c:=by
  rw [jF] at h
  by_cases hr:(names.any fun y=>y.2 == NameKind.free && x == y.1) = true
  · rw [if_pos hr] at h
    obtain ⟨y,hy,e⟩:=List.any_eq_true.mp hr
    simp only [Bool.and_eq_true,beq_iff_eq] at e
    obtain ⟨c',e'⟩:=hf y hy e.1
    rw [<- e.2] at e'
    rw [e'] at h ⊢
    exact h
  · rw [if_neg hr] at h
    cases h
theorem j4 {cs:List (Str × Addr)} {names:List (Str × NameKind)} {x:Str} (h:names.lookup x = some .free):(qF cs names []).lookup x = some ((cs.lookup x).getD 0):=by
  rw [jF,if_pos]
  exact List.any_eq_true.mpr ⟨(x,.free),PySem.mem_of_lookup h,by simp⟩
theorem jM {n:Nat} {js:List Nat} {σ:St} {i:Nat} {v:V} (h:(upS n js σ)[i]? = some (some v)):n <= i /\ ((upS n js σ).drop n)[i - n]? = some (some v) /\ ∃ j:Nat,js[i - n]? = some j /\ σ[j]? = some (some v):=by
  unfold upS at h ⊢
  by_cases hi:i < n
  · rw [List.getElem?_append_left (by simpa using hi),List.getElem?_replicate] at h
    split at h <;> cases h
  · have e:(List.replicate n (none:Option V) ++ js.map fun j=>(σ[j]?).join).drop n = js.map fun j=>(σ[j]?).join:=by
      rw [List.drop_append_of_le_length (by simp)];simp
    rw [List.getElem?_append_right (by simpa using hi),List.length_replicate] at h
    refine ⟨by omega,by rw [e];exact h,?_⟩
    rw [List.getElem?_map] at h
    cases ej:js[i - n]? with
    | none=>rw [ej] at h;cases h
    | some j=>
      rw [ej] at h
      have h:(σ[j]?).join = some v:=Option.some.inj h
      refine ⟨j,rfl,?_⟩
      cases eo:σ[j]? with
      | none=>rw [eo] at h;cases h
      | some o=>rw [eo] at h;exact congrArg some h
theorem Zw {n:Nat} {js:List Nat} {σ:St}:(upS n js σ).length = n + js.length:=by unfold upS;simp
section
variable {X:Cx} {elt tg iter:Expr} {ifs:List Expr} {scope:Scope} {pos:Pos} {wi:TI} {g:TG} {tf:TT} {te:TE}
theorem wk {pins:List (Addr × Obj)} {σ:St} {H:Hp} {s:Shared} {fp:List Addr} (own fr:List Str) (js:List Nat) (I:Inv X pins σ H s) (B:Xe scope.names X.env.scope.names X.N fr js) (hk:scope.kind = .function)
    (f2:∀ b ∈ fp,jI X pins H b) (fl:∀ b ∈ fp,b < s.heap.objs.size) {D C:Addr} (hD:D = s.heap.objs.size) {h3 h1:Heap} (e3:h3 = s.heap.push { cls:=.type "list",dict:=none,data:=.seq ([]:List Value).toArray }) (hC:C = h3.objs.size)
    {m:Str -> Option Value} (hns:h1.Ns C m) (k4:∀ b o,h3.get? b = some o -> h1.get? b = some o) {t4:Nat} :
    Inv (zI X (own ++ fr) scope C { s with heap:=h3 } H (D :: fp)) [] (upS own.length js σ) H { s with heap:=h1,toks:=t4 }:=by
  have k3:∀ b o,s.heap.get? b = some o -> h3.get? b = some o:=fun b o e=>by rw [e3];exact Heap.get?_push_of_some _ e
  have I3:Inv X pins σ H { s with heap:=h3 }:=I.kept (t':=s.toks) k3
  have hz:h3.objs.size = s.heap.objs.size + 1:=by rw [e3,Heap.size_push]
  have hasF:∀ y ∈ scope.names,y.2 = NameKind.free -> ∃ c,X.env.cells.lookup y.1 = some c:=fun y hy e=>I.ok.has y.1 (B.free y hy e)
  have cellLt:∀ x c,X.env.cells.lookup x = some c -> c < s.heap.objs.size:=fun x c e=>by
    obtain ⟨v,q⟩:=I.cell x c e
    exact q.lt
  refine ⟨⟨I.ok.mod,hk,I.ok.glob,I.ok.blt,Nat.le_of_eq hC.symm,fun x y c e1 e2=>?_,fun x hx=>?_,fun x c hf=>(nomatch hf),fun hc=>I.ok.hd hc,I.ok.frames,.inl rfl,fun b hb=>?_,I3.bs,Nat.le_trans I.ok.bsz I3.sz,fun b o e hb=>?_,fun b hb hf=>?_,I3.stack,I3.stkFree⟩,
    rfl,I.bare,Un.kept k4,⟨m,hns,fun i x v e1 e2 e3'=>?_⟩,fun x c e=>?_,?_,fun x c e=>?_,fun p hp=>absurd (show p ∈ ([]:List (Addr × Obj)) from hp) (by simp),I3.hok.kept k4,?_⟩
  · exact I.ok.inj x y c (zR e1 hasF) (zR e2 hasF)
  · obtain ⟨k,e,z⟩:∃ k,scope.names.lookup x = some k /\ (k = .free):=by
      rcases hx with hx | hx
      · obtain ⟨k,e,z⟩:=jO hx
        rcases z with z | z
        · subst z;exact absurd rfl (B.cell _ (PySem.mem_of_lookup e))
        · exact ⟨k,e,z.1⟩
      · obtain ⟨k,e,z⟩:=jO hx
        rcases z with z | z
        · subst z;exact ⟨_,e,rfl⟩
        · exact ⟨k,e,z.1⟩
    subst z
    exact ⟨_,j4 e⟩
  · rcases List.mem_cons.mp hb with z | hb
    · subst z
      refine ⟨by rw [hD,hC,hz];exact Nat.ne_of_lt (Nat.lt_succ_self _),fun x c e=>?_⟩
      have:=cellLt x c (zR e hasF)
      rw [hD];exact Nat.ne_of_lt this
    · refine ⟨by rw [hC,hz];exact Nat.ne_of_lt (Nat.lt_succ_of_lt (fl b hb)),fun x c e=>?_⟩
      exact (f2 b hb).2.2.2.2.1 x c (zR e hasF)
  · rcases List.mem_cons.mp hb with z | hb
    · have:=Heap.lt_size (I.bk b o e)
      rw [z,hD] at this
      exact Nat.lt_irrefl _ this
    · rcases (f2 b hb).2.2.2.1 with z | z
      · exact I.ok.noex b o e z
      · exact absurd (Nat.lt_of_lt_of_le (Heap.lt_size (I.ok.bs b o e).1) z) (Nat.lt_irrefl _)
  · have hf':=List.mem_cons.mp (I.stkSub b hf)
    rcases List.mem_cons.mp hb with z | hb
    · rcases hf' with y | y
      · have:=I.lt
        rw [<- y,z,hD] at this
        exact Nat.lt_irrefl _ this
      · exact I.nofs (a:=b) (by rw [z,hD];exact Nat.le_refl _) y
    · rcases hf' with y | y
      · exact (f2 b hb).2.1 y
      · exact (f2 b hb).2.2.1 y
  · obtain ⟨hn,_,j,ej,es⟩:=jM e2
    have ex:fr[i - own.length]? = some x:=by rw [List.getElem?_append_right hn] at e1;exact e1
    obtain ⟨hfx,j',ej',eN⟩:=B.fr _ x ex
    have:j' = j:=by rw [ej] at ej';exact (Option.some.inj ej').symm
    subst this
    have hkx:=B.free _ (PySem.mem_of_lookup hfx) rfl
    obtain ⟨m0,_,hl⟩:=I.loc
    obtain ⟨u,r,l⟩:=hl j' x v eN es (by rcases hkx with z | z;exact .inr (.inl z);exact .inr (.inr z))
    refine ⟨u,r,.inr ?_⟩
    rcases l with ⟨kl,_⟩ | ⟨_,c,ec,o,eo,ed⟩
    · have kl':X.env.scope.names.lookup x = some .local:=kl
      rcases hkx with z | z
      · exact absurd (z.symm.trans kl') (by decide)
      · exact absurd (z.symm.trans kl') (by decide)
    · obtain ⟨k',e',z⟩:=xc (env:=X.env) hfx
      have eq:(qF X.env.cells scope.names []).lookup x = some c:=by rw [j4 hfx,ec];rfl
      refine ⟨?_,c,eq,o,k4 c o (k3 c o eo),ed⟩
      rcases z with z | z
      · subst z;exact .inl e'
      · subst z;exact .inr e'
  · obtain ⟨v,o,eo,ed⟩:=I.cell x c (zR e hasF)
    exact ⟨v,o,k4 c o (k3 c o eo),ed⟩
  · exact I3.hok.fresh (Nat.le_of_eq hC.symm)
  · exact I.freeC x c (zR e hasF)
  · rw [Zw,<- B.len]
    show _ = (own ++ fr).length
    rw [List.length_append]
theorem Vi (own fr:List Str) (js:List Nat) (hc:X.calm = true) (hk:scope.kind = .function) (hb:vF scope.names X.env.scope.names X.N fr js = true) (hi:PI X tg iter wi)
    (hg:∀ C s H ex,PG (zI X (own ++ fr) scope C s H ex) tg g) (hf:∀ C s H ex,PF (zI X (own ++ fr) scope C s H ex) ifs tf) (he:∀ C s H ex,PE (zI X (own ++ fr) scope C s H ex) elt te)
    (hs:∀ x,foldedSetIterable iter X.env x = pure x:=by intro _;rfl):PE X (.ListComp elt [⟨tg,iter,ifs,0⟩] scope pos) (tLC wi own.length js g tf te):=by
  intro pins s σ H Q I h
  have B:=vE hb
  have hasF:∀ y ∈ scope.names,y.2 = NameKind.free -> ∃ c,X.env.cells.lookup y.1 = some c:=fun y hy e=>I.ok.has y.1 (B.free y hy e)
  rw [eval_ListComp]
  refine wpAny_comprehension_free (use:=none) rfl hs (wP hasF) hk (fun y hy e=>B.loc y hy e) (thn (hi pins s σ H _ I h) fun v s1 h1=>thn h1 fun itv s2 h2=>?_)
  obtain ⟨it,fp,tn,J,H2,e,I2,T,st2,f2,W,⟨m0,w0⟩,turn⟩:=h2
  subst e
  have fl:∀ b ∈ fp,b < s2.heap.objs.size:=fun b hb=>let ⟨o,e,_⟩:=T.obj _ _ st2 b hb;Heap.lt_size e
  refine wpAny_newObj_type (wpAny_newFunctionEnv B.cell (by intro y hy;simp at hy) (fun h1 hns hsb=>?_) hk)
  dsimp only at hns hsb ⊢
  generalize e3:s2.heap.push { cls:=.type "list",dict:=none,data:=.seq ([]:List Value).toArray } = h3 at hns hsb ⊢
  have k3:∀ b o,s2.heap.get? b = some o -> h3.get? b = some o:=fun b o e=>by rw [<- e3];exact Heap.get?_push_of_some _ e
  have k4:∀ b o,h3.get? b = some o -> h1.get? b = some o:=fun b o e=>hsb.extBut b o (Nat.ne_of_lt (Heap.lt_size e)) (Heap.get?_push_of_some _ e)
  have I4:Inv (zI X (own ++ fr) scope h3.objs.size { s2 with heap:=h3 } H2 (s2.heap.objs.size :: fp)) [] (upS own.length js σ) H2 { s2 with heap:=h1,toks:=s2.toks + ([]:List (Str × Value)).length }:=
    wk own fr js I2 B hk f2 fl rfl e3.symm rfl hns k4
  have I3:Inv X pins σ H2 { s2 with heap:=h3 }:=I2.kept (t':=s2.toks) k3
  have hz:h3.objs.size = s2.heap.objs.size + 1:=by rw [<- e3,Heap.size_push]
  have hDl:s2.heap.objs.size ≠ h3.objs.size:=by rw [hz];exact Nat.ne_of_lt (Nat.lt_succ_self _)
  have hacc:h1.get? s2.heap.objs.size = some { cls:=.type "list",data:=.seq ([]:List Value).toArray }:=k4 _ _ (by rw [<- e3];exact Heap.get?_push_size _ rfl)
  generalize eD:s2.heap.objs.size = D at *
  generalize eC:h3.objs.size = C at *
  have fD:∀ b ∈ fp,D ≠ b:=fun b hb=>Nat.ne_of_gt (fl b hb)
  have hx:∀ x c,(qF X.env.cells scope.names []).lookup x = some c -> c ≠ D:=fun x c e=>by
    obtain ⟨v,q⟩:=I2.cell x c (zR e hasF)
    rw [<- eD];exact Nat.ne_of_lt q.lt
  have hx2:∀ b ∈ fp,∀ x c,(qF X.env.cells scope.names []).lookup x = some c -> c ≠ b:=fun b hb x c e=>(f2 b hb).2.2.2.2.1 x c (zR e hasF)
  have nfs:∀ b ∈ D :: fp,b ∉ frs X.stack:=I4.ok.exfs
  have fpB:∀ {pins':List (Addr × Obj)} {H':Hp} {b:Addr},b ∈ fp -> H' b = none -> (∀ p ∈ pins',p.1 ≠ b) -> jI (zI X (own ++ fr) scope C { s2 with heap:=h3 } H2 (D :: fp)) pins' H' b:=fun {pins' H' b} hb hn hp=>
    ⟨hn,(I4.ok.exf b (List.mem_cons_of_mem _ hb)).1,nfs b (List.mem_cons_of_mem _ hb),.inl (List.mem_cons_of_mem _ hb),fun x c e=>hx2 b hb x c e,fun p h=>hp p (by simpa using h)⟩
  have fpD:∀ {pins':List (Addr × Obj)} {H':Hp},H' D = none -> (∀ p ∈ pins',p.1 ≠ D) -> jI (zI X (own ++ fr) scope C { s2 with heap:=h3 } H2 (D :: fp)) pins' H' D:=fun {pins' H'} hn hp=>
    ⟨hn,hDl,nfs D List.mem_cons_self,.inl List.mem_cons_self,fun x c e=>hx x c e,fun p h=>hp p (by simpa using h)⟩
  have loop:∀ s4:Shared,s4 = { s2 with heap:=h1,toks:=s2.toks + ([]:List (Str × Value)).length } ->
      codeAny (model X.prog X.w) X.A (.compLoop (.ListComp elt [⟨tg,iter,ifs,0⟩] scope pos) 0 (.ref it) (.ref D) (compEnvC scope (qF X.env.cells scope.names []) C X.env))
        (compPost (model X.prog X.w) X.A X.xe none (EP X pins σ Q) (.ref D) C) s4:=by
    intro s4 e4
    refine yT (fun n s'=>∃ i ys its H',∃ z:Nat,Inv (zI X (own ++ fr) scope C { s2 with heap:=h3 } H2 (D :: fp)) [] (upS own.length js σ) H' s' /\ tn i s'.heap /\ (∀ b ∈ fp,H' b = none) /\ H' D = none /\
      s'.heap.get? D = some { cls:=.type "list",data:=.seq (its:List Value).toArray z } /\ Vals ys its /\ W i n ys H') ?_ m0 ?_
    · rintro n s5 ⟨i,ys,its,H5,z5,I5,st5,fr5,hD5,ho5,rv5,w5⟩
      have I5':=I5.pinned (fp:=[D]) (fun b hb=>by rw [List.mem_singleton.mp hb];exact fpD hD5 (fun p hp=>absurd hp (by simp))) (fun b hb=>by
        rw [List.mem_singleton.mp hb];exact ⟨_,ho5,fun v q=>nomatch q⟩)
      have pD:∀ p ∈ [] ++ zO [D] s5.heap,p.1 = D:=fun p hp=>by
        rw [List.nil_append] at hp
        exact List.mem_singleton.mp (jZ hp).1
      have mD:(D,({ cls:=.type "list",data:=.seq its.toArray z5 }:Obj)) ∈ [] ++ zO [D] s5.heap:=by
        rw [List.nil_append];exact qq (List.mem_singleton.mpr rfl) ho5
      have fp5:∀ {H':Hp},(∀ b ∈ fp,H' b = none) -> ∀ b ∈ fp,jI (zI X (own ++ fr) scope C { s2 with heap:=h3 } H2 (D :: fp)) ([] ++ zO [D] s5.heap) H' b:=fun hn b hb=>fpB hb (hn b hb) fun p hp=>by
        rw [pD p hp];exact fD b hb
      rcases turn i n ys H5 w5 with ⟨stop,hlen,q⟩ | ⟨go,N,hN,step⟩
      · refine thn (T.done (zI X (own ++ fr) scope C { s2 with heap:=h3 } H2 (D :: fp)) rfl rfl rfl hc i _ s5 _ H5 _ I5' (fp5 fr5) st5 stop) fun r s6 ⟨hr,I6⟩=>?_
        subst hr
        obtain ⟨m6,hn6,_⟩:=I6.loc
        refine ⟨m6,hn6,fun h7 hs7=>?_⟩
        obtain ⟨o6,nD6,_⟩:=I6.pin (D,_) (List.mem_append_right _ mD)
        have k7:∀ b o,b ≠ C -> s6.heap.get? b = some o -> h7.get? b = some o:=fun b o hb e=>hs7.extBut b o hb e
        refine ⟨.ref D,upd H5 D (.lst ys),?_,rfl,q D nD6⟩
        refine I3.call' (s':={ s6 with heap:=h7 }) (ch:=D :: fp) I6.os (va (yX I6.base (Nat.le_of_eq eC) k7) List.mem_cons_self (I2.hok.fresh ?_)) (xC (wN I6.hok I6.free k7) nD6 ⟨hlen,its,z5,rv5,k7 D _ hDl o6⟩) I6.bare fun b hb=>?_
        · rw [<- eD];exact Nat.le_refl _
        · rcases List.mem_cons.mp hb with y | hb
          · subst y
            refine ⟨.inr (by rw [<- eD];exact I2.sz),by rw [<- eD];exact Nat.ne_of_gt I2.lt,fun x c e=>?_,fun p hp=>?_⟩
            · obtain ⟨v,q⟩:=I2.cell x c e
              rw [<- eD];exact Nat.ne_of_lt q.lt
            · rw [<- eD];exact Nat.ne_of_lt (Heap.lt_size (I2.pin p hp).1)
          · obtain ⟨_,g1,_,g3,g4,g5⟩:=f2 b hb
            exact ⟨g3,g1,g4,g5⟩
      · refine thn (T.item (zI X (own ++ fr) scope C { s2 with heap:=h3 } H2 (D :: fp)) rfl rfl rfl hc i _ s5 _ H5 _ I5' (fp5 fr5) st5 go) fun r s6 ⟨u,hr,h6⟩=>?_
        subst hr
        refine thn h6 fun _ s7 ⟨x,H7,I7,r7,y7,st7,fr7⟩=>?_
        have I7':=I7.pinned (fp5 fr7) (T.obj _ _ st7)
        refine thn (hg _ _ _ _ _ s7 _ H7 x u _ I7' r7 (step x H7 y7)) fun _ s8 ⟨σ8,H8,I8,hd8,q8⟩=>?_
        refine thn (hf _ _ _ _ _ s8 σ8 H8 _ I8 q8) fun ok s9 ⟨H9,I9,q9⟩=>?_
        have weak:∀ {H':Hp} {s':Shared},Inv (zI X (own ++ fr) scope C { s2 with heap:=h3 } H2 (D :: fp)) (([] ++ zO [D] s5.heap) ++ zO fp s7.heap) σ8 H' s' ->
            Inv (zI X (own ++ fr) scope C { s2 with heap:=h3 } H2 (D :: fp)) [] (upS own.length js σ) H' s':=fun {H' s'} J=>by
          refine (J.unpinned).unpinned.weak (I5.len.trans J.len.symm) fun k v e=>?_
          obtain ⟨hn,e1,_⟩:=jM e
          rw [<- hd8,List.getElem?_drop] at e1
          rw [<- e1]
          congr 1
          omega
        have mF:∀ b ∈ fp,∀ o,s7.heap.get? b = some o -> (b,o) ∈ ([] ++ zO [D] s5.heap) ++ zO fp s7.heap:=fun b hb o e=>List.mem_append_right _ (qq hb e)
        have mD':=List.mem_append_left (zO fp s7.heap) mD
        have frB:∀ {H':Hp} {s':Shared},Inv (zI X (own ++ fr) scope C { s2 with heap:=h3 } H2 (D :: fp)) (([] ++ zO [D] s5.heap) ++ zO fp s7.heap) σ8 H' s' -> ∀ b ∈ fp,H' b = none:=fun {H' s'} J b hb=>by
          obtain ⟨o,e,_⟩:=T.obj _ _ st7 b hb
          exact (J.pin (b,o) (List.mem_append_right _ (mF b hb o e))).2.1
        cases ok with
        | false=>
          have q9':N ys H9:=by simpa using q9
          obtain ⟨m',hm,w'⟩:=hN _ _ q9'
          obtain ⟨o9,nD9,_⟩:=I9.pin (D,_) (List.mem_append_right _ mD')
          exact ⟨m',hm,i + 1,ys,its,H9,z5,weak I9,T.keep _ _ _ st7 fun b hb o e=>(I9.pin (b,o) (List.mem_append_right _ (mF b hb o e))).1,frB I9,nD9,o9,rv5,w'⟩
        | true=>
          have q9':te σ8 H9 fun y H6=>ys.length < sizeLine /\ N (ys ++ [y]) H6:=by simpa using q9
          refine thn (he _ _ _ _ _ s9 σ8 H9 _ I9 q9') fun yv s10 ⟨y,H10,I10,r10,hlt,w10⟩=>?_
          obtain ⟨m',hm,w'⟩:=hN _ _ w10
          obtain ⟨o10,nD10,_⟩:=I10.pin (D,_) (List.mem_append_right _ mD')
          refine wpAny_list_append_plain (l:=D) (items:=its.toArray) (hsz:=by rw [List.size_toArray,<- rv5.length];exact Nat.le_of_lt hlt) ⟨_,o10⟩ fun h11 hl11 hs11=>?_
          obtain ⟨z11,e11⟩:=hl11
          refine ⟨m',hm,i + 1,ys ++ [y],its ++ [yv],H10,z11,?_,T.keep _ _ _ st7 fun b hb o e=>hs11.extBut b o (Ne.symm (fD b hb)) (I10.pin (b,o) (List.mem_append_right _ (mF b hb o e))).1,frB I10,nD10,?_,rv5.append (.cons r10 .nil),w'⟩
          · exact (weak I10).turned (t':=s10.toks) (it:=D) (fun b o hb e=>hs11.extBut b o hb e) nD10 hDl (.inl List.mem_cons_self) (fun x c e=>hx x c e) fun p hp=>absurd (show p ∈ ([]:List (Addr × Obj)) from hp) (by simp)
          · rw [e11];simp
    · subst e4
      exact ⟨0,[],[],H2,0,I4,T.keep _ _ _ st2 fun b hb o e=>k4 b o (k3 b o e),fun b hb=>(f2 b hb).1,I2.hok.fresh (by rw [<- eD];exact Nat.le_refl _),hacc,.nil,w0⟩
  exact codeAny_compStart_list (loop _ rfl) (T.self X.A 0 _ _ _ (T.keep _ _ _ st2 fun b hb o e=>k4 b o (k3 b o e)) (loop _ rfl))
end
section
variable {X:Cx} {pins:List (Addr × Obj)} {σ:St} {H:Hp} {s:Shared}
theorem Z0 {ch:List Addr} {h':Heap} {t':Nat} {T:Addr} {ys:List V} {its:List Value} (I:Inv X pins σ H s) (hf:∀ b ∈ ch,jI X pins H b) (hT:s.heap.objs.size <= T)
    (k:∀ b o,b ∉ ch -> s.heap.get? b = some o -> h'.get? b = some o) (hl:ys.length <= sizeLine) (rv:Vals ys its) (ht:TupX h' T its.toArray) :
    Inv X pins σ (upd H T (.tup ys)) { s with heap:=h',toks:=t' }:=by
  have hn:H T = none:=I.hok.fresh hT
  have ne:∀ b o,s.heap.get? b = some o -> b ≠ T:=fun b o e=>Nat.ne_of_lt (Nat.lt_of_lt_of_le (Heap.lt_size e) hT)
  have tr:∀ b u,H b = some u -> b ∉ ch:=fun b u e hb=>by rw [(hf b hb).1] at e;cases e
  refine I.step (g':=s.gens) (d':=s.drawn) (ch:=ch) (fun b hb=>?_) (fun b o _ _ hc e _=>k b o hc e) (fun b o _ _ hc e _=>⟨o.slots,k b o hc e⟩) (fun b o _ e n=>by rw [zv (ne b o e)];exact n) (fun b o hc e=>⟨o,k b o hc e⟩)
    (fun b xs e=>by rw [zv (zr e hn)];exact e) (fun b o u e=>by rw [zv (zr e hn)];exact e) (fun b ps e=>⟨#[],by rw [zv (zr e hn),e];simp⟩) (fun m hm=>?_) (fun b u e=>?_) I.bare
  · obtain ⟨_,g1,_,g3,g4,g5⟩:=hf b hb
    exact ⟨g3,g1,g4,g5⟩
  · obtain ⟨o,es,ep,ho,r⟩:=hm
    exact ⟨o,es,ep,k _ o (fun z=>(hf _ z).2.1 rfl) ho,r⟩
  · by_cases hb:b = T
    · subst hb
      rw [zd] at e
      cases e
      exact ⟨hl,its,rv,ht⟩
    · rw [zv hb] at e
      refine (I.hok b u e).stay (fun c v hc q=>k c v ?_ q) (fun c q=>by rw [zv (zr q hn)];exact q) fun c xs q=>by rw [zv (zr q hn)];exact q
      rcases hc with z | z
      · rw [z];exact tr b u e
      · exact tr c _ z
end
def Ite (K:PySem.W.Frag) (a:Addr):It:=
  ⟨fun i H=>∃ xs x,SqL K H a xs /\ xs[i]? = some x,fun i H x H'=>∃ T y,x = .ref T /\ H T = none /\ H' = upd H T (.tup [.int i,y]) /\ ∀ xs,SqL K H a xs -> xs[i]? = some y,fun i H=>∃ xs,SqL K H a xs /\ xs.length <= i⟩
theorem Qv {P:Program} {w:World} {K:PySem.W.Frag} {elts:List Expr} {kk:Nat} {pos:Pos} (a e it:Addr) (hne:e ≠ it) :
    QV P w K (.Tuple elts kk pos) (Ite K a) [e,it] e (fun i h=>(∃ old,IsEnum h e it i old) /\ h.IsListIter it a i) where
  mem:=by simp
  obj:=fun i h st b hb=>by
    obtain ⟨⟨old,he⟩,⟨o,ho,c,d⟩⟩:=st
    rcases List.mem_cons.mp hb with z | z
    · subst z;exact ⟨_,he,fun v q=>nomatch q⟩
    · rw [List.mem_singleton.mp z];exact ⟨o,ho,fun v q=>by rw [d] at q;cases q⟩
  keep:=fun i h h' st k=>by
    obtain ⟨⟨old,he⟩,hi⟩:=st
    exact ⟨⟨old,k e (by simp) _ he⟩,hi.at fun o q=>k it (by simp) o q⟩
  item:=by
    intro X hP hw hK hc i pins s σ H E I hf st hg
    subst hP hw hK
    obtain ⟨⟨old,he⟩,hit⟩:=st
    obtain ⟨xs,x,hq,hx⟩:=hg
    obtain ⟨its,rv,p,hz⟩:=I.list hq
    obtain ⟨u,hu,ru⟩:=rv.get hx
    have hl:=p.isList
    have hai:a ≠ it:=fun z=>by
      obtain ⟨o,e1,c1,_⟩:=hl
      obtain ⟨o',e2,c2,_⟩:=hit
      rw [z,e2] at e1;cases e1;rw [c2] at c1;exact absurd (Value.type.inj c1) (by decide)
    have hae:e ≠ a:=fun z=>by
      obtain ⟨o,e1,c1,_⟩:=hl
      rw [<- z,he] at e1;cases e1;exact absurd (Value.type.inj c1) (by decide)
    have D:=Draws.list (prog:=X.prog) (w:=X.w) (A:=X.A.in1) (I.ok.hd hc) it a hai its.toArray
    have hi:i < its.toArray.size:=by
      have h1:=(List.getElem?_eq_some_iff.mp hu).1
      simpa using h1
    refine wpAny_pyNext_enum_itemD D he ⟨hit,hl⟩ hi hne (by simp [hne,hae]) fun x' h' tk hP' hout hst' hT hsz hk=>?_
    have ex:x' = u:=by
      have h2:its[i]? = some x':=by simpa using hP'
      rw [hu] at h2;exact (Option.some.inj h2).symm
    subst ex
    refine ⟨_,rfl,wpAny_letOwnedTupleGo_enum hout fun h2 he2 hs2=>?_⟩
    have eT:s.heap.objs.size ≠ e:=Nat.ne_of_gt (Heap.lt_size he)
    have k2:∀ b o,b ∉ [e,it] -> s.heap.get? b = some o -> h2.get? b = some o:=fun b o hb q=>by
      have n1:b ≠ e:=fun z=>hb (by simp [z])
      have n2:b ≠ it:=fun z=>hb (by simp [z])
      exact (hs2.2 b n1).trans (hk b o n1 n2 q)
    have it2:h2.IsListIter it a (i + 1):=hst'.1.extBut hs2.extBut (Ne.symm hne)
    refine ⟨.ref s.heap.objs.size,upd H s.heap.objs.size (.tup [.int i,x]),?_,rfl,⟨_,x,rfl,I.hok.fresh (Nat.le_refl _),rfl,fun ys hy=>by rw [I.list_inj hy hq];exact hx⟩,⟨⟨_,by simpa using he2⟩,it2⟩,fun b hb=>?_⟩
    · refine Z0 (s:=s) (h':=h2) (t':=tk + 1) (its:=[.int i tk,x']) I hf (Nat.le_refl _) k2 (by rw [sizeLine_eq];exact (by decide:2 <= 16777216)) (.cons ⟨tk,rfl⟩ (.cons ru .nil)) (TupX.by ((hs2.2 _ eT).trans hT))
    · have hb':b < s.heap.objs.size:=by
        rcases List.mem_cons.mp hb with z | z
        · rw [z];exact Heap.lt_size he
        · rw [List.mem_singleton.mp z]
          obtain ⟨o',e',_⟩:=hit
          exact Heap.lt_size e'
      rw [zv (Nat.ne_of_lt hb')]
      exact (hf b hb).1
  done:=by
    intro X hP hw hK hc i pins s σ H E I hf st hg
    subst hP hw hK
    obtain ⟨⟨old,he⟩,hit⟩:=st
    obtain ⟨xs,hq,hx⟩:=hg
    obtain ⟨its,rv,p,hz⟩:=I.list hq
    have hl:=p.isList
    have hai:a ≠ it:=fun z=>by
      obtain ⟨o,e1,c1,_⟩:=hl
      obtain ⟨o',e2,c2,_⟩:=hit
      rw [z,e2] at e1;cases e1;rw [c2] at c1;exact absurd (Value.type.inj c1) (by decide)
    obtain ⟨f0,f1,f2,f3,f4,f5⟩:=hf it (by simp)
    have hle:its.toArray.size <= i:=by
      have:=rv.length
      simp only [List.size_toArray];omega
    have hT:s.TypeIs (.ref e) "enumerate" :=⟨_,he,rfl⟩
    unfold pyNext
    refine wpAny_bind (wpAny_attempt (wpAny_callSpecial?_slot (name:=Str.ofString "__next__") hT F.slot_enumerate_next (wpAny_call_entry F.slot_enumerate_next hT F.entry_enumerate_next ?_ (F.args_enumerate_next_1 _))))
    show wpAny _ _ (field (.ref e) 2 >>= _) _ _ _
    refine wpAny_bind (wpAny_field he rfl (x:=.ref it) rfl (wpAny_bind (wpAny_nextOf_list_end (I.ok.hd hc) hit hl (by simpa using hle) fun h' x he' hx'=>?_)))
    obtain ⟨o,ho,hc'⟩:=hx'
    refine wpAny_bind (wpAny_isInstance (T:= "StopIteration") (b:=true) ⟨o,ho,hc'⟩ isSubtype_stop ?_)
    exact wpAny_pure ⟨rfl,I.turned (t':=s.toks) (fun b o hb q=>he' b o hb q) f0 f1 f3 f4 f5⟩
  self:=fun _ _ _ _ _ st h=>let ⟨⟨_,he⟩,_⟩:=st;wpAny_pyIter_enum he h
section
variable {X:Cx}
def Wu (K:PySem.W.Frag) (ta:TA):TI:=fun σ H R=>ta σ H fun vs H1=>∃ a,vs = [.ref a] /\ (∃ xs,SqL K H1 a xs) /\ R (Ite K a) H1
theorem Xt {l:Expr} {ta:TA} {p pos tp:Pos} {elts:List Expr} {kk:Nat} (hg:Gl X "enumerate") (hm:X.mg "enumerate" = none) (ha:PA X [l] ta) (hs:starEach [l] X.env = [(false,eval l X.env)]:=by rfl) :
    PI X (.Tuple elts kk tp) (.Call (.Name "enumerate" p) [l] [] pos) (Wu X.K ta):=by
  intro pins s σ H R I h
  refine Call_ (jQ I hg hm boot_enumerate (PyProof.Rows.callWith_type1 (thn (ha pos pins s σ H _ I h) fun us s1 ⟨vs,H1,I1,r1,q1⟩=>?_) hs rfl))
  obtain ⟨a,e,⟨xs,hq⟩,q⟩:=q1
  subst e
  obtain ⟨u,rfl,ru⟩:=ja r1
  cases ru
  obtain ⟨its,rv,pl,hz⟩:=I1.list hq
  refine call_enumerate_list pl.isList fun h' he hi hsz hk=>wpAny_pyIter_enum he ?_
  have I2:Inv X pins σ H1 { s1 with heap:=h' }:=I1.kept (t':=s1.toks) hk
  refine ⟨s1.heap.objs.size + 1,[s1.heap.objs.size + 1,s1.heap.objs.size],_,_,H1,rfl,I2,Qv a _ _ (Nat.succ_ne_self _),⟨⟨_,he⟩,hi⟩,fun b hb=>?_,q⟩
  have hb':s1.heap.objs.size <= b:=by
    rcases List.mem_cons.mp hb with z | z
    · rw [z];exact Nat.le_succ _
    · rw [List.mem_singleton.mp z];exact Nat.le_refl _
  exact I1.fpOk hb' (I1.hok.fresh hb')
theorem JW {K:PySem.W.Frag} {a:Addr} {xs:List V} {g:TG} {tb:TS} {D:wU} {σ:St} {H:Hp} (Pv:Nat -> St -> Hp -> Prop) (h0:Pv 0 σ H) (hl:∀ i σ H,i <= xs.length -> Pv i σ H -> SqL K H a xs)
    (hs:∀ i x σ H T,xs[i]? = some x -> Pv i σ H -> H T = none -> g (.ref T) σ (upd H T (.tup [.int i,x])) fun σ2 H2=>tb { D with nx:=Pv (i + 1),ct:=Pv (i + 1),bk:=D.nx } σ2 H2) (hd:∀ σ H,Pv xs.length σ H -> D.nx σ H) :
    ∃ W:Nat -> Nat -> St -> Hp -> Prop,(∃ m,W 0 m σ H) /\ ∀ i m σ H,W i m σ H ->
      ((Ite K a).stop i H /\ D.nx σ H) \/ ((Ite K a).go i H /\ ∃ N:St -> Hp -> Prop,(∀ σ' H',N σ' H' -> ∃ m',m' < m /\ W (i + 1) m' σ' H') /\ ∀ x H',(Ite K a).yld i H x H' -> g x σ H' fun σ2 H2=>tb { D with nx:=N,ct:=N,bk:=D.nx } σ2 H2):=by
  refine ⟨fun i m σ H=>m = xs.length - i /\ i <= xs.length /\ Pv i σ H,⟨xs.length,by simp,Nat.zero_le _,h0⟩,?_⟩
  rintro i m σ H ⟨rfl,hi,p⟩
  have q:=hl i σ H hi p
  by_cases hlt:i < xs.length
  · refine .inr ⟨⟨xs,xs[i],q,by simp [hlt]⟩,Pv (i + 1),fun σ' H' p'=>⟨xs.length - (i + 1),by omega,rfl,hlt,p'⟩,fun x H' y=>?_⟩
    obtain ⟨T,z,e1,hT,e2,y⟩:=y
    subst e1 e2
    exact hs i z σ H T (y xs q) p hT
  · have e:i = xs.length:=by omega
    subst e
    exact .inl ⟨⟨xs,q,Nat.le_refl _⟩,hd σ H p⟩
end
section
variable {X:Cx}
inductive jW (K:PySem.W.Frag) (xs:List V) (H:Hp) (Q:VK):Prop
  | mk (p:Addr) (bs:List Bool) (_:xs = [.ref p]) (_:SqL K H p (bs.map V.bl)) (_:Q (.bl (bs.all id)) H):jW K xs H Q
theorem qZ (hc:X.calm = true):CallR X (.builtin "all") (jW X.K):=by
  intro pins s σ H xs us Q I r h
  obtain ⟨p,bs,rfl,hq,q⟩:=h
  obtain ⟨u,rfl,ru⟩:=ja r
  cases ru
  obtain ⟨its,rv,pl,hz⟩:=I.list hq
  have hl:=pl.isList
  have hpl:p ≠ s.heap.objs.size:=by
    obtain ⟨o,e,_⟩:=hl
    exact Nat.ne_of_lt (Heap.lt_size e)
  refine call_all_walk (wpAny_pyIter_list hl ?_)
  refine ⟨s.heap.objs.size,_,_,_,_,_,fun i=>bs.getD i true,rfl,Walks.list (prog:=X.prog) (w:=X.w) (A:=X.A.in1) (I.ok.hd hc) _ p hpl its.toArray,⟨⟨_,Heap.get?_push_size _ rfl,rfl,rfl⟩,hl.push _⟩,?_,fun h' tk hk=>?_⟩
  · intro i v s' Q' E' hP hQ
    have hP:its.toArray[i]? = some v:=hP
    have e1:its[i]? = some v:=by simpa using hP
    have hi:i < bs.length:=by
      have h1:=(List.getElem?_eq_some_iff.mp e1).1
      have h2:=rv.length
      rw [List.length_map] at h2
      omega
    have e2:(bs.map V.bl)[i]? = some (.bl bs[i]):=by simp [hi]
    obtain ⟨u',eu,ru⟩:=rv.get e2
    rw [e1] at eu
    cases eu
    cases ru
    have e3:bs.getD i true = bs[i]:=by simp [hi]
    have hQ2:Q' (bs.getD i true) s':=hQ
    rw [e3] at hQ2
    exact wpAny_truthy_bool hQ2
  · have k:∀ b o,s.heap.get? b = some o -> h'.get? b = some o:=fun b o e=>hk b o (by simp;exact Nat.ne_of_lt (Heap.lt_size e)) (Heap.get?_push_of_some _ e)
    have ea:(List.range its.toArray.size).all (fun i=>bs.getD i true) = bs.all id:=by
      have hlen:its.toArray.size = bs.length:=by
        have:=rv.length
        rw [List.length_map] at this
        simp only [List.size_toArray];omega
      rw [hlen,Bool.eq_iff_iff,List.all_eq_true,List.all_eq_true]
      constructor
      · intro h b hb
        obtain ⟨i,hi,rfl⟩:=List.mem_iff_getElem.mp hb
        have:=h i (List.mem_range.mpr hi)
        simpa [hi] using this
      · intro h i hi
        have hi:=List.mem_range.mp hi
        have:=h bs[i] (List.getElem_mem hi)
        simpa [hi] using this
    exact ⟨.bl (bs.all id),H,I.kept k,by rw [ea];rfl,q⟩
end
def SqK (K:PySem.W.Frag) (kd:Bool) (H:Hp) (a:Addr) (xs:List V):Prop:=match kd with
  | true=>SqL K H a xs
  | false=>SqT K H a xs
def SeqK (kd:Bool) (h:Heap) (a:Addr) (its:Array Value):Prop:=match kd with
  | true=>h.IsList a its
  | false=>h.IsTuple a its
def ItrK (kd:Bool) (h:Heap) (it a:Addr) (i:Nat):Prop:=match kd with
  | true=>h.IsListIter it a i
  | false=>h.IsTupleIter it a i
theorem SeqK.at {kd:Bool} {h h':Heap} {a:Addr} {its:Array Value} (x:SeqK kd h a its) (k:∀ o,h.get? a = some o -> h'.get? a = some o):SeqK kd h' a its:=by
  cases kd with
  | true=>exact Heap.IsList.at x k
  | false=>obtain ⟨o,e,r⟩:=(show h.IsTuple a its from x);exact ⟨o,k o e,r⟩
theorem ItrK.at {kd:Bool} {h h':Heap} {it a:Addr} {i:Nat} (x:ItrK kd h it a i) (k:∀ o,h.get? it = some o -> h'.get? it = some o):ItrK kd h' it a i:=by
  cases kd with
  | true=>exact Heap.IsListIter.at x k
  | false=>obtain ⟨o,e,r⟩:=(show h.IsTupleIter it a i from x);exact ⟨o,k o e,r⟩
theorem ItrK.obj {kd:Bool} {h:Heap} {it a:Addr} {i:Nat} (x:ItrK kd h it a i):∃ o,h.get? it = some o /\ (o.cls = .type "list_iterator" \/ o.cls = .type "tuple_iterator") /\ ∀ v,o.data ≠ .cell v:=by
  cases kd with
  | true=>obtain ⟨o,e,c,d⟩:=(show h.IsListIter it a i from x);exact ⟨o,e,.inl c,fun v q=>by rw [d] at q;cases q⟩
  | false=>obtain ⟨o,e,c,d⟩:=(show h.IsTupleIter it a i from x);exact ⟨o,e,.inr c,fun v q=>by rw [d] at q;cases q⟩
theorem SeqK.cls {kd:Bool} {h:Heap} {a:Addr} {its:Array Value} (x:SeqK kd h a its):∃ o,h.get? a = some o /\ (o.cls = .type "list" \/ o.cls = .type "tuple") /\ ∃ n,o.data = .seq its n:=by
  cases kd with
  | true=>obtain ⟨o,e,c,n,d⟩:=(show h.IsList a its from x);exact ⟨o,e,.inl c,n,d⟩
  | false=>obtain ⟨o,e,c,n,d⟩:=(show h.IsTuple a its from x);exact ⟨o,e,.inr c,n,d⟩
section
variable {prog:Program} {w:World} {A:Around} {E:Value -> Shared -> Prop} {s:Shared}
theorem jC {kd:Bool} {it a:Addr} {i:Nat} {its:Array Value} {x:Value} {Q:Value -> Shared -> Prop} (hi:ItrK kd s.heap it a i) (hl:SeqK kd s.heap a its) (hx:its[i]? = some x)
    (hQ:∀ h',ItrK kd h' it a (i + 1) -> Heap.SameBut it s.heap h' -> Q x { s with heap:=h' }):wpAny (model prog w) A (Builtin.SmallTypes.nextOf (.ref it)) Q E s:=by
  cases kd with
  | true=>exact wpAny_nextOf_list_item hi hl hx hQ
  | false=>
    have hi':s.heap.IsTupleIter it a i:=hi
    obtain ⟨o,ho,hc,hd⟩:=id hi'
    obtain ⟨ol,hol,_,nl,hdl⟩:=(show s.heap.IsTuple a its from hl)
    unfold Builtin.SmallTypes.nextOf;refine wpAny_bind (wpAny_callSpecial?_slot (name:=Str.ofString "__next__") hi'.typeIs F.slot_tuple_iterator_next (wpAny_call_entry F.slot_tuple_iterator_next hi'.typeIs F.entry_tuple_iterator_next ?_ (F.args_tuple_iterator_next_1 _)))
    show wpAny _ _ (field (.ref it) 0 >>= _) _ _ _;refine wpAny_bind (wpAny_field ho hd (x:=.ref a) rfl ?_)
    show wpAny _ _ (if (Value.ref a == Value.none) = true then _ else _) _ _ _;rw [if_neg (show ¬ ((Value.ref a == Value.none) = true) from Bool.false_ne_true)]
    show wpAny _ _ (field (.ref it) 1 >>= _) _ _ _;refine wpAny_bind (wpAny_field ho hd (x:=.int i 0) rfl ?_)
    show wpAny _ _ (seqItems? (.ref a) >>= _) _ _ _;refine wpAny_bind (wpAny_seqItems hol hdl ?_);simp only [Int.toNat_natCast,hx]
    refine wpAny_bind (wpAny_setField ho hd (by simp) (wpAny_pure ⟨x,rfl,wpAny_pure (hQ _ (show Heap.IsTupleIter _ _ _ _ from ?_) (Heap.SameBut.update ..))⟩))
    refine ⟨_,Heap.get?_update_self _ ho (Obj.isFreed_of_fields (Obj.data_mapFields hd _)),(Obj.cls_mapFields ..).trans hc,?_⟩;rw [Obj.data_mapFields hd];simp [rawInt]
theorem xz {kd:Bool} {it a:Addr} {i:Nat} {its:Array Value} {Q:Value -> Shared -> Prop} (hh:A.handled = none) (hi:ItrK kd s.heap it a i) (hl:SeqK kd s.heap a its) (hx:its[i]? = none)
    (hE:∀ h' e,Heap.ExtBut it s.heap h' -> (∃ o,h'.get? e = some o /\ o.cls = .type "StopIteration") -> E (.ref e) { s with heap:=h' }):wpAny (model prog w) A (Builtin.SmallTypes.nextOf (.ref it)) Q E s:=by
  cases kd with
  | true=>exact wpAny_nextOf_list_end hh hi hl hx hE
  | false=>
    have hi':s.heap.IsTupleIter it a i:=hi
    obtain ⟨o,ho,hc,hd⟩:=id hi'
    obtain ⟨ol,hol,_,nl,hdl⟩:=(show s.heap.IsTuple a its from hl)
    unfold Builtin.SmallTypes.nextOf;refine wpAny_bind (wpAny_callSpecial?_slot (name:=Str.ofString "__next__") hi'.typeIs F.slot_tuple_iterator_next (wpAny_call_entry F.slot_tuple_iterator_next hi'.typeIs F.entry_tuple_iterator_next ?_ (F.args_tuple_iterator_next_1 _)))
    show wpAny _ _ (field (.ref it) 0 >>= _) _ _ _;refine wpAny_bind (wpAny_field ho hd (x:=.ref a) rfl ?_)
    show wpAny _ _ (if (Value.ref a == Value.none) = true then _ else _) _ _ _;rw [if_neg (show ¬ ((Value.ref a == Value.none) = true) from Bool.false_ne_true)]
    show wpAny _ _ (field (.ref it) 1 >>= _) _ _ _;refine wpAny_bind (wpAny_field ho hd (x:=.int i 0) rfl ?_)
    show wpAny _ _ (seqItems? (.ref a) >>= _) _ _ _;refine wpAny_bind (wpAny_seqItems hol hdl ?_);simp only [Int.toNat_natCast,hx]
    refine wpAny_bind (wpAny_rule (wpAny_bind (wpAny_setField ho hd (by simp) ?_)));show wpAny _ _ (newExc (.type "StopIteration") [] >>= _) _ _ _
    refine wpAny_bind ?_;simp only [newExc,newTuple];refine wpAny_bind (wpAny_newObj_type ?_ (by size_fits))
    refine wpAny_bind (m:=firstArgMember _ _) (wpAny_of_eq (a:=Value.none) (by first | rfl | (simp only [firstArgMember];rfl)) (wpAny_newObj_type ?_ (by size_fits)))
    simp only [raiseNew];refine wpAny_bind (wpAny_handled ?_);first | rw [show A.in1.handled = none from hh] | rw [hh]
    exact wpAny_bind (wpAny_pure (wpAny_throw (hE _ _ (((Heap.SameBut.update ..).extBut.push _).push _) ⟨_,Heap.get?_push_size _ rfl,rfl⟩)))
structure wt (k1 k2:Bool) (h:Heap) (z TI TO i1 i2 a1 a2:Addr) (i:Nat):Prop where
  zz:IsZip h z TI TO .none
  ti:IsPair h TI (.ref i1) (.ref i2)
  to:∃ a b,IsPair h TO a b
  r1:ItrK k1 h i1 a1 i
  r2:ItrK k2 h i2 a2 i
structure Z8 (z TI TO i1 i2:Addr):Prop where
  a:TI ≠ z
  b:TO ≠ z
  c:i1 ≠ z
  d:i2 ≠ z
  e:TI ≠ TO
  f:TI ≠ i1
  g:TI ≠ i2
  h:TO ≠ i1
  i:TO ≠ i2
  j:i1 ≠ i2
end
section
variable {prog:Program} {w:World} {A:Around} {E:Value -> Shared -> Prop} {s:Shared}
theorem Z9 {k1 k2:Bool} {z TI TO i1 i2 a1 a2:Addr} {i:Nat} {xs ys:Array Value} {x y:Value} {Q:Option Value -> Shared -> Prop} (N:Z8 z TI TO i1 i2) (Z:wt k1 k2 s.heap z TI TO i1 i2 a1 a2 i)
    (l1:SeqK k1 s.heap a1 xs) (l2:SeqK k2 s.heap a2 ys) (m1:∀ b ∈ [z,TO,i1,i2],a1 ≠ b) (m2:∀ b ∈ [z,TO,i1,i2],a2 ≠ b) (hx:xs[i]? = some x) (hy:ys[i]? = some y)
    (hQ:∀ h',IsZip h' z TI TO (rawInt s.heap.objs.size) -> IsPair h' TI (.ref i1) (.ref i2) -> (∃ a b,IsPair h' TO a b) -> ItrK k1 h' i1 a1 (i + 1) -> ItrK k2 h' i2 a2 (i + 1) -> IsPair h' s.heap.objs.size x y -> h'.objs.size = s.heap.objs.size + 1 ->
      (∀ c o,c ∉ [z,TO,i1,i2] -> s.heap.get? c = some o -> h'.get? c = some o) -> Q (some (.ref s.heap.objs.size)) { s with heap:=h' }):wpAny (model prog w) A (pyNext (.ref z)) Q E s:=by
  obtain ⟨hz,hTI,⟨a,b,hTO⟩,h1,h2⟩:=Z
  have hT:s.TypeIs (.ref z) "zip" :=⟨_,hz,rfl⟩
  unfold pyNext;refine wpAny_bind (wpAny_attempt (wpAny_callSpecial?_slot (name:=Str.ofString "__next__") hT F.slot_zip_next (wpAny_call_entry F.slot_zip_next hT F.entry_zip_next ?_ (F.args_zip_next_1 _))))
  show wpAny _ _ (field (.ref z) 2 >>= _) _ _ _;refine wpAny_bind (wpAny_field hz rfl (x:=.bool false) rfl ?_)
  show wpAny _ _ (field (.ref z) 3 >>= _) _ _ _;refine wpAny_bind (wpAny_field hz rfl (x:=.ref TI) rfl (wpAny_bind (wpAny_seqItems hTI rfl ?_)))
  show wpAny _ _ (Builtin.SmallTypes.ownedTupleIsFree (.ref z) >>= _) _ _ _;refine wpAny_bind ?_
  unfold Builtin.SmallTypes.ownedTupleIsFree;refine wpAny_bind (wpAny_field hz rfl (x:=.none) rfl (wpAny_pure ?_));simp only [if_true]
  refine wpAny_bind (wpAny_rule (wpAny_bind (wpAny_field hz rfl (x:=.ref TO) rfl (wpAny_bind (wpAny_setField_rec hz (by simp) fun g1 hz1 hs1=>?_)))))
  replace hz1:IsZip g1 z TI TO .ellipsis:=hz1
  refine wpAny_bind ?_;simp only [List.zipIdx_cons,List.zipIdx_nil,List.forIn_cons,List.forIn_nil]
  refine wpAny_bind (wpAny_bind (wpAny_onRaise ?_));show wpAny _ _ (Builtin.SmallTypes.nextOf (.ref i1) >>= _) _ _ _
  refine wpAny_bind (jC (h1.at fun o e=>hs1.extBut _ o N.c e) (l1.at fun o e=>hs1.extBut _ o (m1 z (by simp)) e) hx fun g2 h12 hs2=>wpAny_pure ?_)
  have hTO2:IsPair g2 TO a b:=hs2.extBut _ _ N.h (hs1.extBut _ _ N.b hTO)
  refine wpAny_bind (wpAny_seqItems hTO2 rfl (wpAny_bind (wpAny_updateSeq_pair hTO2 fun g3 hTO3 hs3=>?_)))
  replace hTO3:IsPair g3 TO x b:=hTO3
  refine wpAny_bind (wpAny_letGo (wpAny_pure ?_));refine wpAny_bind (wpAny_bind (wpAny_onRaise ?_));show wpAny _ _ (Builtin.SmallTypes.nextOf (.ref i2) >>= _) _ _ _
  have c23:∀ c o,c ∉ [z,TO,i1] -> s.heap.get? c = some o -> g3.get? c = some o:=fun c o hc e=>hs3.extBut _ o (fun q=>hc (by simp [q])) (hs2.extBut _ o (fun q=>hc (by simp [q])) (hs1.extBut _ o (fun q=>hc (by simp [q])) e))
  refine wpAny_bind (jC (h2.at fun o e=>c23 _ o (by simp [N.d,Ne.symm N.i,Ne.symm N.j]) e) (l2.at fun o e=>c23 _ o (by simp [m2 z (by simp),m2 TO (by simp),m2 i1 (by simp)]) e) hy fun g4 h24 hs4=>wpAny_pure ?_)
  have hTO4:IsPair g4 TO x b:=hs4.extBut _ _ N.i hTO3
  refine wpAny_bind (wpAny_seqItems hTO4 rfl (wpAny_bind (wpAny_updateSeq_pair hTO4 fun g5 hTO5 hs5=>?_)))
  replace hTO5:IsPair g5 TO x y:=hTO5
  refine wpAny_bind (wpAny_letGo (wpAny_pure (wpAny_pure (wpAny_bind (wpAny_seqItems hTO5 rfl (wpAny_bind (wpAny_newTuple ?_)))))))
  have zs:g5.objs.size = s.heap.objs.size:=by rw [hs5.1,hs4.1,hs3.1,hs2.1,hs1.1]
  have hz5:IsZip g5 z TI TO .ellipsis:=hs5.extBut _ _ (Ne.symm N.b) (hs4.extBut _ _ (Ne.symm N.d) (hs3.extBut _ _ (Ne.symm N.b) (hs2.extBut _ _ (Ne.symm N.c) hz1)))
  have k5:∀ c o,c ∉ [z,TO,i1,i2] -> s.heap.get? c = some o -> g5.get? c = some o:=fun c o hc e=>hs5.extBut _ o (fun q=>hc (by simp [q])) (hs4.extBut _ o (fun q=>hc (by simp [q])) (c23 c o (fun q=>hc (by simp at q ⊢;rcases q with q | q | q <;> simp [q])) e))
  have r1:ItrK k1 g5 i1 a1 (i + 1):=h12.at fun o e=>hs5.extBut _ o (Ne.symm N.h) (hs4.extBut _ o N.j (hs3.extBut _ o (Ne.symm N.h) e))
  have r2:ItrK k2 g5 i2 a2 (i + 1):=h24.at fun o e=>hs5.extBut _ o (Ne.symm N.i) e
  have zl:z < g5.objs.size:=Heap.lt_size hz5
  show wpAny _ _ (Builtin.SmallTypes.ownedTupleHandOut (.ref z) (.ref g5.objs.size) >>= _) _ _ _;refine wpAny_bind ?_;unfold Builtin.SmallTypes.ownedTupleHandOut
  have hz6:IsZip (g5.push { cls:=.type "tuple",data:=.seq #[x,y] }) z TI TO .ellipsis:=Heap.get?_push_of_some _ hz5
  refine wpAny_bind (wpAny_setField_rec hz6 (by simp) fun g7 hz7 hs7=>?_)
  replace hz7:IsZip g7 z TI TO (rawInt g5.objs.size):=hz7
  refine wpAny_setField_rec hz7 (by simp) fun g8 hz8 hs8=>?_
  replace hz8:IsZip g8 z TI TO (rawInt g5.objs.size):=hz8
  have up:∀ c o,c ≠ z -> g5.get? c = some o -> g8.get? c = some o:=fun c o c1 e=>hs8.extBut _ o c1 (hs7.extBut _ o c1 (Heap.get?_push_of_some _ e))
  have hT8:IsPair g8 g5.objs.size x y:=hs8.extBut _ _ (Nat.ne_of_gt zl) (hs7.extBut _ _ (Nat.ne_of_gt zl) (Heap.get?_push_size _ rfl))
  have z8:g8.objs.size = g5.objs.size + 1:=by rw [hs8.1,hs7.1,Heap.size_push]
  rw [zs] at hz8 hT8 z8
  refine wpAny_pure ⟨_,rfl,wpAny_pure ?_⟩;show Q (some (.ref g5.objs.size)) _;rw [zs]
  exact hQ g8 hz8 (up _ _ N.a (k5 _ _ (by simp [N.a,N.e,N.f,N.g]) hTI)) ⟨_,_,up _ _ N.b hTO5⟩ (r1.at fun o e=>up _ o N.c e) (r2.at fun o e=>up _ o N.d e) hT8 z8 fun c o hc e=>up c o (fun q=>hc (by simp [q])) (k5 c o hc e)
theorem QY {k1 k2:Bool} {z TI TO i1 i2 a1 a2:Addr} {i:Nat} {xs ys:Array Value} {Q:Option Value -> Shared -> Prop} (hh:A.handled = none) (N:Z8 z TI TO i1 i2) (Z:wt k1 k2 s.heap z TI TO i1 i2 a1 a2 i)
    (l1:SeqK k1 s.heap a1 xs) (l2:SeqK k2 s.heap a2 ys) (m1:∀ b ∈ [z,TO,i1,i2],a1 ≠ b) (m2:∀ b ∈ [z,TO,i1,i2],a2 ≠ b) (hend:xs[i]? = none \/ ys[i]? = none)
    (hQ:∀ h',(∀ c o,c ∉ [z,TO,i1,i2] -> s.heap.get? c = some o -> h'.get? c = some o) -> Q none { s with heap:=h' }):wpAny (model prog w) A (pyNext (.ref z)) Q E s:=by
  obtain ⟨hz,hTI,⟨a,b,hTO⟩,h1,h2⟩:=Z
  have hT:s.TypeIs (.ref z) "zip" :=⟨_,hz,rfl⟩
  unfold pyNext;refine wpAny_bind (wpAny_attempt (wpAny_callSpecial?_slot (name:=Str.ofString "__next__") hT F.slot_zip_next (wpAny_call_entry F.slot_zip_next hT F.entry_zip_next ?_ (F.args_zip_next_1 _))))
  show wpAny _ _ (field (.ref z) 2 >>= _) _ _ _;refine wpAny_bind (wpAny_field hz rfl (x:=.bool false) rfl ?_)
  show wpAny _ _ (field (.ref z) 3 >>= _) _ _ _;refine wpAny_bind (wpAny_field hz rfl (x:=.ref TI) rfl (wpAny_bind (wpAny_seqItems hTI rfl ?_)))
  show wpAny _ _ (Builtin.SmallTypes.ownedTupleIsFree (.ref z) >>= _) _ _ _;refine wpAny_bind ?_
  unfold Builtin.SmallTypes.ownedTupleIsFree;refine wpAny_bind (wpAny_field hz rfl (x:=.none) rfl (wpAny_pure ?_));simp only [if_true]
  refine wpAny_bind (wpAny_rule (wpAny_bind (wpAny_field hz rfl (x:=.ref TO) rfl (wpAny_bind (wpAny_setField_rec hz (by simp) fun g1 hz1 hs1=>?_)))))
  replace hz1:IsZip g1 z TI TO .ellipsis:=hz1
  refine wpAny_bind ?_;simp only [List.zipIdx_cons,List.zipIdx_nil,List.forIn_cons,List.forIn_nil]
  refine wpAny_bind (wpAny_bind (wpAny_onRaise ?_));show wpAny _ _ (Builtin.SmallTypes.nextOf (.ref i1) >>= _) _ _ _
  cases hx:xs[i]? with
  | none=>
    refine wpAny_bind (xz hh (h1.at fun o e=>hs1.extBut _ o N.c e) (l1.at fun o e=>hs1.extBut _ o (m1 z (by simp)) e) hx fun g2 e hs2 he=>?_)
    obtain ⟨oe,hoe,hce⟩:=he
    have hz2:IsZip g2 z TI TO .ellipsis:=hs2 _ _ (Ne.symm N.c) hz1
    have hez:e ≠ z:=fun q=>by subst q;rw [hz2] at hoe;cases hoe;exact absurd (Value.type.inj hce) (by decide)
    refine wpAny_setField_rec hz2 (by simp) fun g3 hz3 hs3=>?_
    refine wpAny_bind (wpAny_isInstance (T:= "StopIteration") (b:=true) ⟨oe,hs3.extBut _ _ hez hoe,hce⟩ isSubtype_stop (wpAny_pure (hQ _ fun c o hc q=>?_)))
    exact hs3.extBut _ o (fun q=>hc (by simp [q])) (hs2 _ o (fun q=>hc (by simp [q])) (hs1.extBut _ o (fun q=>hc (by simp [q])) q))
  | some x=>
    have hy:ys[i]? = none:=by rcases hend with q | q;rw [hx] at q;cases q;exact q
    refine wpAny_bind (jC (h1.at fun o e=>hs1.extBut _ o N.c e) (l1.at fun o e=>hs1.extBut _ o (m1 z (by simp)) e) hx fun g2 h12 hs2=>wpAny_pure ?_)
    have hTO2:IsPair g2 TO a b:=hs2.extBut _ _ N.h (hs1.extBut _ _ N.b hTO)
    refine wpAny_bind (wpAny_seqItems hTO2 rfl (wpAny_bind (wpAny_updateSeq_pair hTO2 fun g3 hTO3 hs3=>?_)))
    have c23:∀ c o,c ∉ [z,TO,i1] -> s.heap.get? c = some o -> g3.get? c = some o:=fun c o hc e=>hs3.extBut _ o (fun q=>hc (by simp [q])) (hs2.extBut _ o (fun q=>hc (by simp [q])) (hs1.extBut _ o (fun q=>hc (by simp [q])) e))
    refine wpAny_bind (wpAny_letGo (wpAny_pure ?_));refine wpAny_bind (wpAny_bind (wpAny_onRaise ?_));show wpAny _ _ (Builtin.SmallTypes.nextOf (.ref i2) >>= _) _ _ _
    refine wpAny_bind (xz hh (h2.at fun o e=>c23 _ o (by simp [N.d,Ne.symm N.i,Ne.symm N.j]) e) (l2.at fun o e=>c23 _ o (by simp [m2 z (by simp),m2 TO (by simp),m2 i1 (by simp)]) e) hy fun g4 e hs4 he=>?_)
    obtain ⟨oe,hoe,hce⟩:=he
    have hz4:IsZip g4 z TI TO .ellipsis:=hs4 _ _ (Ne.symm N.d) (hs3.extBut _ _ (Ne.symm N.b) (hs2.extBut _ _ (Ne.symm N.c) hz1))
    have hez:e ≠ z:=fun q=>by subst q;rw [hz4] at hoe;cases hoe;exact absurd (Value.type.inj hce) (by decide)
    refine wpAny_setField_rec hz4 (by simp) fun g5 hz5 hs5=>?_
    refine wpAny_bind (wpAny_isInstance (T:= "StopIteration") (b:=true) ⟨oe,hs5.extBut _ _ hez hoe,hce⟩ isSubtype_stop (wpAny_pure (hQ _ fun c o hc q=>?_)))
    exact hs5.extBut _ o (fun q=>hc (by simp [q])) (hs4 _ o (fun q=>hc (by simp [q])) (c23 c o (fun q=>hc (by simp at q ⊢;rcases q with q | q | q <;> simp [q])) q))
abbrev zh (h:Heap) (o1 o2:Obj):Heap:=((((h.push o1).push o2).push { cls:=.type "tuple",data:=.seq #[.ref h.objs.size,.ref (h.push o1).objs.size] }).push { cls:=.type "tuple",data:=.seq #[.none,.none] }).push
  { cls:=.type "zip",data:=.fields #[.none,.bool false,.bool false,.ref ((h.push o1).push o2).objs.size,.ref (((h.push o1).push o2).push { cls:=.type "tuple",data:=.seq #[.ref h.objs.size,.ref (h.push o1).objs.size] }).objs.size] }
theorem V0 {k1 k2:Bool} {a1 a2:Addr} {h:Heap} {o1 o2:Obj} (p1:∀ g:Heap,g.get? h.objs.size = some o1 -> ItrK k1 g h.objs.size a1 0) (p2:∀ (g:Heap) (n:Addr),g.get? n = some o2 -> ItrK k2 g n a2 0) (f1:o1.isFreed = false) (f2:o2.isFreed = false) :
    wt k1 k2 (zh h o1 o2) (h.objs.size + 4) (h.objs.size + 2) (h.objs.size + 3) h.objs.size (h.objs.size + 1) a1 a2 0 /\ (∀ c o,h.get? c = some o -> (zh h o1 o2).get? c = some o) /\ (zh h o1 o2).objs.size = h.objs.size + 5:=by
  have z1:(h.push o1).objs.size = h.objs.size + 1:=Heap.size_push ..
  have z2:((h.push o1).push o2).objs.size = h.objs.size + 2:=by rw [Heap.size_push,z1]
  have z3:(((h.push o1).push o2).push { cls:=.type "tuple",data:=.seq #[.ref h.objs.size,.ref (h.push o1).objs.size] }).objs.size = h.objs.size + 3:=by rw [Heap.size_push,z2]
  have z4:((((h.push o1).push o2).push { cls:=.type "tuple",data:=.seq #[.ref h.objs.size,.ref (h.push o1).objs.size] }).push { cls:=.type "tuple",data:=.seq #[.none,.none] }).objs.size = h.objs.size + 4:=by rw [Heap.size_push,z3]
  have q5:(zh h o1 o2).get? (h.objs.size + 4) = some _:=z4 ▸ Heap.get?_push_size _ rfl
  have q4:(zh h o1 o2).get? (h.objs.size + 3) = some _:=z3 ▸ Heap.get?_push_of_some _ (Heap.get?_push_size _ rfl)
  have q3:(zh h o1 o2).get? (h.objs.size + 2) = some _:=z2 ▸ Heap.get?_push_of_some _ (Heap.get?_push_of_some _ (Heap.get?_push_size _ rfl))
  have q2:(zh h o1 o2).get? (h.objs.size + 1) = some o2:=z1 ▸ Heap.get?_push_of_some _ (Heap.get?_push_of_some _ (Heap.get?_push_of_some _ (Heap.get?_push_size _ f2)))
  have q1:(zh h o1 o2).get? h.objs.size = some o1:=Heap.get?_push_of_some _ (Heap.get?_push_of_some _ (Heap.get?_push_of_some _ (Heap.get?_push_of_some _ (Heap.get?_push_size _ f1))))
  rw [z2,z3] at q5
  rw [z1] at q3
  exact ⟨⟨q5,q3,⟨_,_,q4⟩,p1 _ q1,p2 _ _ q2⟩,fun c o e=>Heap.get?_push_of_some _ (Heap.get?_push_of_some _ (Heap.get?_push_of_some _ (Heap.get?_push_of_some _ (Heap.get?_push_of_some _ e)))),by rw [Heap.size_push,z4]⟩
theorem QX {k1 k2:Bool} {a1 a2:Addr} {xs ys:Array Value} :
    PySem.Meets (Builtin.«zip.__new__» ⟨[.type "zip",.ref a1,.ref a2],[]⟩) (fun _ R s=>SeqK k1 s.heap a1 xs /\ SeqK k2 s.heap a2 ys /\
      ∀ h',wt k1 k2 h' (s.heap.objs.size + 4) (s.heap.objs.size + 2) (s.heap.objs.size + 3) s.heap.objs.size (s.heap.objs.size + 1) a1 a2 0 -> (∀ c o,s.heap.get? c = some o -> h'.get? c = some o) -> h'.objs.size = s.heap.objs.size + 5 -> R (.ok (.ret (.ref (s.heap.objs.size + 4)))) { s with heap:=h' }):=
  .of_wp fun prog w A R s hq=>by
    obtain ⟨hp,g,d,tk,os⟩:=s
    obtain ⟨hl1,hl2,hr⟩:=hq
    have hsub:=sub_zip
    have fin:∀ {o1 o2:Obj},(∀ g:Heap,g.get? hp.objs.size = some o1 -> ItrK k1 g hp.objs.size a1 0) -> (∀ (g:Heap) (n:Addr),g.get? n = some o2 -> ItrK k2 g n a2 0) -> o1.isFreed = false -> o2.isFreed = false ->
        R (.ok (.ret (.ref ((((hp.push o1).push o2).push { cls:=.type "tuple",data:=.seq #[.ref hp.objs.size,.ref (hp.push o1).objs.size] }).push { cls:=.type "tuple",data:=.seq #[.none,.none] }).objs.size))) ⟨zh hp o1 o2,g,d,tk,os⟩:=fun {o1 o2} p1 p2 f1 f2=>by
      obtain ⟨A,B,C⟩:=V0 p1 p2 f1 f2
      have e:((((hp.push o1).push o2).push { cls:=.type "tuple",data:=.seq #[.ref hp.objs.size,.ref (hp.push o1).objs.size] }).push { cls:=.type "tuple",data:=.seq #[.none,.none] }).objs.size = hp.objs.size + 4:=by
        rw [Heap.size_push,Heap.size_push,Heap.size_push,Heap.size_push]
      rw [e]
      exact hr _ A B C
    cases k1 with
    | true=>
      have L1:Heap.IsList (Shared.heap ⟨hp,g,d,tk,os⟩) a1 xs:=hl1
      cases k2 with
      | true=>
        have L2:Heap.IsList (Shared.heap ⟨hp.push { cls:=.type "list_iterator",data:=.fields #[.ref a1,.int 0 0] },g,d,tk,os⟩) a2 ys:=Heap.IsList.push hl2 _
        wp_walk using wpAny_pyIter_list L1,wpAny_pyIter_list L2
        exact ⟨_,rfl,fin (fun g e=>⟨_,e,rfl,rfl⟩) (fun g n e=>⟨_,e,rfl,rfl⟩) rfl rfl⟩
      | false=>
        have L2:Heap.IsTuple (Shared.heap ⟨hp.push { cls:=.type "list_iterator",data:=.fields #[.ref a1,.int 0 0] },g,d,tk,os⟩) a2 ys:=Heap.IsTuple.push hl2 _
        wp_walk using wpAny_pyIter_list L1,wpAny_pyIter_tuple L2
        exact ⟨_,rfl,fin (fun g e=>⟨_,e,rfl,rfl⟩) (fun g n e=>⟨_,e,rfl,rfl⟩) rfl rfl⟩
    | false=>
      have L1:Heap.IsTuple (Shared.heap ⟨hp,g,d,tk,os⟩) a1 xs:=hl1
      cases k2 with
      | true=>
        have L2:Heap.IsList (Shared.heap ⟨hp.push { cls:=.type "tuple_iterator",data:=.fields #[.ref a1,.int 0 0] },g,d,tk,os⟩) a2 ys:=Heap.IsList.push hl2 _
        wp_walk using wpAny_pyIter_tuple L1,wpAny_pyIter_list L2
        exact ⟨_,rfl,fin (fun g e=>⟨_,e,rfl,rfl⟩) (fun g n e=>⟨_,e,rfl,rfl⟩) rfl rfl⟩
      | false=>
        have L2:Heap.IsTuple (Shared.heap ⟨hp.push { cls:=.type "tuple_iterator",data:=.fields #[.ref a1,.int 0 0] },g,d,tk,os⟩) a2 ys:=Heap.IsTuple.push hl2 _
        wp_walk using wpAny_pyIter_tuple L1,wpAny_pyIter_tuple L2
        exact ⟨_,rfl,fin (fun g e=>⟨_,e,rfl,rfl⟩) (fun g n e=>⟨_,e,rfl,rfl⟩) rfl rfl⟩
theorem QP {k1 k2:Bool} {a1 a2:Addr} {xs ys:Array Value} {Q:Value -> Shared -> Prop} (h1:SeqK k1 s.heap a1 xs) (h2:SeqK k2 s.heap a2 ys)
    (h:∀ h',wt k1 k2 h' (s.heap.objs.size + 4) (s.heap.objs.size + 2) (s.heap.objs.size + 3) s.heap.objs.size (s.heap.objs.size + 1) a1 a2 0 -> (∀ c o,s.heap.get? c = some o -> h'.get? c = some o) -> h'.objs.size = s.heap.objs.size + 5 ->
      Q (.ref (s.heap.objs.size + 4)) { s with heap:=h' }):wpAny (model prog w) A (call (.type "zip") [.ref a1,.ref a2]) Q E s:=by
  refine callType_new F.called_zip (by decide) (F.typeCall_zip_2 _ _) (F.newCall_zip_2 _ _) (fun obj=>F.args_object_init_3 obj _ _) F.entry_zip_new (QX (k1:=k1) (k2:=k2) (xs:=xs) (ys:=ys)) ⟨h1,h2,fun h' Z k z=>?_⟩
  exact ⟨⟨_,Z.zz,rfl⟩,h h' Z k z⟩
end
theorem Inv.seqK {X:Cx} {pins:List (Addr × Obj)} {σ:St} {H:Hp} {s:Shared} {kd:Bool} {a:Addr} {xs:List V} (I:Inv X pins σ H s) (h:SqK X.K kd H a xs):∃ its:List Value,Vals xs its /\ SeqK kd s.heap a its.toArray /\ xs.length <= sizeLine:=by
  cases kd with
  | true=>obtain ⟨its,r,p,z⟩:=I.list h;exact ⟨its,r,p.isList,z⟩
  | false=>obtain ⟨its,r,p,z⟩:=I.tuple h;exact ⟨its,r,p,z⟩
theorem Inv.seqK_inj {X:Cx} {pins:List (Addr × Obj)} {σ:St} {H:Hp} {s:Shared} {kd:Bool} {a:Addr} {xs ys:List V} (I:Inv X pins σ H s) (h:SqK X.K kd H a xs) (h':SqK X.K kd H a ys):xs = ys:=by
  cases kd with
  | true=>exact I.list_inj h h'
  | false=>exact I.tuple_inj h h'
theorem SqK.ne_fp {X:Cx} {pins:List (Addr × Obj)} {σ:St} {H:Hp} {s:Shared} {kd:Bool} {a b:Addr} {xs:List V} (I:Inv X pins σ H s) (h:SqK X.K kd H a xs) (f:jI X pins H b):a ≠ b:=fun z=>by
  have kk:∀ o,X.K.lookup a = some o -> False:=fun o e=>by
    have e':=I.mod.kin a o e
    rcases f.2.2.2.1 with q | q
    · exact I.ok.noex a o e' (by rw [z];exact q)
    · have:=Heap.lt_size (I.ok.bs a o e').1
      rw [z] at this
      exact Nat.lt_irrefl _ (Nat.lt_of_lt_of_le this q)
  cases kd with
  | true=>
    rcases (show SqL X.K H a xs from h) with (q | ⟨o,q⟩) | ⟨o,_,_,q,_⟩
    · rw [z,f.1] at q;cases q
    · rw [z,f.1] at q;cases q
    · exact kk o q
  | false=>
    rcases (show SqT X.K H a xs from h) with (q | ⟨o,q⟩) | ⟨o,_,_,q,_⟩
    · rw [z,f.1] at q;cases q
    · rw [z,f.1] at q;cases q
    · exact kk o q
def Itz (K:PySem.W.Frag) (k1 k2:Bool) (a1 a2:Addr):It:=
  ⟨fun i H=>∃ xs ys x y,SqK K k1 H a1 xs /\ SqK K k2 H a2 ys /\ xs[i]? = some x /\ ys[i]? = some y,
   fun i H x H'=>∃ T u v,x = .ref T /\ H T = none /\ H' = upd H T (.tup [u,v]) /\ (∀ xs,SqK K k1 H a1 xs -> xs[i]? = some u) /\ ∀ ys,SqK K k2 H a2 ys -> ys[i]? = some v,
   fun i H=>∃ xs ys,SqK K k1 H a1 xs /\ SqK K k2 H a2 ys /\ (xs.length <= i \/ ys.length <= i)⟩
theorem Q0 {P:Program} {w:World} {K:PySem.W.Frag} {elts:List Expr} {kk:Nat} {pos:Pos} {k1 k2:Bool} {a1 a2 z TI TO i1 i2:Addr} (N:Z8 z TI TO i1 i2) :
    QV P w K (.Tuple elts kk pos) (Itz K k1 k2 a1 a2) [z,TI,TO,i1,i2] z (fun i h=>wt k1 k2 h z TI TO i1 i2 a1 a2 i) where
  mem:=by simp
  obj:=fun i h Z b hb=>by
    obtain ⟨a,b',q⟩:=Z.to
    have e1:=Z.r1.obj
    have e2:=Z.r2.obj
    simp only [List.mem_cons,List.not_mem_nil,or_false] at hb
    rcases hb with r | r | r | r | r
    · subst r;exact ⟨_,Z.zz,fun v q=>nomatch q⟩
    · subst r;exact ⟨_,Z.ti,fun v q=>nomatch q⟩
    · subst r;exact ⟨_,q,fun v q=>nomatch q⟩
    · subst r;obtain ⟨o,e,_,d⟩:=e1;exact ⟨o,e,d⟩
    · subst r;obtain ⟨o,e,_,d⟩:=e2;exact ⟨o,e,d⟩
  keep:=fun i h h' Z k=>by
    obtain ⟨a,b',q⟩:=Z.to
    exact ⟨k _ (by simp) _ Z.zz,k _ (by simp) _ Z.ti,⟨a,b',k _ (by simp) _ q⟩,Z.r1.at fun o e=>k _ (by simp) o e,Z.r2.at fun o e=>k _ (by simp) o e⟩
  item:=by
    intro X hP hw hK hc i pins s σ H E I hf Z hg
    subst hP hw hK
    obtain ⟨xs,ys,x,y,hq1,hq2,hx,hy⟩:=hg
    obtain ⟨its1,rv1,p1,hz1⟩:=I.seqK hq1
    obtain ⟨its2,rv2,p2,hz2⟩:=I.seqK hq2
    obtain ⟨u1,hu1,ru1⟩:=rv1.get hx
    obtain ⟨u2,hu2,ru2⟩:=rv2.get hy
    have sub:∀ b ∈ [z,TO,i1,i2],b ∈ [z,TI,TO,i1,i2]:=fun b hb=>by
      simp only [List.mem_cons,List.not_mem_nil,or_false] at hb ⊢
      rcases hb with r | r | r | r <;> simp [r]
    refine Z9 N Z p1 p2 (fun b hb=>hq1.ne_fp I (hf b (sub b hb))) (fun b hb=>hq2.ne_fp I (hf b (sub b hb))) (by simpa using hu1) (by simpa using hu2) fun h1 zz ti to r1 r2 hT hsz hk=>?_
    refine ⟨_,rfl,wpAny_letOwnedTupleGo_zip zz fun h2 zz2 hs2=>?_⟩
    have zl:z < s.heap.objs.size:=Heap.lt_size Z.zz
    obtain ⟨ta,tb,to⟩:=to
    refine ⟨.ref s.heap.objs.size,upd H s.heap.objs.size (.tup [x,y]),?_,rfl,⟨_,x,y,rfl,I.hok.fresh (Nat.le_refl _),rfl,fun xs' h'=>by rw [I.seqK_inj h' hq1];exact hx,fun ys' h'=>by rw [I.seqK_inj h' hq2];exact hy⟩,
      ⟨zz2,hs2.extBut _ _ N.a ti,⟨ta,tb,hs2.extBut _ _ N.b to⟩,r1.at fun o e=>hs2.extBut _ o N.c e,r2.at fun o e=>hs2.extBut _ o N.d e⟩,fun b hb=>?_⟩
    · exact Z0 (s:=s) (h':=h2) (t':=s.toks) (ch:=[z,TO,i1,i2]) (its:=[u1,u2]) I (fun b hb=>hf b (sub b hb)) (Nat.le_refl _) (fun b o hb e=>hs2.extBut _ o (fun q=>hb (by simp [q])) (hk b o hb e)) (by rw [sizeLine_eq];exact (by decide:2 <= 16777216)) (.cons ru1 (.cons ru2 .nil))
        (TupX.by (hs2.extBut _ _ (Nat.ne_of_gt zl) hT))
    · have hb':b < s.heap.objs.size:=by
        have e1:=Z.r1.obj
        have e2:=Z.r2.obj
        obtain ⟨a,b',q⟩:=Z.to
        simp only [List.mem_cons,List.not_mem_nil,or_false] at hb
        rcases hb with r | r | r | r | r
        · subst r;exact zl
        · subst r;exact Heap.lt_size Z.ti
        · subst r;exact Heap.lt_size q
        · subst r;obtain ⟨o,e,_⟩:=e1;exact Heap.lt_size e
        · subst r;obtain ⟨o,e,_⟩:=e2;exact Heap.lt_size e
      rw [zv (Nat.ne_of_lt hb')]
      exact (hf b hb).1
  done:=by
    intro X hP hw hK hc i pins s σ H E I hf Z hg
    subst hP hw hK
    obtain ⟨xs,ys,hq1,hq2,hle⟩:=hg
    obtain ⟨its1,rv1,p1,hz1⟩:=I.seqK hq1
    obtain ⟨its2,rv2,p2,hz2⟩:=I.seqK hq2
    have sub:∀ b ∈ [z,TO,i1,i2],b ∈ [z,TI,TO,i1,i2]:=fun b hb=>by
      simp only [List.mem_cons,List.not_mem_nil,or_false] at hb ⊢
      rcases hb with r | r | r | r <;> simp [r]
    have tr:∀ b u,H b = some u -> b ∉ [z,TO,i1,i2]:=fun b u e hb=>by rw [(hf b (sub b hb)).1] at e;cases e
    refine QY (I.ok.hd hc) N Z p1 p2 (fun b hb=>hq1.ne_fp I (hf b (sub b hb))) (fun b hb=>hq2.ne_fp I (hf b (sub b hb))) ?_ fun h' hk=>⟨rfl,?_⟩
    · have l1:=rv1.length
      have l2:=rv2.length
      rcases hle with q | q
      · exact .inl (by simp;omega)
      · exact .inr (by simp;omega)
    · refine I.step (g':=s.gens) (d':=s.drawn) (t':=s.toks) (ch:=[z,TO,i1,i2]) (fun b hb=>?_) (fun b o _ _ hc e _=>hk b o hc e) (fun b o _ _ hc e _=>⟨o.slots,hk b o hc e⟩) (fun _ _ _ _ n=>n) (fun b o hc e=>⟨o,hk b o hc e⟩)
        (fun _ _ e=>e) (fun _ _ _ e=>e) (fun b ps e=>⟨#[],by rw [e];simp⟩) (fun m hm=>?_) (fun b u e=>?_) I.bare
      · obtain ⟨_,g1,_,g3,g4,g5⟩:=hf b (sub b hb)
        exact ⟨g3,g1,g4,g5⟩
      · obtain ⟨o,es,ep,ho,r⟩:=hm
        exact ⟨o,es,ep,hk _ o (fun z=>(hf _ (sub _ z)).2.1 rfl) ho,r⟩
      · refine (I.hok b u e).stay (fun c v hc q=>hk c v ?_ q) (fun _ q=>q) fun _ _ q=>q
        rcases hc with z | z
        · rw [z];exact tr b u e
        · exact tr c _ z
  self:=fun _ _ _ _ _ Z h=>wpAny_pyIter_zip Z.zz h
section
variable {X:Cx}
def WQ (K:PySem.W.Frag) (ta:TA):TI:=fun σ H R=>ta σ H fun vs H1=>∃ k1 k2 a1 a2,vs = [.ref a1,.ref a2] /\ (∃ xs,SqK K k1 H1 a1 xs) /\ (∃ ys,SqK K k2 H1 a2 ys) /\ R (Itz K k1 k2 a1 a2) H1
theorem Vz {l m:Expr} {ta:TA} {p pos tp:Pos} {elts:List Expr} {kk:Nat} (hg:Gl X "zip") (hm:X.mg "zip" = none) (ha:PA X [l,m] ta) (hs:starEach [l,m] X.env = [(false,eval l X.env),(false,eval m X.env)]:=by rfl) (hs2:starEach [m] X.env = [(false,eval m X.env)]:=by rfl) :
    PI X (.Tuple elts kk tp) (.Call (.Name "zip" p) [l,m] [] pos) (WQ X.K ta):=by
  intro pins s σ H R I h
  refine Call_ (jQ I hg hm boot_zip (PyProof.Rows.callWith_type1 (thn (ha pos pins s σ H _ I h) fun us s1 ⟨vs,H1,I1,r1,q1⟩=>?_) (by rw [hs,hs2]) (by rw [hs2];rfl)))
  obtain ⟨k1,k2,a1,a2,e,⟨xs,hq1⟩,⟨ys,hq2⟩,q⟩:=q1
  subst e
  obtain ⟨u,u',rfl,ru,ru'⟩:=vQ r1
  cases ru
  cases ru'
  obtain ⟨its1,rv1,p1,hz1⟩:=I1.seqK hq1
  obtain ⟨its2,rv2,p2,hz2⟩:=I1.seqK hq2
  refine QP p1 p2 fun h' Z hk hsz=>wpAny_pyIter_zip Z.zz ?_
  have I2:Inv X pins σ H1 { s1 with heap:=h' }:=I1.kept (t':=s1.toks) hk
  have N:Z8 (s1.heap.objs.size + 4) (s1.heap.objs.size + 2) (s1.heap.objs.size + 3) s1.heap.objs.size (s1.heap.objs.size + 1):=by
    constructor <;> (intro e;have e':(_:Nat) = _:=e;omega)
  refine ⟨s1.heap.objs.size + 4,_,_,_,H1,rfl,I2,Q0 N,Z,fun b hb=>?_,q⟩
  have hb':s1.heap.objs.size <= b:=by
    simp only [List.mem_cons,List.not_mem_nil,or_false] at hb
    rcases hb with r | r | r | r | r <;> (rw [r];first | exact Nat.le_add_right _ _ | exact Nat.le_refl _)
  exact I1.fpOk hb' (I1.hok.fresh hb')
end
def TyN (K:PySem.W.Frag) (H:Hp) (x:V) (T:String):Prop:=match x with
  | .non=>T = "NoneType"
  | .bl _=>T = "bool"
  | .int _=>T = "int"
  | .str _=>T = "str"
  | .ref a=>(T = "list" /\ ∃ xs,SqL K H a xs) \/ (T = "tuple" /\ ∃ xs,SqT K H a xs)
  | _=>False
def qL (T C:String):Bool:=T == C || (T == "bool" && C == "int")
def xV:List String:=["NoneType", "bool", "int", "str", "list", "tuple"]
def xt:List String:=["bool", "int", "str", "list", "tuple", "dict"]
theorem ZX {K:PySem.W.Frag}:∀ T ∈ xV,∀ C ∈ xt,PySem.W.kitOne K (.type T) (.type C) = some (qL T C):=by
  intro T hT C hC
  simp only [xV,xt,List.mem_cons,List.not_mem_nil,or_false] at hT hC
  rcases hT with rfl | rfl | rfl | rfl | rfl | rfl <;> rcases hC with rfl | rfl | rfl | rfl | rfl | rfl <;> kernel_rfl
theorem yI {K:PySem.W.Frag} {T:String} (hT:T ∈ xV):∀ {Cs:List String},(∀ C ∈ Cs,C ∈ xt) -> PySem.W.kitAny K (.type T) (Cs.map Value.type) = some (Cs.any fun C=>qL T C)
  | [],_=>rfl
  | C :: r,h=>by
    have ih:=yI (K:=K) hT (Cs:=r) fun C' hC=>h C' (List.mem_cons_of_mem _ hC)
    show (match PySem.W.kitOne K (.type T) (.type C) with | some true=>some true | some false=>PySem.W.kitAny K (.type T) (r.map Value.type) | none=>none) = _
    rw [ZX T hT C (h C List.mem_cons_self),List.any_cons]
    cases qL T C with
    | true=>rfl
    | false=>rw [ih];rfl
theorem TyN.mem {K:PySem.W.Frag} {H:Hp} {x:V} {T:String} (h:TyN K H x T):T ∈ xV:=by
  cases x with
  | non=>cases (show T = _ from h);decide
  | bl _=>cases (show T = _ from h);decide
  | int _=>cases (show T = _ from h);decide
  | str _=>cases (show T = _ from h);decide
  | ref a=>rcases (show _ \/ _ from h) with ⟨e,_⟩ | ⟨e,_⟩ <;> (subst e;decide)
  | _=>exact (show False from h).elim
section
variable {X:Cx} {pins:List (Addr × Obj)} {σ:St} {H:Hp} {s:Shared}
theorem ZW {x:V} {u:Value} {T:String} (I:Inv X pins σ H s) (rx:RelV x u) (ty:TyN X.K H x T):∃ P:Heap -> Prop,P s.heap /\ PySem.W.KitX X.K u (.type T) P /\ u ≠ .builtin "__main__.__loader__#opaque" :=by
  cases x with
  | non=>cases (show u = Value.none from rx);cases (show T = _ from ty);exact ⟨_,True.intro,PySem.W.kitx_none,fun z=>nomatch z⟩
  | bl y=>cases (show u = Value.bool y from rx);cases (show T = _ from ty);exact ⟨_,True.intro,PySem.W.kitx_bool,fun z=>nomatch z⟩
  | int i=>obtain ⟨t,q⟩:=(show ∃ t,u = Value.int i t from rx);cases q;cases (show T = _ from ty);exact ⟨_,True.intro,PySem.W.kitx_int,fun z=>nomatch z⟩
  | str y=>obtain ⟨t,q⟩:=(show ∃ t,u = Value.str y t from rx);cases q;cases (show T = _ from ty);exact ⟨_,True.intro,PySem.W.kitx_str,fun z=>nomatch z⟩
  | ref a=>
    cases (show u = Value.ref a from rx)
    rcases (show _ \/ _ from ty) with ⟨e,xs,hx⟩ | ⟨e,xs,hx⟩
    · subst e
      obtain ⟨its,r,⟨o,n,e1,e2,_⟩,_⟩:=I.list hx
      exact ⟨_,⟨o,e1,e2⟩,PySem.W.kitx_list,fun z=>nomatch z⟩
    · subst e
      obtain ⟨its,r,⟨o,e1,e2,_⟩,_⟩:=I.tuple hx
      exact ⟨_,⟨o,e1,e2⟩,PySem.W.kitx_tuple,fun z=>nomatch z⟩
  | _=>exact (show False from ty).elim
end
section
variable {X:Cx}
theorem Zv:∀ {Cs:List String} {us:List Value},Vals (Cs.map V.ty) us -> us = Cs.map Value.type
  | [],us,r=>by cases r;rfl
  | C :: r,us,h=>by
    cases h with
    | cons h1 h2=>rw [Zv h2,show _ = Value.type C from h1];rfl
inductive xi (K:PySem.W.Frag) (xs:List V) (H:Hp) (Q:VK):Prop
  | mk (x T C:_) (_:xs = [x,.ty C]) (_:TyN K H x T) (_:C ∈ xt) (_:Q (.bl (qL T C)) H):xi K xs H Q
theorem qi:CallR X (.builtin "isinstance") (xi X.K):=by
  intro pins s σ H xs us Q I r h
  obtain ⟨x,T,C,rfl,ty,hC,q⟩:=h
  obtain ⟨u,w',rfl,ru,rw'⟩:=vQ r
  cases (show w' = Value.type C from rw')
  obtain ⟨P,hP,Z,hn⟩:=ZW I ru ty
  exact PySem.W.kia_one Z I.kIn hP (ZX T ty.mem C hC) hn fun tk=>⟨.bl _,H,I.tok tk,rfl,q⟩
inductive xP (K:PySem.W.Frag) (xs:List V) (H:Hp) (Q:VK):Prop
  | mk (x:V) (T:String) (p:Addr) (Cs:List String) (_:xs = [x,.ref p]) (_:TyN K H x T) (_:H p = some (.tup (Cs.map V.ty))) (_:(∀ C ∈ Cs,C ∈ xt)) (_:Q (.bl (Cs.any fun C=>qL T C)) H):xP K xs H Q
theorem xD:CallR X (.builtin "isinstance") (xP X.K):=by
  intro pins s σ H xs us Q I r h
  obtain ⟨x,T,p,Cs,rfl,ty,hp,hC,q⟩:=h
  obtain ⟨u,w',rfl,ru,rw'⟩:=vQ r
  cases (show w' = Value.ref p from rw')
  obtain ⟨P,hP,Z,hn⟩:=ZW I ru ty
  obtain ⟨its,r',⟨o,e1,e2,n,e3⟩,_⟩:=I.tuple (SqT.of hp)
  obtain ⟨c,dd,dt,sl⟩:=o
  have e2:c = .type "tuple" :=e2
  have e3:dt = .seq its.toArray n:=e3
  subst e2 e3
  rw [Zv r'] at e1
  exact PySem.W.kia_tup Z I.kIn hP e1 (yI ty.mem hC) hn fun tk=>⟨.bl _,H,I.tok tk,rfl,q⟩
end
inductive Dat where
  | non | bl (b:Bool) | int (i:Int) | str (x:Str) | lst (ds:List Dat) | tup (ds:List Dat)
mutual
def Rep (K:PySem.W.Frag) (H:Hp):Dat -> V -> Prop
  | .non,v=>v = .non
  | .bl b,v=>v = .bl b
  | .int i,v=>v = .int i
  | .str x,v=>v = .str x
  | .lst ds,v=>∃ a xs,v = .ref a /\ SqL K H a xs /\ Reps K H ds xs
  | .tup ds,v=>∃ a xs,v = .ref a /\ SqT K H a xs /\ Reps K H ds xs
def Reps (K:PySem.W.Frag) (H:Hp):List Dat -> List V -> Prop
  | [],xs=>xs = []
  | d :: ds,xs=>∃ x r,xs = x :: r /\ Rep K H d x /\ Reps K H ds r
end
mutual
def Dat.dp:Dat -> Nat
  | .lst ds=>Dat.dps ds + 1
  | .tup ds=>Dat.dps ds + 1
  | _=>0
def Dat.dps:List Dat -> Nat
  | []=>0
  | d :: ds=>max d.dp (Dat.dps ds)
end
theorem Same.sqT {K:PySem.W.Frag} {H H':Hp} {a:Addr} {xs:List V} (e:Same H H') (h:SqT K H a xs):SqT K H' a xs:=by
  rcases h with (h | ⟨o,h⟩) | h
  · exact .inl (.inl (e _ _ h))
  · exact .inl (.inr ⟨o,e _ _ h⟩)
  · exact .inr h
mutual
theorem Rep.same {K:PySem.W.Frag} {H H':Hp} (e:Same H H'):∀ {d:Dat} {v:V},Rep K H d v -> Rep K H' d v
  | .non,_,h=>h
  | .bl _,_,h=>h
  | .int _,_,h=>h
  | .str _,_,h=>h
  | .lst _,_,h=>by
    obtain ⟨a,xs,e1,e2,e3⟩:=h
    exact ⟨a,xs,e1,e.seq e2,Reps.same e e3⟩
  | .tup _,_,h=>by
    obtain ⟨a,xs,e1,e2,e3⟩:=h
    exact ⟨a,xs,e1,e.sqT e2,Reps.same e e3⟩
theorem Reps.same {K:PySem.W.Frag} {H H':Hp} (e:Same H H'):∀ {ds:List Dat} {xs:List V},Reps K H ds xs -> Reps K H' ds xs
  | [],_,h=>h
  | _ :: _,_,h=>by
    obtain ⟨x,r,e1,e2,e3⟩:=h
    exact ⟨x,r,e1,Rep.same e e2,Reps.same e e3⟩
end
theorem Reps.len {K:PySem.W.Frag} {H:Hp}:∀ {ds:List Dat} {xs:List V},Reps K H ds xs -> xs.length = ds.length
  | [],_,h=>by rw [show _ = _ from h];rfl
  | _ :: _,_,h=>by
    obtain ⟨x,r,e1,e2,e3⟩:=h
    rw [e1,List.length_cons,List.length_cons,Reps.len e3]
theorem Reps.get {K:PySem.W.Frag} {H:Hp}:∀ {ds:List Dat} {xs:List V} {i:Nat} {x:V},Reps K H ds xs -> xs[i]? = some x -> ∃ d,ds[i]? = some d /\ Rep K H d x
  | [],_,_,_,h,e=>by rw [show _ = _ from h] at e;simp at e
  | d :: ds,_,i,x,h,e=>by
    obtain ⟨y,r,e1,e2,e3⟩:=h
    subst e1
    cases i with
    | zero=>simp at e;subst e;exact ⟨d,rfl,e2⟩
    | succ i=>
      obtain ⟨d',q1,q2⟩:=Reps.get (i:=i) e3 (by simpa using e)
      exact ⟨d',by simpa using q1,q2⟩
theorem ze {H:Hp} {a:Addr} {o:HO} (h:H a = none):Same H (upd H a o):=fun b u e=>by rw [zv (zr e h)];exact e
section
variable {X:Cx}
end
section
variable {X:Cx}
end
structure Dfn (P:Program) (w:World) (K:PySem.W.Frag) (mg:Str -> Option Value) (base:Heap) (x:Str) (k:Nat) (ps:List Str) (sp:Sp):Prop where
  ex:∃ f fd,FnOk P w K mg base CX0 k f fd ps sp /\ mg x = some (.ref f) /\ PySem.W.keepIn K (.ref f) = true /\ Binds K fd ps []
section
variable {X:Cx} {x:Str} {k:Nat} {ps:List Str} {sp:Sp} {p pos:Pos} {e:Expr} {es:List Expr} {t:TA}
theorem zf (D:Dfn X.prog X.w X.K X.mg X.base x k ps sp) (hr:Room k X.A) (hg:Gl X x) (ha:PA X (e :: es) t) (hd:(x == ("__debug__" : Str)) = false:=by decide)
    (hs:starEach (e :: es) X.env = (false,eval e X.env) :: starEach es X.env:=by rfl) (hpl:(backTo pos (starEach es X.env)).any (·.1) = false:=by rfl):PE X (.Call (.Name x p) (e :: es) [] pos) (X6 sp [] E0 t):=by
  obtain ⟨f,fd,F,hm,hk,hb⟩:=D.ex
  exact Xv F hr hg hm hk hb .nil Wl ha hd hs hpl
end
theorem ifT {b:Bool} {A B:Prop} (h:b = true) (q:A):if b = true then A else B:=by rw [if_pos h];exact q
theorem ifF {b:Bool} {A B:Prop} (h:b = false) (q:B):if b = true then A else B:=by rw [if_neg (by rw [h];exact Bool.false_ne_true)];exact q
theorem JQ {K:PySem.W.Frag} {k1 k2:Bool} {a1 a2:Addr} {xs ys:List V} {g:TG} {tf:TT} {te:TE} {σ0:St} {n:Nat} {R:List V -> Hp -> Prop} {H:Hp} (Pv:Nat -> List V -> Hp -> Prop) (h0:Pv 0 [] H)
    (h1:∀ i zs H,Pv i zs H -> SqK K k1 H a1 xs /\ SqK K k2 H a2 ys)
    (hs:∀ i x y zs H T,xs[i]? = some x -> ys[i]? = some y -> Pv i zs H -> H T = none -> g (.ref T) σ0 (upd H T (.tup [x,y])) fun σ4 H4=>σ4.drop n = σ0.drop n /\ tf σ4 H4 fun b H5=>
      if b = true then te σ4 H5 fun v H6=>zs.length < sizeLine /\ Pv (i + 1) (zs ++ [v]) H6 else Pv (i + 1) zs H5)
    (hd:∀ zs H,Pv (min xs.length ys.length) zs H -> zs.length <= sizeLine /\ R zs H) :
    ∃ W:Nat -> Nat -> List V -> Hp -> Prop,(∃ m,W 0 m [] H) /\ ∀ i m zs H2,W i m zs H2 ->
      ((Itz K k1 k2 a1 a2).stop i H2 /\ zs.length <= sizeLine /\ R zs H2) \/
      ((Itz K k1 k2 a1 a2).go i H2 /\ ∃ N:List V -> Hp -> Prop,(∀ zs H',N zs H' -> ∃ m',m' < m /\ W (i + 1) m' zs H') /\ ∀ x H3,(Itz K k1 k2 a1 a2).yld i H2 x H3 -> g x σ0 H3 fun σ4 H4=>σ4.drop n = σ0.drop n /\ tf σ4 H4 fun b H5=>
        if b = true then te σ4 H5 fun y H6=>zs.length < sizeLine /\ N (zs ++ [y]) H6 else N zs H5):=by
  refine ⟨fun i m zs H2=>m = min xs.length ys.length - i /\ i <= min xs.length ys.length /\ Pv i zs H2,⟨_,rfl,Nat.zero_le _,h0⟩,?_⟩
  rintro i m zs H2 ⟨rfl,hi,p⟩
  obtain ⟨q1,q2⟩:=h1 i zs H2 p
  by_cases hlt:i < min xs.length ys.length
  · have l1:i < xs.length:=by omega
    have l2:i < ys.length:=by omega
    refine .inr ⟨⟨xs,ys,xs[i],ys[i],q1,q2,by simp [l1],by simp [l2]⟩,Pv (i + 1),fun zs' H' p'=>⟨_,by omega,rfl,hlt,p'⟩,fun x H3 y=>?_⟩
    obtain ⟨T,u,v,e1,hT,e2,y1,y2⟩:=y
    subst e1 e2
    exact hs i u v zs H2 T (y1 xs q1) (y2 ys q2) p hT
  · have e:i = min xs.length ys.length:=by omega
    subst e
    obtain ⟨z1,z2⟩:=hd zs H2 p
    exact .inl ⟨⟨xs,ys,q1,q2,by omega⟩,z1,z2⟩
theorem yH {lo:Int} {N n:Nat} {g:TG} {tf:TT} {te:TE} {σ0:St} {R:List V -> Hp -> Prop} {H:Hp} (Pv:Nat -> List V -> Hp -> Prop) (h0:Pv 0 [] H)
    (hs:∀ i zs H,i < N -> Pv i zs H -> g (.int (lo + i)) σ0 H fun σ4 H4=>σ4.drop n = σ0.drop n /\ tf σ4 H4 fun b H5=>if b = true then te σ4 H5 fun v H6=>zs.length < sizeLine /\ Pv (i + 1) (zs ++ [v]) H6 else Pv (i + 1) zs H5)
    (hd:∀ zs H,Pv N zs H -> zs.length <= sizeLine /\ R zs H) :
    ∃ W:Nat -> Nat -> List V -> Hp -> Prop,(∃ m,W 0 m [] H) /\ ∀ i m zs H2,W i m zs H2 ->
      ((Itr lo N).stop i H2 /\ zs.length <= sizeLine /\ R zs H2) \/
      ((Itr lo N).go i H2 /\ ∃ M:List V -> Hp -> Prop,(∀ zs H',M zs H' -> ∃ m',m' < m /\ W (i + 1) m' zs H') /\ ∀ x H3,(Itr lo N).yld i H2 x H3 -> g x σ0 H3 fun σ4 H4=>σ4.drop n = σ0.drop n /\ tf σ4 H4 fun b H5=>
        if b = true then te σ4 H5 fun y H6=>zs.length < sizeLine /\ M (zs ++ [y]) H6 else M zs H5):=by
  refine ⟨fun i m zs H2=>m = N - i /\ i <= N /\ Pv i zs H2,⟨_,rfl,Nat.zero_le _,h0⟩,?_⟩
  rintro i m zs H2 ⟨rfl,hi,p⟩
  by_cases hlt:i < N
  · refine .inr ⟨hlt,Pv (i + 1),fun zs' H' p'=>⟨_,by omega,rfl,hlt,p'⟩,fun x H3 y=>?_⟩
    obtain ⟨e1,e2⟩:=y
    subst e1 e2
    exact hs i zs _ hlt p
  · have e:i = N:=by omega
    subst e
    obtain ⟨z1,z2⟩:=hd zs H2 p
    exact .inl ⟨Nat.le_refl _,z1,z2⟩
def xE (sn on:List (Str × NameKind)) (N own fr:List Str) (js:List Nat):Bool:=
  vF sn on N fr js && own.all (fun x=>sn.lookup x == some .local) && decide (own ++ fr).Nodup
theorem j5 {sn on:List (Str × NameKind)} {N own fr:List Str} {js:List Nat} (h:xE sn on N own fr js = true):vF sn on N fr js = true /\ (∀ x ∈ own,sn.lookup x = some .local) /\ (own ++ fr).Nodup:=by
  unfold xE at h
  rw [Bool.and_eq_true,Bool.and_eq_true,List.all_eq_true] at h
  exact ⟨h.1.1,fun x hx=>by simpa using h.1.2 x hx,of_decide_eq_true h.2⟩
section
variable {X:Cx} {elt iter:Expr} {ifs:List Expr} {scope:Scope} {pos px py tp:Pos} {wi:TI} {tf:TT} {te:TE} {x y:Str} {kk:Nat}
theorem xf {N':List Str} {C:Addr} {s:Shared} {H:Hp} {ex:List Addr} {i:Nat} (hl:scope.names.lookup x = some .local) (nd:N'.Nodup) (hi:N'[i]? = some x):PG (zI X N' scope C s H ex) (.Name x px) (jK i):=
  zU (X:=zI X N' scope C s H ex) nd hi (.inl (lookup_relabel_local hl)) (.inr (lookup_relabel_local hl))
theorem jq (fr:List Str) (js:List Nat) (hc:X.calm = true) (hk:scope.kind = .function) (hb:xE scope.names X.env.scope.names X.N [x] fr js = true) (hi:PI X (.Name x px) iter wi)
    (hf:∀ C s H ex,PF (zI X ([x] ++ fr) scope C s H ex) ifs tf) (he:∀ C s H ex,PE (zI X ([x] ++ fr) scope C s H ex) elt te)
    (hs:∀ x,foldedSetIterable iter X.env x = pure x:=by intro _;rfl):PE X (.ListComp elt [⟨.Name x px,iter,ifs,0⟩] scope pos) (tLC wi 1 js (jK 0) tf te):=by
  obtain ⟨h1,h2,h3⟩:=j5 hb
  exact Vi [x] fr js hc hk h1 hi (fun C s H ex=>xf (h2 x (by simp)) h3 rfl) hf he hs
theorem Jv (fr:List Str) (js:List Nat) (hc:X.calm = true) (hk:scope.kind = .function) (hb:xE scope.names X.env.scope.names X.N [x,y] fr js = true) (hi:PI X (.Tuple [.Name x px,.Name y py] kk tp) iter wi)
    (hf:∀ C s H ex,PF (zI X ([x,y] ++ fr) scope C s H ex) ifs tf) (he:∀ C s H ex,PE (zI X ([x,y] ++ fr) scope C s H ex) elt te)
    (hs:∀ x,foldedSetIterable iter X.env x = pure x:=by intro _;rfl):PE X (.ListComp elt [⟨.Tuple [.Name x px,.Name y py] kk tp,iter,ifs,0⟩] scope pos) (tLC wi 2 js (JV X.K 2 (xI (jK 0) (xI (jK 1) XW))) tf te):=by
  obtain ⟨h1,h2,h3⟩:=j5 hb
  refine Vi [x,y] fr js hc hk h1 hi (fun C s H ex=>?_) hf he hs
  exact jz (X:=zI X ([x,y] ++ fr) scope C s H ex) hc (zX (xf (h2 x (by simp)) h3 rfl) (zX (xf (h2 y (by simp)) h3 rfl) qX))
end
def tWk (t:TS):TS:=fun D σ H=>∃ J:St -> Hp -> Prop,t { D with nx:=J } σ H /\ ∀ σ' H',J σ' H' -> D.nx σ' H'
theorem jx {X:Cx} {st:Stmt} {t:TS} (h:PS X st t):PS X st (tWk t):=by
  intro pins s σ H D I hw
  obtain ⟨J,q1,q2⟩:=hw
  refine thn (h pins s σ H _ I q1) fun f s1 q=>?_
  cases f with
  | next=>obtain ⟨σ',H',I',z⟩:=q;exact ⟨σ',H',I',q2 σ' H' z⟩
  | brk=>exact q
  | cont=>exact q
  | ret u=>exact q
def Dat.ok:Nat -> Dat -> Prop
  | n + 1,.lst ds=>ds.length <= 1000000 /\ ∀ d ∈ ds,Dat.ok n d
  | n + 1,.tup ds=>ds.length <= 1000000 /\ ∀ d ∈ ds,Dat.ok n d
  | 0,.lst _=>False
  | 0,.tup _=>False
  | _,_=>True
def Dat.tyN:Dat -> String
  | .non=> "NoneType" | .bl _=> "bool" | .int _=> "int" | .str _=> "str" | .lst _=> "list" | .tup _=> "tuple"
theorem Rep.ty {K:PySem.W.Frag} {H:Hp} {d:Dat} {v:V} (h:Rep K H d v):TyN K H v d.tyN:=by
  cases d with
  | non=>rw [show v = _ from h];exact rfl
  | bl b=>rw [show v = _ from h];exact rfl
  | int b=>rw [show v = _ from h];exact rfl
  | str b=>rw [show v = _ from h];exact rfl
  | lst ds=>obtain ⟨a,xs,rfl,e,_⟩:=h;exact .inl ⟨rfl,xs,e⟩
  | tup ds=>obtain ⟨a,xs,rfl,e,_⟩:=h;exact .inr ⟨rfl,xs,e⟩
mutual
def Dat.py:Dat -> PyData
  | .non=>.none
  | .bl b=>.bool b
  | .int i=>.int i
  | .str x=>.str x
  | .lst ds=>.list (Dat.pys ds)
  | .tup ds=>.tuple (Dat.pys ds)
def Dat.pys:List Dat -> List PyData
  | []=>[]
  | d :: ds=>d.py :: Dat.pys ds
end
mutual
def Dat.shw:Dat -> Bool
  | .int i=>decide (i.natAbs < 1000000000000)
  | .str x=>x.cps.toList.all fun c=>decide (c < 1000000)
  | .lst ds=>Dat.shws ds
  | .tup ds=>Dat.shws ds
  | _=>true
def Dat.shws:List Dat -> Bool
  | []=>true
  | d :: ds=>d.shw && Dat.shws ds
end
mutual
def Dat.blk:Dat -> Nat
  | .str x=>x.cps.size
  | .lst ds=>Dat.blks ds
  | .tup ds=>Dat.blks ds
  | _=>0
def Dat.blks:List Dat -> Nat
  | []=>0
  | d :: ds=>d.blk + 1 + Dat.blks ds
end
mutual
theorem Dat.py_blk:∀ d:Dat,d.py.bulk = d.blk
  | .non=>rfl
  | .bl _=>rfl
  | .int _=>rfl
  | .str _=>rfl
  | .lst ds=>Dat.pys_blk ds
  | .tup ds=>Dat.pys_blk ds
theorem Dat.pys_blk:∀ ds:List Dat,PyData.bulkAll (Dat.pys ds) = Dat.blks ds
  | []=>rfl
  | d :: ds=>by
    show PyData.bulk d.py + 1 + PyData.bulkAll (Dat.pys ds) = d.blk + 1 + Dat.blks ds
    rw [Dat.py_blk d,Dat.pys_blk ds]
end
theorem wK {n:Nat} (h:n < 1000000000000):n.log2 < 1920:=by
  by_cases h0:n = 0
  · rw [h0];decide
  · exact Nat.lt_trans ((Nat.log2_lt h0).mpr (Nat.lt_trans h (by decide:1000000000000 < 2 ^ 40))) (by decide)
mutual
theorem Dat.py_short:∀ d:Dat,d.shw = true -> d.py.leavesShort 13 = true /\ d.py.showable = true /\ d.py.hasDict = false
  | .non,_=>⟨rfl,rfl,rfl⟩
  | .bl _,_=>⟨rfl,rfl,rfl⟩
  | .int i,h=>by
    have h':i.natAbs < 1000000000000:=of_decide_eq_true h
    refine ⟨decide_eq_true (PyData.shown_int_le h'),decide_eq_true (wK h'),rfl⟩
  | .str x,h=>by
    refine ⟨?_,rfl,rfl⟩
    have h':(x.cps.toList.all fun c=>decide (c < 1000000)) = true:=h
    show (x.cps.toList.all fun c=>decide (c < 16 ^ 8)) = true
    rw [List.all_eq_true] at h' ⊢
    intro c hc
    have:=of_decide_eq_true (h' c hc)
    exact decide_eq_true (by omega)
  | .lst ds,h=>Dat.pys_short ds h
  | .tup ds,h=>Dat.pys_short ds h
theorem Dat.pys_short:∀ ds:List Dat,Dat.shws ds = true -> PyData.leavesShortAll 13 (Dat.pys ds) = true /\ PyData.showableAll (Dat.pys ds) = true /\ PyData.hasDictAll (Dat.pys ds) = false
  | [],_=>⟨rfl,rfl,rfl⟩
  | d :: ds,h=>by
    have h':(d.shw && Dat.shws ds) = true:=h
    rw [Bool.and_eq_true] at h'
    obtain ⟨a1,a2,a3⟩:=Dat.py_short d h'.1
    obtain ⟨b1,b2,b3⟩:=Dat.pys_short ds h'.2
    refine ⟨?_,?_,?_⟩
    · show (PyData.leavesShort 13 d.py && PyData.leavesShortAll 13 (Dat.pys ds)) = true
      rw [a1,b1];rfl
    · show (PyData.showable d.py && PyData.showableAll (Dat.pys ds)) = true
      rw [a2,b2];rfl
    · show (PyData.hasDict d.py || PyData.hasDictAll (Dat.pys ds)) = false
      rw [a3,b3];rfl
end
mutual
theorem Rep.reads {X:Cx} {pins:List (Addr × Obj)} {σ:St} {H:Hp} {s:Shared} (I:Inv X pins σ H s):∀ {d:Dat} {v:V} {u:Value},Rep X.K H d v -> RelV v u -> ∃ as,Reads s.heap u d.py as
  | .non,v,u,h,r=>by cases (show v = _ from h);cases (show u = _ from r);exact ⟨_,.none⟩
  | .bl b,v,u,h,r=>by cases (show v = _ from h);cases (show u = _ from r);exact ⟨_,.bool b⟩
  | .int i,v,u,h,r=>by cases (show v = _ from h);obtain ⟨t,rfl⟩:=r;exact ⟨_,.int i t⟩
  | .str x,v,u,h,r=>by cases (show v = _ from h);obtain ⟨t,rfl⟩:=r;exact ⟨_,.str x t⟩
  | .lst ds,v,u,h,r=>by
    obtain ⟨a,xs,rfl,hx,hr⟩:=h
    cases (show u = _ from r)
    obtain ⟨its,rv,pl,_⟩:=I.list hx
    obtain ⟨o,e,c,n,dd⟩:=pl.isList
    obtain ⟨as,q⟩:=Reps.reads I hr rv
    exact ⟨_,.list e c dd (by simpa using q)⟩
  | .tup ds,v,u,h,r=>by
    obtain ⟨a,xs,rfl,hx,hr⟩:=h
    cases (show u = _ from r)
    obtain ⟨its,rv,⟨o,e,c,n,dd⟩,_⟩:=I.tuple hx
    obtain ⟨as,q⟩:=Reps.reads I hr rv
    exact ⟨_,.tuple e c dd (by simpa using q)⟩
theorem Reps.reads {X:Cx} {pins:List (Addr × Obj)} {σ:St} {H:Hp} {s:Shared} (I:Inv X pins σ H s):∀ {ds:List Dat} {xs:List V} {us:List Value},Reps X.K H ds xs -> Vals xs us -> ∃ as,ReadsAll s.heap us (Dat.pys ds) as
  | [],xs,us,h,r=>by cases (show xs = _ from h);cases r;exact ⟨_,.nil⟩
  | d :: ds,xs,us,h,r=>by
    obtain ⟨x,r',rfl,h1,h2⟩:=h
    cases r with
    | cons r1 r2=>
      obtain ⟨as,q1⟩:=Rep.reads I h1 r1
      obtain ⟨bs,q2⟩:=Reps.reads I h2 r2
      exact ⟨_,.cons q1 q2⟩
end
section
variable {X:Cx}
inductive xL (K:PySem.W.Frag) (xs:List V) (H:Hp) (Q:VK):Prop
  | mk (a:Addr) (d:Dat) (_:xs = [.ref a]) (_:Rep K H d (.ref a)) (_:d.shw = true) (_:d.blk <= 1048576) (_:d.py.depth <= 60) (_:Q (.str d.py.shown) H):xL K xs H Q
theorem we (hg:X.A.guards = some []) (hu:X.A.units + 64 < cLine):CallR X (.type "str") (xL X.K):=by
  intro pins s σ H xs us Q I r h
  obtain ⟨a,d,rfl,hr,h1,h2,h3,q⟩:=h
  obtain ⟨u,rfl,ru⟩:=ja r
  obtain ⟨as,q1⟩:=hr.reads I ru
  cases (show u = _ from ru)
  obtain ⟨s1,s2,s3⟩:=Dat.py_short d h1
  refine str_of_reads q1 s2 (PyData.noDict_hsm s3) hg (by omega) (fun _ _ e=>e) (fun h' u tk hk=>⟨.str d.py.shown,H,I.kept hk,⟨u,rfl⟩,q⟩) ?_
  exact PyData.shown_fits_bulk (B:=13) (by decide) (by decide) s1 (by rw [Dat.py_blk];exact h2)
end
section
variable {X:Cx}
theorem vB (xs:Array Nat):∀ (n:Nat) (a:Array Nat),((List.replicate n xs).foldl (· ++ ·) a).size = a.size + n * xs.size
  | 0,a=>by simp
  | n + 1,a=>by
    rw [List.replicate_succ,List.foldl_cons,vB xs n,Array.size_append,Nat.succ_mul]
    omega
theorem XR (x:Str) (n:Int):(Txt.mul x n).length <= n.toNat * x.length:=by
  unfold Txt.mul
  split
  · exact Nat.zero_le _
  · rename_i h
    split
    · rename_i h2
      have:n = 1 \/ x.length = 0:=by simpa using h2
      rcases this with e | e
      · rw [e];simp
      · rw [e];simp
    · show ((List.replicate n.toNat x.cps).foldl (· ++ ·) #[]).size <= _
      rw [vB]
      simp [Str.length]
end
section
variable {X:Cx} {tg:Expr}
end
section
variable {X:Cx}
inductive ZQ (x:V) (vs:List V) (H:Hp) (Q:VK):Prop
  | mk (l:Addr) (xs:List V) (i:Int) (y:V) (_:x = .ref l) (_:vs = [.int i,y]) (_:H l = some (.lst xs)) (_:0 <= i) (_:i < 2 ^ 62) (_:xs.length < sizeLine) (_:Q .non (upd H l (.lst (xs.take i.toNat ++ y :: xs.drop i.toNat)))):ZQ  x vs H Q
theorem v7:MtM X "list.insert" ZQ:=by
  intro pins s σ H x vs v us Q I rx rv h
  obtain ⟨l,xs,i,y,rfl,rfl,hH,i0,i1,hz,q⟩:=h
  cases rx
  obtain ⟨u1,u2,rfl,r1,r2⟩:=vQ rv
  obtain ⟨t,rfl⟩:=r1
  obtain ⟨z,its,n,r,hl,e⟩:=I.lstM hH
  have hlen:=r.length
  refine call_meets F.slot_list_insert ⟨_,e,rfl⟩ F.entry_list_insert (F.args_list_insert_3 _ _ _) (AutoListH.list_insert_list_int_val_1 l its.toArray n i t u2 ?_ (by rw [List.size_toArray];omega)) ⟨e,?_⟩
  · unfold Builtin.List.listFitsIndex
    simp
    omega
  refine ⟨.non,_,I.lset (its':=its.take i.toNat ++ u2 :: its.drop i.toNat) hH e ?_ ((r.take _).append (.cons r2 (r.drop _))) ?_,rfl,q⟩
  · show (have k:=if i < 0 then (i + ((its.toArray.size:Nat):Int)).toNat else min i.toNat its.toArray.size;(its.toArray.extract 0 k).push u2 ++ its.toArray.extract k) = _
    have hk:(if i < 0 then (i + ((its.toArray.size:Nat):Int)).toNat else min i.toNat its.toArray.size) = min i.toNat its.length:=by
      rw [if_neg (by omega),List.size_toArray]
    simp only [hk]
    apply Array.toList_inj.mp
    simp
    by_cases hle:i.toNat <= its.length
    · have h1:(its.drop i.toNat).take (its.length - i.toNat) = its.drop i.toNat:=List.take_of_length_le (by rw [List.length_drop];omega)
      rw [Nat.min_eq_left hle,h1]
    · have h1:its.length <= i.toNat:=by omega
      rw [Nat.min_eq_right h1,List.take_of_length_le h1,List.drop_of_length_le h1]
      simp
  · simp only [List.length_append,List.length_take,List.length_cons,List.length_drop]
    omega
theorem vO {xs:List V} {its:List Value} (r:Vals xs its):∀ js:List Nat,Vals (js.filterMap (xs[·]?)) (js.filterMap (its[·]?))
  | []=>.nil
  | j :: js=>by
    have ih:=vO r js
    have hl:=r.length
    cases h:xs[j]? with
    | none=>
      have h':its[j]? = none:=by
        rw [List.getElem?_eq_none_iff] at h ⊢;omega
      rw [List.filterMap_cons_none h,List.filterMap_cons_none h']
      exact ih
    | some x=>
      obtain ⟨u,e,ru⟩:=r.get h
      rw [List.filterMap_cons_some h,List.filterMap_cons_some e]
      exact .cons ru ih
variable {e st:Expr} {te:TE} {tk:TO} {pos p2:Pos}
theorem QG (he:PE X e te) (hk:PO X (some st) tk):PE X (.Subscript e (.Slice none none (some st) p2) pos) (fun σ H Q=>te σ H fun x H1=>tk σ H1 fun k H2=>∃ a xs,x = .ref a /\ k ≠ some 0 /\ SqL X.K H2 a xs /\
    ∀ ys p,(∀ y ∈ ys,y ∈ xs) -> ys.length <= xs.length -> H2 p = none -> Q (.ref p) (upd H2 p (.lst ys))):=by
  intro pins s σ H Q I h
  refine Subscript_ (thn (he pins s σ H _ I h) fun v s1 ⟨x,H1,I1,r1,q1⟩=>?_)
  refine wpAny_Slice ?_
  rw [evalPart_none]
  refine wpAny_pure (wpAny_pure ?_)
  refine thn (hk pins s1 σ H1 _ I1 q1) fun vk s3 ⟨k,H3,I3,pk,q3⟩=>?_
  obtain ⟨a,xs,rfl,k0,hx,q⟩:=q3
  cases r1
  have I4:Inv X pins σ H3 { s3 with heap:=s3.heap.push { cls:=.type "slice",data:=.fields #[.none,.none,vk] } }:=I3.kept (t':=s3.toks) fun b ob q=>Heap.get?_push_of_some _ q
  obtain ⟨its,r,ht,hz⟩:=I4.list hx
  have hlen:=r.length
  show wpAny (model X.prog X.w) X.A (subscriptTail e (.Slice none none (some st) p2) (.ref a) (.ref s3.heap.objs.size)) (EP X pins σ Q) X.xe { s3 with heap:=s3.heap.push { cls:=.type "slice",data:=.fields #[.none,.none,vk] } }
  refine tail_any (ops:=[.ref a,.ref s3.heap.objs.size]) (T:= "list") ht.isList.typeIs slot_list_getitem.lookup ?_ (by with_unfolding_all rfl)
  refine wpAny_getItem_list_slice (lo:=none) (hi:=none) (st:=k) ht.isList (Heap.IsSliceOf.new ..) .none .none pk k0 ?_ (by rw [List.size_toArray] <;> omega)
  have hsz:=slicePick_size_le its.toArray none none k
  unfold slicePick at hsz ⊢
  generalize (sliceRange (sliceBounds none none k its.toArray.size).1 (sliceBounds none none k its.toArray.size).2.1 (sliceBounds none none k its.toArray.size).2.2) = js at hsz ⊢
  have e1:js.filterMap (its.toArray[·]?) = js.filterMap (its[·]?):=by simp
  rw [e1] at hsz ⊢
  have rv:=vO r js
  have hl2:=rv.length
  simp only [List.size_toArray] at hsz
  refine ⟨.ref _,_,I4.laid (t':=s3.toks) (o:=.lst (js.filterMap (xs[·]?))) (fun b ob q=>Heap.get?_push_of_some _ q) (Nat.le_refl _) ?_,rfl,q _ _ (fun y hy=>?_) (by omega) (I4.hok.fresh (Nat.le_refl _))⟩
  · exact ⟨by omega,_,0,rv,Heap.get?_push_size _ rfl⟩
  · obtain ⟨j,_,hj⟩:=List.mem_filterMap.mp hy
    exact List.mem_of_getElem? hj
end
theorem wL {K:PySem.W.Frag} {a:Addr} {xs:List V} {g:TG} {tf:TT} {te:TE} {σ0:St} {n:Nat} {R:List V -> Hp -> Prop} {H:Hp} (Pv:Nat -> List V -> Hp -> Prop) (h0:Pv 0 [] H)
    (h1:∀ i zs H,Pv i zs H -> SqL K H a xs)
    (hs:∀ i x zs H,xs[i]? = some x -> Pv i zs H -> g x σ0 H fun σ4 H4=>σ4.drop n = σ0.drop n /\ tf σ4 H4 fun b H5=>
      if b = true then te σ4 H5 fun v H6=>zs.length < sizeLine /\ Pv (i + 1) (zs ++ [v]) H6 else Pv (i + 1) zs H5)
    (hd:∀ zs H,Pv xs.length zs H -> zs.length <= sizeLine /\ R zs H) :
    ∃ W:Nat -> Nat -> List V -> Hp -> Prop,(∃ m,W 0 m [] H) /\ ∀ i m zs H2,W i m zs H2 ->
      ((Itl K a).stop i H2 /\ zs.length <= sizeLine /\ R zs H2) \/
      ((Itl K a).go i H2 /\ ∃ N:List V -> Hp -> Prop,(∀ zs H',N zs H' -> ∃ m',m' < m /\ W (i + 1) m' zs H') /\ ∀ x H3,(Itl K a).yld i H2 x H3 -> g x σ0 H3 fun σ4 H4=>σ4.drop n = σ0.drop n /\ tf σ4 H4 fun b H5=>
        if b = true then te σ4 H5 fun y H6=>zs.length < sizeLine /\ N (zs ++ [y]) H6 else N zs H5):=by
  refine ⟨fun i m zs H2=>m = xs.length - i /\ i <= xs.length /\ Pv i zs H2,⟨_,rfl,Nat.zero_le _,h0⟩,?_⟩
  rintro i m zs H2 ⟨rfl,hi,p⟩
  have q:=h1 i zs H2 p
  by_cases hlt:i < xs.length
  · refine .inr ⟨⟨xs,xs[i],q,by simp [hlt]⟩,Pv (i + 1),fun zs' H' p'=>⟨_,by omega,rfl,hlt,p'⟩,fun x H3 y=>?_⟩
    obtain ⟨e,y⟩:=y
    subst e
    exact hs i x zs _ (y xs q) p
  · have e:i = xs.length:=by omega
    subst e
    obtain ⟨z1,z2⟩:=hd zs H2 p
    exact .inl ⟨⟨xs,q,Nat.le_refl _⟩,z1,z2⟩
theorem xg {K:PySem.W.Frag} {a:Addr} {xs:List V} {g:TG} {tf:TT} {te:TE} {σ0:St} {n:Nat} {R:List V -> Hp -> Prop} {H:Hp} (Pv:Nat -> List V -> Hp -> Prop) (h0:Pv 0 [] H)
    (h1:∀ i zs H,Pv i zs H -> SqT K H a xs)
    (hs:∀ i x zs H,xs[i]? = some x -> Pv i zs H -> g x σ0 H fun σ4 H4=>σ4.drop n = σ0.drop n /\ tf σ4 H4 fun b H5=>
      if b = true then te σ4 H5 fun v H6=>zs.length < sizeLine /\ Pv (i + 1) (zs ++ [v]) H6 else Pv (i + 1) zs H5)
    (hd:∀ zs H,Pv xs.length zs H -> zs.length <= sizeLine /\ R zs H) :
    ∃ W:Nat -> Nat -> List V -> Hp -> Prop,(∃ m,W 0 m [] H) /\ ∀ i m zs H2,W i m zs H2 ->
      ((Itt K a).stop i H2 /\ zs.length <= sizeLine /\ R zs H2) \/
      ((Itt K a).go i H2 /\ ∃ N:List V -> Hp -> Prop,(∀ zs H',N zs H' -> ∃ m',m' < m /\ W (i + 1) m' zs H') /\ ∀ x H3,(Itt K a).yld i H2 x H3 -> g x σ0 H3 fun σ4 H4=>σ4.drop n = σ0.drop n /\ tf σ4 H4 fun b H5=>
        if b = true then te σ4 H5 fun y H6=>zs.length < sizeLine /\ N (zs ++ [y]) H6 else N zs H5):=by
  refine ⟨fun i m zs H2=>m = xs.length - i /\ i <= xs.length /\ Pv i zs H2,⟨_,rfl,Nat.zero_le _,h0⟩,?_⟩
  rintro i m zs H2 ⟨rfl,hi,p⟩
  have q:=h1 i zs H2 p
  by_cases hlt:i < xs.length
  · refine .inr ⟨⟨xs,xs[i],q,by simp [hlt]⟩,Pv (i + 1),fun zs' H' p'=>⟨_,by omega,rfl,hlt,p'⟩,fun x H3 y=>?_⟩
    obtain ⟨e,y⟩:=y
    subst e
    exact hs i x zs _ (y xs q) p
  · have e:i = xs.length:=by omega
    subst e
    obtain ⟨z1,z2⟩:=hd zs H2 p
    exact .inl ⟨⟨xs,q,Nat.le_refl _⟩,z1,z2⟩
inductive DV (K:PySem.W.Frag) (F:Hp) (n:Nat):V -> Prop
  | non:DV K F n .non
  | bl (b:Bool):DV K F n (.bl b)
  | int (i:Int) (h:i.natAbs <= 10000000000 + n):DV K F n (.int i)
  | str (x:Str) (h:x.length <= n):DV K F n (.str x)
  | lst (a:Addr) (xs:List V) (h:SqL K F a xs) (hl:xs.length <= n) (all:∀ x ∈ xs,DV K F n x):DV K F n (.ref a)
  | tup (a:Addr) (xs:List V) (h:SqT K F a xs) (hl:xs.length <= n) (all:∀ x ∈ xs,DV K F n x):DV K F n (.ref a)
theorem DV.up {K:PySem.W.Frag} {F F':Hp} {n m:Nat} {v:V} (h:DV K F n v) (s:Same F F') (hm:n <= m):DV K F' m v:=by
  induction h with
  | non=>exact .non
  | bl b=>exact .bl b
  | int i h=>exact .int i (by omega)
  | str x h=>exact .str x (by omega)
  | lst a xs h hl all ih=>exact .lst a xs (s.seq h) (by omega) ih
  | tup a xs h hl all ih=>exact .tup a xs (s.sqT h) (by omega) ih
def WX (ex:List Addr) (H:Hp):Hp:=fun c=>if c ∈ ex then none else H c
theorem WX.le {ex:List Addr} {H:Hp}:Same (WX ex H) H:=fun c o e=>by
  unfold WX at e
  split at e
  · cases e
  · exact e
theorem WX.new {ex:List Addr} {H:Hp} {p:Addr} {o:HO} (h:H p = none):Same (WX ex H) (WX ex (upd H p o)):=fun c u e=>by
  unfold WX at e ⊢
  split at e
  · cases e
  · rename_i hc
    rw [if_neg hc,zv (zr e h)]
    exact e
theorem WX.same {ex:List Addr} {H H':Hp} (h:Same H H'):Same (WX ex H) (WX ex H'):=fun c u e=>by
  unfold WX at e ⊢
  split at e
  · cases e
  · rename_i hc
    rw [if_neg hc]
    exact h c u e
theorem WX.cons {ex:List Addr} {H:Hp} {m:Addr}:Same (WX (m :: ex) H) (WX ex H):=fun c u e=>by
  unfold WX at e ⊢
  split at e
  · cases e
  · rename_i hc
    rw [if_neg (fun z=>hc (List.mem_cons_of_mem _ z))]
    exact e
theorem WX.fresh {ex:List Addr} {H:Hp} {m:Addr} (h:H m = none) (o:HO):Same (WX ex H) (WX (m :: ex) (upd H m o)):=fun c u e=>by
  unfold WX at e ⊢
  split at e
  · cases e
  · rename_i hc
    have hm:c ≠ m:=zr e h
    rw [if_neg (fun z=>(List.mem_cons.mp z).elim hm hc),zv hm]
    exact e
theorem WX.put {ex:List Addr} {H:Hp} {m:Addr} {o:HO} (h:m ∈ ex):Same (WX ex H) (WX ex (upd H m o)):=fun c u e=>by
  unfold WX at e ⊢
  split at e
  · cases e
  · rename_i hc
    rw [if_neg hc,zv (show c ≠ m from fun z=>hc (by rw [z];exact h))]
    exact e
theorem WX.at {ex:List Addr} {H:Hp} {c:Addr} {o:HO} (h:c ∉ ex) (e:H c = some o):WX ex H c = some o:=by
  unfold WX;rw [if_neg h];exact e
theorem Zn {i:Int} (h:i.natAbs < 1000000000000):(Str.ofString (toString i)).length <= 13:=PyData.shown_int_le h
def yB:Expr -> Bool
  | .Starred _ _=>false
  | _=>true
theorem zp {e:Expr} {es:List Expr} {env:Env} (h:yB e = true):starEach (e :: es) env = (false,eval e env) :: starEach es env:=by
  cases e <;> first | rfl | cases h
theorem pa5 {X:Cx} {e0 e1 e2 e3 e4:Expr} {t0 t1 t2 t3 t4:TE} (h0:PE X e0 t0) (h1:PE X e1 t1) (h2:PE X e2 t2) (h3:PE X e3 t3) (h4:PE X e4 t4) (h:([e0,e1,e2,e3,e4]).all yB = true:=by rfl):PA X [e0,e1,e2,e3,e4] (zL t0 (zL t1 (zL t2 (zL t3 (zL t4 wz))))):=by
  have hz:=List.all_eq_true.mp h
  exact (za h0 (za h1 (za h2 (za h3 (za h4 zb (zp (hz _ (by simp)))) (zp (hz _ (by simp)))) (zp (hz _ (by simp)))) (zp (hz _ (by simp)))) (zp (hz _ (by simp))))
theorem WN {X:Cx} {e0 e1 e2 e3 e4 e5 e6 e7 e8 e9 e10:Expr} {t0 t1 t2 t3 t4 t5 t6 t7 t8 t9 t10:TE} (h0:PE X e0 t0) (h1:PE X e1 t1) (h2:PE X e2 t2) (h3:PE X e3 t3) (h4:PE X e4 t4) (h5:PE X e5 t5) (h6:PE X e6 t6) (h7:PE X e7 t7) (h8:PE X e8 t8) (h9:PE X e9 t9) (h10:PE X e10 t10) (h:([e0,e1,e2,e3,e4,e5,e6,e7,e8,e9,e10]).all yB = true:=by rfl):PA X [e0,e1,e2,e3,e4,e5,e6,e7,e8,e9,e10] (zL t0 (zL t1 (zL t2 (zL t3 (zL t4 (zL t5 (zL t6 (zL t7 (zL t8 (zL t9 (zL t10 wz))))))))))):=by
  have hz:=List.all_eq_true.mp h
  exact (za h0 (za h1 (za h2 (za h3 (za h4 (za h5 (za h6 (za h7 (za h8 (za h9 (za h10 zb (zp (hz _ (by simp)))) (zp (hz _ (by simp)))) (zp (hz _ (by simp)))) (zp (hz _ (by simp)))) (zp (hz _ (by simp)))) (zp (hz _ (by simp)))) (zp (hz _ (by simp)))) (zp (hz _ (by simp)))) (zp (hz _ (by simp)))) (zp (hz _ (by simp)))) (zp (hz _ (by simp))))
theorem WM {X:Cx} {e0 e1 e2 e3 e4 e5 e6 e7 e8 e9 e10 e11 e12 e13 e14 e15 e16 e17:Expr} {t0 t1 t2 t3 t4 t5 t6 t7 t8 t9 t10 t11 t12 t13 t14 t15 t16 t17:TE} (h0:PE X e0 t0) (h1:PE X e1 t1) (h2:PE X e2 t2) (h3:PE X e3 t3) (h4:PE X e4 t4) (h5:PE X e5 t5) (h6:PE X e6 t6) (h7:PE X e7 t7) (h8:PE X e8 t8) (h9:PE X e9 t9) (h10:PE X e10 t10) (h11:PE X e11 t11) (h12:PE X e12 t12) (h13:PE X e13 t13) (h14:PE X e14 t14) (h15:PE X e15 t15) (h16:PE X e16 t16) (h17:PE X e17 t17) (h:([e0,e1,e2,e3,e4,e5,e6,e7,e8,e9,e10,e11,e12,e13,e14,e15,e16,e17]).all yB = true:=by rfl):PA X [e0,e1,e2,e3,e4,e5,e6,e7,e8,e9,e10,e11,e12,e13,e14,e15,e16,e17] (zL t0 (zL t1 (zL t2 (zL t3 (zL t4 (zL t5 (zL t6 (zL t7 (zL t8 (zL t9 (zL t10 (zL t11 (zL t12 (zL t13 (zL t14 (zL t15 (zL t16 (zL t17 wz)))))))))))))))))):=by
  have hz:=List.all_eq_true.mp h
  exact (za h0 (za h1 (za h2 (za h3 (za h4 (za h5 (za h6 (za h7 (za h8 (za h9 (za h10 (za h11 (za h12 (za h13 (za h14 (za h15 (za h16 (za h17 zb (zp (hz _ (by simp)))) (zp (hz _ (by simp)))) (zp (hz _ (by simp)))) (zp (hz _ (by simp)))) (zp (hz _ (by simp)))) (zp (hz _ (by simp)))) (zp (hz _ (by simp)))) (zp (hz _ (by simp)))) (zp (hz _ (by simp)))) (zp (hz _ (by simp)))) (zp (hz _ (by simp)))) (zp (hz _ (by simp)))) (zp (hz _ (by simp)))) (zp (hz _ (by simp)))) (zp (hz _ (by simp)))) (zp (hz _ (by simp)))) (zp (hz _ (by simp)))) (zp (hz _ (by simp))))
section
variable {X:Cx} {elt tg iter:Expr} {ifs:List Expr} {scope:Scope} {pos:Pos} {wi:TI} {g:TG} {tf:TT} {te:TE}
theorem Wg {y:Str} {py spos:Pos} {g2:TG} (own fr:List Str) (js:List Nat) (hc:X.calm = true) (hk:scope.kind = .function) (hb:vF scope.names X.env.scope.names X.N fr js = true) (hi:PI X tg iter wi)
    (hg:∀ C s H ex,PG (zI X (own ++ fr) scope C s H ex) tg g) (hf:∀ C s H ex,PF (zI X (own ++ fr) scope C s H ex) ifs tf) (he:∀ C s H ex,PE (zI X (own ++ fr) scope C s H ex) elt te)
    (hg2:PG X (.Name y py) g2) (hsw:swapsWith (.ListComp elt [⟨tg,iter,ifs,0⟩] scope pos) (some (.Name y py)) spos.line X.env = pure true:=by rfl)
    (hs:∀ x,foldedSetIterable iter X.env x = pure x:=by intro _;rfl):PS X (.Assign [.Name y py] (.ListComp elt [⟨tg,iter,ifs,0⟩] scope pos) spos) (y9 (tLC wi own.length js g tf te) g2):=by
  intro pins s σ H Dn I h
  have B:=vE hb
  have hasF:∀ y ∈ scope.names,y.2 = NameKind.free -> ∃ c,X.env.cells.lookup y.1 = some c:=fun y hy e=>I.ok.has y.1 (B.free y hy e)
  rw [exec_Assign_Name_used _ _ _ _ hsw]
  refine wpAny_bind (wpAny_standAt (wpAny_bind ?_))
  show wpAny _ X.A (do let _ <- comprehension (.ListComp elt [⟨tg,iter,ifs,0⟩] scope pos) scope X.env _ (newList []) false (eval iter X.env) (some (assign (.Name y py) X.env))) _ _ s
  refine wpAny_bind (wpAny_mono (wpAny_comprehension_free (use:=some (assign (.Name y py) X.env)) (Q:=fun _ s'=>∃ σ' H',Inv X pins σ' H' s' /\ Dn.nx σ' H') rfl hs (wP hasF) hk (fun y hy e=>B.loc y hy e) (thn (hi pins s σ H _ I h) fun v s1 h1=>thn h1 fun itv s2 h2=>?_)) (fun _ s' hq=>wpAny_pure (wpAny_pure hq)) fun _ _ e=>e)
  obtain ⟨it,fp,tn,J,H2,e,I2,T,st2,f2,W,⟨m0,w0⟩,turn⟩:=h2
  subst e
  have fl:∀ b ∈ fp,b < s2.heap.objs.size:=fun b hb=>let ⟨o,e,_⟩:=T.obj _ _ st2 b hb;Heap.lt_size e
  refine wpAny_newObj_type (wpAny_newFunctionEnv B.cell (by intro y hy;simp at hy) (fun h1 hns hsb=>?_) hk)
  dsimp only at hns hsb ⊢
  generalize e3:s2.heap.push { cls:=.type "list",dict:=none,data:=.seq ([]:List Value).toArray } = h3 at hns hsb ⊢
  have k3:∀ b o,s2.heap.get? b = some o -> h3.get? b = some o:=fun b o e=>by rw [<- e3];exact Heap.get?_push_of_some _ e
  have k4:∀ b o,h3.get? b = some o -> h1.get? b = some o:=fun b o e=>hsb.extBut b o (Nat.ne_of_lt (Heap.lt_size e)) (Heap.get?_push_of_some _ e)
  have I4:Inv (zI X (own ++ fr) scope h3.objs.size { s2 with heap:=h3 } H2 (s2.heap.objs.size :: fp)) [] (upS own.length js σ) H2 { s2 with heap:=h1,toks:=s2.toks + ([]:List (Str × Value)).length }:=
    wk own fr js I2 B hk f2 fl rfl e3.symm rfl hns k4
  have I3:Inv X pins σ H2 { s2 with heap:=h3 }:=I2.kept (t':=s2.toks) k3
  have hz:h3.objs.size = s2.heap.objs.size + 1:=by rw [<- e3,Heap.size_push]
  have hDl:s2.heap.objs.size ≠ h3.objs.size:=by rw [hz];exact Nat.ne_of_lt (Nat.lt_succ_self _)
  have hacc:h1.get? s2.heap.objs.size = some { cls:=.type "list",data:=.seq ([]:List Value).toArray }:=k4 _ _ (by rw [<- e3];exact Heap.get?_push_size _ rfl)
  have fpC:=(I3.fpOk (b:=h3.objs.size) (Nat.le_refl _) (I3.hok.fresh (Nat.le_refl _))).2
  generalize eD:s2.heap.objs.size = D at *
  generalize eC:h3.objs.size = C at *
  have fD:∀ b ∈ fp,D ≠ b:=fun b hb=>Nat.ne_of_gt (fl b hb)
  have hx:∀ x c,(qF X.env.cells scope.names []).lookup x = some c -> c ≠ D:=fun x c e=>by
    obtain ⟨v,q⟩:=I2.cell x c (zR e hasF)
    rw [<- eD];exact Nat.ne_of_lt q.lt
  have hx2:∀ b ∈ fp,∀ x c,(qF X.env.cells scope.names []).lookup x = some c -> c ≠ b:=fun b hb x c e=>(f2 b hb).2.2.2.2.1 x c (zR e hasF)
  have nfs:∀ b ∈ D :: fp,b ∉ frs X.stack:=I4.ok.exfs
  have fpB:∀ {pins':List (Addr × Obj)} {H':Hp} {b:Addr},b ∈ fp -> H' b = none -> (∀ p ∈ pins',p.1 ≠ b) -> jI (zI X (own ++ fr) scope C { s2 with heap:=h3 } H2 (D :: fp)) pins' H' b:=fun {pins' H' b} hb hn hp=>
    ⟨hn,(I4.ok.exf b (List.mem_cons_of_mem _ hb)).1,nfs b (List.mem_cons_of_mem _ hb),.inl (List.mem_cons_of_mem _ hb),fun x c e=>hx2 b hb x c e,fun p h=>hp p (by simpa using h)⟩
  have fpD:∀ {pins':List (Addr × Obj)} {H':Hp},H' D = none -> (∀ p ∈ pins',p.1 ≠ D) -> jI (zI X (own ++ fr) scope C { s2 with heap:=h3 } H2 (D :: fp)) pins' H' D:=fun {pins' H'} hn hp=>
    ⟨hn,hDl,nfs D List.mem_cons_self,.inl List.mem_cons_self,fun x c e=>hx x c e,fun p h=>hp p (by simpa using h)⟩
  have loop:∀ s4:Shared,s4 = { s2 with heap:=h1,toks:=s2.toks + ([]:List (Str × Value)).length } ->
      codeAny (model X.prog X.w) X.A (.compLoop (.ListComp elt [⟨tg,iter,ifs,0⟩] scope pos) 0 (.ref it) (.ref D) (compEnvC scope (qF X.env.cells scope.names []) C X.env))
        (compPost (model X.prog X.w) X.A X.xe (some (assign (.Name y py) X.env)) (fun _ s'=>∃ σ' H',Inv X pins σ' H' s' /\ Dn.nx σ' H') (.ref D) C) s4:=by
    intro s4 e4
    refine yT (fun n s'=>∃ i ys its H',∃ z:Nat,Inv (zI X (own ++ fr) scope C { s2 with heap:=h3 } H2 (D :: fp)) [] (upS own.length js σ) H' s' /\ tn i s'.heap /\ (∀ b ∈ fp,H' b = none) /\ H' D = none /\
      s'.heap.get? D = some { cls:=.type "list",data:=.seq (its:List Value).toArray z } /\ Vals ys its /\ W i n ys H') ?_ m0 ?_
    · rintro n s5 ⟨i,ys,its,H5,z5,I5,st5,fr5,hD5,ho5,rv5,w5⟩
      have I5':=I5.pinned (fp:=[D]) (fun b hb=>by rw [List.mem_singleton.mp hb];exact fpD hD5 (fun p hp=>absurd hp (by simp))) (fun b hb=>by
        rw [List.mem_singleton.mp hb];exact ⟨_,ho5,fun v q=>nomatch q⟩)
      have pD:∀ p ∈ [] ++ zO [D] s5.heap,p.1 = D:=fun p hp=>by
        rw [List.nil_append] at hp
        exact List.mem_singleton.mp (jZ hp).1
      have mD:(D,({ cls:=.type "list",data:=.seq its.toArray z5 }:Obj)) ∈ [] ++ zO [D] s5.heap:=by
        rw [List.nil_append];exact qq (List.mem_singleton.mpr rfl) ho5
      have fp5:∀ {H':Hp},(∀ b ∈ fp,H' b = none) -> ∀ b ∈ fp,jI (zI X (own ++ fr) scope C { s2 with heap:=h3 } H2 (D :: fp)) ([] ++ zO [D] s5.heap) H' b:=fun hn b hb=>fpB hb (hn b hb) fun p hp=>by
        rw [pD p hp];exact fD b hb
      rcases turn i n ys H5 w5 with ⟨stop,hlen,q⟩ | ⟨go,N,hN,step⟩
      · refine thn (T.done (zI X (own ++ fr) scope C { s2 with heap:=h3 } H2 (D :: fp)) rfl rfl rfl hc i _ s5 _ H5 _ I5' (fp5 fr5) st5 stop) fun r s6 ⟨hr,I6⟩=>?_
        subst hr
        obtain ⟨m6,hn6,_⟩:=I6.loc
        obtain ⟨o6,nD6,_⟩:=I6.pin (D,_) (List.mem_append_right _ mD)
        have k7:∀ b o,b ≠ C -> s6.heap.get? b = some o -> s6.heap.get? b = some o:=fun b o _ e=>e
        have J0:Inv X pins σ (upd H5 D (.lst ys)) s6:=by
          refine I3.call' (s':=s6) (ch:=D :: fp) I6.os (va (yX I6.base (Nat.le_of_eq eC) k7) List.mem_cons_self (I2.hok.fresh ?_)) (xC (wN I6.hok I6.free k7) nD6 ⟨hlen,its,z5,rv5,k7 D _ hDl o6⟩) I6.bare fun b hb=>?_
          · rw [<- eD];exact Nat.le_refl _
          · rcases List.mem_cons.mp hb with y | hb
            · subst y
              refine ⟨.inr (by rw [<- eD];exact I2.sz),by rw [<- eD];exact Nat.ne_of_gt I2.lt,fun x c e=>?_,fun p hp=>?_⟩
              · obtain ⟨v,q⟩:=I2.cell x c e
                rw [<- eD];exact Nat.ne_of_lt q.lt
              · rw [<- eD];exact Nat.ne_of_lt (Heap.lt_size (I2.pin p hp).1)
            · obtain ⟨_,g1,_,g3,g4,g5⟩:=f2 b hb
              exact ⟨g3,g1,g4,g5⟩
        obtain ⟨oC,eoC,dC⟩:∃ o,s6.heap.get? C = some o /\ ∀ v,o.data ≠ .cell v:=by
          obtain ⟨o,es,ep,ho,hd,_⟩:=hn6
          exact ⟨o,ho,fun v z=>by rw [hd] at z;cases z⟩
        have hC0:(upd H5 D (.lst ys)) C = none:=by
          rw [zv (Ne.symm hDl)];exact I6.free
        have J1:=J0.pinned (fp:=[C]) (fun b hb=>by rw [List.mem_singleton.mp hb];exact ⟨hC0,fpC⟩) (fun b hb=>by rw [List.mem_singleton.mp hb];exact ⟨oC,eoC,dC⟩)
        have mC:(C,oC) ∈ pins ++ zO [C] s6.heap:=List.mem_append_right _ (qq (List.mem_singleton.mpr rfl) eoC)
        refine thn (hg2 _ s6 σ _ (.ref D) (.ref D) _ J1 rfl (q D nD6)) fun _ s8 ⟨σ8,H8,I8,q8⟩=>?_
        obtain ⟨e8,n8,_⟩:=I8.pin (C,oC) (List.mem_append_right _ mC)
        refine ⟨m6,?_,fun h9 hs9=>⟨σ8,H8,?_,q8⟩⟩
        · obtain ⟨o,es,ep,ho,r⟩:=hn6
          have ho':s6.heap.get? C = some o:=ho
          rw [eoC] at ho';cases ho'
          exact ⟨oC,es,ep,e8,r⟩
        · obtain ⟨g1,_,g3,g4,g5⟩:=fpC
          exact (I8.unpinned).turned (t':=s8.toks) (it:=C) (fun b o hb e=>hs9.extBut b o hb e) n8 g1 g3 g4 g5
      · refine thn (T.item (zI X (own ++ fr) scope C { s2 with heap:=h3 } H2 (D :: fp)) rfl rfl rfl hc i _ s5 _ H5 _ I5' (fp5 fr5) st5 go) fun r s6 ⟨u,hr,h6⟩=>?_
        subst hr
        refine thn h6 fun _ s7 ⟨x,H7,I7,r7,y7,st7,fr7⟩=>?_
        have I7':=I7.pinned (fp5 fr7) (T.obj _ _ st7)
        refine thn (hg _ _ _ _ _ s7 _ H7 x u _ I7' r7 (step x H7 y7)) fun _ s8 ⟨σ8,H8,I8,hd8,q8⟩=>?_
        refine thn (hf _ _ _ _ _ s8 σ8 H8 _ I8 q8) fun ok s9 ⟨H9,I9,q9⟩=>?_
        have weak:∀ {H':Hp} {s':Shared},Inv (zI X (own ++ fr) scope C { s2 with heap:=h3 } H2 (D :: fp)) (([] ++ zO [D] s5.heap) ++ zO fp s7.heap) σ8 H' s' ->
            Inv (zI X (own ++ fr) scope C { s2 with heap:=h3 } H2 (D :: fp)) [] (upS own.length js σ) H' s':=fun {H' s'} J=>by
          refine (J.unpinned).unpinned.weak (I5.len.trans J.len.symm) fun k v e=>?_
          obtain ⟨hn,e1,_⟩:=jM e
          rw [<- hd8,List.getElem?_drop] at e1
          rw [<- e1]
          congr 1
          omega
        have mF:∀ b ∈ fp,∀ o,s7.heap.get? b = some o -> (b,o) ∈ ([] ++ zO [D] s5.heap) ++ zO fp s7.heap:=fun b hb o e=>List.mem_append_right _ (qq hb e)
        have mD':=List.mem_append_left (zO fp s7.heap) mD
        have frB:∀ {H':Hp} {s':Shared},Inv (zI X (own ++ fr) scope C { s2 with heap:=h3 } H2 (D :: fp)) (([] ++ zO [D] s5.heap) ++ zO fp s7.heap) σ8 H' s' -> ∀ b ∈ fp,H' b = none:=fun {H' s'} J b hb=>by
          obtain ⟨o,e,_⟩:=T.obj _ _ st7 b hb
          exact (J.pin (b,o) (List.mem_append_right _ (mF b hb o e))).2.1
        cases ok with
        | false=>
          have q9':N ys H9:=by simpa using q9
          obtain ⟨m',hm,w'⟩:=hN _ _ q9'
          obtain ⟨o9,nD9,_⟩:=I9.pin (D,_) (List.mem_append_right _ mD')
          exact ⟨m',hm,i + 1,ys,its,H9,z5,weak I9,T.keep _ _ _ st7 fun b hb o e=>(I9.pin (b,o) (List.mem_append_right _ (mF b hb o e))).1,frB I9,nD9,o9,rv5,w'⟩
        | true=>
          have q9':te σ8 H9 fun y H6=>ys.length < sizeLine /\ N (ys ++ [y]) H6:=by simpa using q9
          refine thn (he _ _ _ _ _ s9 σ8 H9 _ I9 q9') fun yv s10 ⟨y,H10,I10,r10,hlt,w10⟩=>?_
          obtain ⟨m',hm,w'⟩:=hN _ _ w10
          obtain ⟨o10,nD10,_⟩:=I10.pin (D,_) (List.mem_append_right _ mD')
          refine wpAny_list_append_plain (l:=D) (items:=its.toArray) (hsz:=by rw [List.size_toArray,<- rv5.length];exact Nat.le_of_lt hlt) ⟨_,o10⟩ fun h11 hl11 hs11=>?_
          obtain ⟨z11,e11⟩:=hl11
          refine ⟨m',hm,i + 1,ys ++ [y],its ++ [yv],H10,z11,?_,T.keep _ _ _ st7 fun b hb o e=>hs11.extBut b o (Ne.symm (fD b hb)) (I10.pin (b,o) (List.mem_append_right _ (mF b hb o e))).1,frB I10,nD10,?_,rv5.append (.cons r10 .nil),w'⟩
          · exact (weak I10).turned (t':=s10.toks) (it:=D) (fun b o hb e=>hs11.extBut b o hb e) nD10 hDl (.inl List.mem_cons_self) (fun x c e=>hx x c e) fun p hp=>absurd (show p ∈ ([]:List (Addr × Obj)) from hp) (by simp)
          · rw [e11];simp
    · subst e4
      exact ⟨0,[],[],H2,0,I4,T.keep _ _ _ st2 fun b hb o e=>k4 b o (k3 b o e),fun b hb=>(f2 b hb).1,I2.hok.fresh (by rw [<- eD];exact Nat.le_refl _),hacc,.nil,w0⟩
  exact codeAny_compStart_list (loop _ rfl) (T.self X.A 0 _ _ _ (T.keep _ _ _ st2 fun b hb o e=>k4 b o (k3 b o e)) (loop _ rfl))
theorem Vx {x z y:Str} {px pz py spos tp:Pos} {kk:Nat} {g2:TG} (fr:List Str) (js:List Nat) (hc:X.calm = true) (hk:scope.kind = .function) (hb:xE scope.names X.env.scope.names X.N [x,z] fr js = true) (hi:PI X (.Tuple [.Name x px,.Name z pz] kk tp) iter wi)
    (hf:∀ C s H ex,PF (zI X ([x,z] ++ fr) scope C s H ex) ifs tf) (he:∀ C s H ex,PE (zI X ([x,z] ++ fr) scope C s H ex) elt te)
    (hg2:PG X (.Name y py) g2) (hsw:swapsWith (.ListComp elt [⟨.Tuple [.Name x px,.Name z pz] kk tp,iter,ifs,0⟩] scope pos) (some (.Name y py)) spos.line X.env = pure true:=by rfl)
    (hs:∀ x,foldedSetIterable iter X.env x = pure x:=by intro _;rfl):PS X (.Assign [.Name y py] (.ListComp elt [⟨.Tuple [.Name x px,.Name z pz] kk tp,iter,ifs,0⟩] scope pos) spos) (y9 (tLC wi 2 js (JV X.K 2 (xI (jK 0) (xI (jK 1) XW))) tf te) g2):=by
  obtain ⟨h1,h2,h3⟩:=j5 hb
  refine Wg [x,z] fr js hc hk h1 hi (fun C s H ex=>?_) hf he hg2 hsw hs
  exact jz (X:=zI X ([x,z] ++ fr) scope C s H ex) hc (zX (xf (h2 x (by simp)) h3 rfl) (zX (xf (h2 z (by simp)) h3 rfl) qX))
end
theorem Vals.mem {u:Value}:∀ {xs:List V} {us:List Value},Vals xs us -> u ∈ us -> ∃ x ∈ xs,RelV x u
  | _,_,.nil,h=>by cases h
  | x :: xs,v :: vs,.cons r t,h=>by
    rcases List.mem_cons.mp h with e | h
    · rw [e];exact ⟨x,List.mem_cons_self,r⟩
    · obtain ⟨y,hy,ry⟩:=Vals.mem t h
      exact ⟨y,List.mem_cons_of_mem _ hy,ry⟩
section
variable {X:Cx}
theorem VW {pins:List (Addr × Obj)} {σ:St} {H:Hp} {s:Shared} (I:Inv X pins σ H s) {A:Around} (hu:A.units < cLine) {a c:Addr} {xs ys:List V} (hx:SqT X.K H a xs) (hy:SqT X.K H c ys) (fx:xs.all jl = true) (fy:ys.all jl = true):∃ b,SeqAt.EqAt A s (.ref a) (.ref c) b:=by
  by_cases hac:a = c
  · subst hac
    exact ⟨true,SeqAt.EqAt.same _⟩
  · obtain ⟨its1,r1,p1,z1⟩:=I.tuple hx
    obtain ⟨its2,r2,p2,z2⟩:=I.tuple hy
    have l1:=r1.length
    have l2:=r2.length
    refine ⟨_,SeqAt.EqAt.of_refs hac (SeqAt.RcAt.tuples (e:=fun j=>eqV (xs.getD j .non) (ys.getD j .non)) p1 p2 hu (fun j h1 h2=>?_))⟩
    have h1':j < xs.length:=by rw [List.size_toArray] at h1;omega
    have h2':j < ys.length:=by rw [List.size_toArray] at h2;omega
    obtain ⟨w1,e1,q1⟩:=r1.get (i:=j) (x:=xs[j]) (by simp [h1'])
    obtain ⟨w2,e2,q2⟩:=r2.get (i:=j) (x:=ys[j]) (by simp [h2'])
    have g1:its1.toArray[j] = w1:=by simpa using (List.getElem?_eq_some_iff.mp e1).2
    have g2:its2.toArray[j] = w2:=by simpa using (List.getElem?_eq_some_iff.mp e2).2
    rw [g1,g2,show xs.getD j .non = xs[j] by simp [h1'],show ys.getD j .non = ys[j] by simp [h2']]
    exact Zp q1 q2 (List.all_eq_true.mp fx _ (List.getElem_mem h1')) (List.all_eq_true.mp fy _ (List.getElem_mem h2'))
inductive ww (K:PySem.W.Frag) (x:V) (y:V) (H:Hp) (Q:VK):Prop
  | mk (a p:Addr) (zs xs:List V) (_:x = .ref a) (_:y = .ref p) (_:SqT K H a zs) (_:zs.all jl = true) (_:SqL K H p xs) (_:(∀ v ∈ xs,∃ (c:Addr) (ws:List V),v = .ref c /\ SqT K H c ws /\ ws.all jl = true)) (_:∀ r:Bool,Q (.bl r) H):ww K x y H Q
open Classical in
theorem Xx (hu:X.A.units + 64 < cLine):OpR X (compareOp .In) (ww X.K):=by
  intro pins s σ H x y v u Q I rx ry h
  obtain ⟨a,p,zs,xs,rfl,rfl,ha,fa,hp,all,q⟩:=h
  cases rx
  cases ry
  obtain ⟨its,r,pl,hz⟩:=I.list hp
  have ex:∀ w ∈ its,∃ b,SeqAt.EqAt X.A.in1 s w (.ref a) b:=fun w hw=>by
    obtain ⟨x,hx,rxw⟩:=Vals.mem r hw
    obtain ⟨c,ws,rfl,hc,fc⟩:=all x hx
    cases rxw
    exact VW I (by show X.A.units + 1 < cLine;omega) hc ha fc fa
  refine SeqAt.in_listAt (fun w=>if h:∃ b,SeqAt.EqAt X.A.in1 s w (.ref a) b then h.choose else false) pl.isList (fun w hw=>?_) ⟨.bl _,H,I,rfl,q _⟩
  have hw':=ex w (by simpa using hw)
  simp only [hw',dif_pos]
  exact hw'.choose_spec
theorem wV:∀ {its:List Value} {n k:Nat},its.length = n -> (∀ j v,its[j]? = some v -> ∃ t,v = Value.int ((k + j:Nat):Int) t) -> Vals ((List.range' k n).map fun i:Nat=>V.int (i:Int)) its
  | [],0,k,_,_=>.nil
  | v :: its,n + 1,k,hl,h=>by
    rw [List.range'_succ,List.map_cons]
    obtain ⟨t,e⟩:=h 0 v rfl
    refine .cons ⟨t,by rw [e];rfl⟩ (wV (by simpa using hl) fun j w hw=>?_)
    obtain ⟨t',e'⟩:=h (j + 1) w (by simpa using hw)
    exact ⟨t',by rw [e',show k + (j + 1) = k + 1 + j by omega]⟩
theorem xq {a:Expr} {ta:TA} {p p2 pos pos2:Pos} (hc:X.calm = true) (hg:Gl X "list") (hm:X.mg "list" = none) (hg2:Gl X "range") (hm2:X.mg "range" = none) (hv:bootBuiltins "list" = some (.type "list")) (ha:PA X [a] ta) (hs:starEach [a] X.env = [(false,eval a X.env)]:=by rfl)
    (he:starEach [.Call (.Name "range" p2) [a] [] pos2] X.env = [(false,eval (.Call (.Name "range" p2) [a] [] pos2) X.env)]:=by rfl) :
    PE X (.Call (.Name "list" p) [.Call (.Name "range" p2) [a] [] pos2] [] pos) (fun σ H Q=>ta σ H fun vs H1=>∃ j:Int,vs = [.int j] /\ 0 <= j /\ j <= 1000000 /\ ∀ l,H1 l = none -> Q (.ref l) (upd H1 l (.lst ((List.range j.toNat).map fun i:Nat=>V.int (i:Int))))):=by
  intro pins s σ H Q I h
  refine wpAny_Call_Name_kw (jQ I hg hm hv ?_ (by decide) (by decide))
  refine PyProof.Rows.callWith_type1 ?_ he rfl
  rw [he]
  refine Calls.spliced_cons ?_
  refine Call_ (jQ I hg2 hm2 boot_range (PyProof.Rows.callWith_type1 (thn (ha pos2 pins s σ H _ I h) fun us s1 ⟨vs,H1,I1,r1,q1⟩=>?_) hs rfl))
  obtain ⟨j,e,j0,j1,q⟩:=q1
  subst e
  cases r1 with
  | cons r rr=>
    cases rr
    obtain ⟨t,rfl⟩:=r
    refine call_range_1 (Calls.spliced_nil ?_)
    have I2:Inv X pins σ H1 { s1 with heap:=s1.heap.push { cls:=.type "range",data:=.fields #[.int 0 s1.toks,.int j t,.int 1 (s1.toks + 1)] },toks:=s1.toks + 1 + 1 }:=I1.kept fun b o e=>Heap.get?_push_of_some _ e
    have e62:(2:Int) ^ 62 = 4611686018427387904:=by decide
    refine call_list_range (n:=j.toNat) (I.ok.hd hc) (IsRange.new ..) (small_one (by rw [e62];omega) (by rw [e62];omega) (by rw [e62];omega) (by rw [e62];omega)) (by rw [rangeSize_one];split <;> omega) (by omega) fun h' tk acc' c' keep get items=>?_
    refine ⟨.ref _,_,I2.laid (t':=tk) (o:=.lst ((List.range j.toNat).map fun i:Nat=>V.int (i:Int))) keep (Nat.le_refl _) ?_,rfl,q _ (I2.hok.fresh (Nat.le_refl _))⟩
    refine ⟨by rw [List.length_map,List.length_range,sizeLine_eq];omega,acc'.toList,c',?_,by rw [Array.toArray_toList];exact get⟩
    rw [List.range_eq_range']
    refine wV (by rw [Array.length_toList];exact items.1) fun i v hv=>?_
    obtain ⟨t',e'⟩:=items.2 i v (by simpa using hv)
    exact ⟨t',by rw [e'];congr 1;omega⟩
end
end L2
namespace L2
open PySem PySem.Spec PyProof.Rows
section
variable {prog:Program} {w:World} {A:Around} {E:Value -> Shared -> Prop} {s:Shared}
end
def Tups (H:Hp) (xs ys:List V) (Ts:List Addr):Prop:=∀ (j:Nat) (T:Addr),Ts[j]? = some T -> ∃ x y,xs[j]? = some x /\ ys[j]? = some y /\ H T = some (.tup [x,y])
theorem Tups.same {H H':Hp} {xs ys:List V} {Ts:List Addr} (h:Tups H xs ys Ts) (s:Same H H'):Tups H' xs ys Ts:=fun j T e=>let ⟨x,y,a,b,c⟩:=h j T e;⟨x,y,a,b,s _ _ c⟩
theorem Tups.snoc {H:Hp} {xs ys:List V} {Ts:List Addr} {T:Addr} {x y:V} (h:Tups H xs ys Ts) (hx:xs[Ts.length]? = some x) (hy:ys[Ts.length]? = some y) (hT:H T = some (.tup [x,y])):Tups H xs ys (Ts ++ [T]):=fun j U e=>by
  by_cases hj:j < Ts.length
  · rw [List.getElem?_append_left hj] at e
    exact h j U e
  · rw [List.getElem?_append_right (by omega)] at e
    have:j = Ts.length:=by
      have:=(List.getElem?_eq_some_iff.mp e).1
      simp at this;omega
    subst this
    simp at e
    subst e
    exact ⟨x,y,hx,hy,hT⟩
section
variable {X:Cx} {A:Around} {R:Result -> Shared -> Prop}
end
section
variable {X:Cx}
end
section
variable {X:Cx}
theorem zY {K:PySem.W.Frag} (h:X.K = K):IxR X (Xq K):=by rw [<- h];exact j3
theorem xY {K:PySem.W.Frag} (h:X.K = K):IxR X (Xp K):=by rw [<- h];exact qy
theorem zK {K:PySem.W.Frag} (h:X.K = K):CallR X (.builtin "len") (jj K):=by rw [<- h];exact zq
theorem qB {K:PySem.W.Frag} (h:X.K = K):CallR X (.builtin "isinstance") (xi K):=by rw [<- h];exact qi
theorem Zj {K:PySem.W.Frag} (h:X.K = K):OpR X (compareOp .In) (rIn K false):=by rw [<- h];exact QH
end
section
variable {X:Cx}
inductive yU (x:V) (y:V) (H:Hp) (Q:VK):Prop
  | mk (a b:_) (_:x = .bl a) (_:y = .bl b) (_:Q (.bl (decide (a = b))) H):yU x y H Q
theorem JA:OpR X (compareOp .Is) (yU):=by
  intro pins s σ H x y v u Q I rx ry h
  obtain ⟨a,b,rfl,rfl,q⟩:=h
  cases rx
  cases ry
  refine wpAny_is_plain (by cases a <;> cases b <;> rfl) (zQ I q ?_)
  cases a <;> cases b <;> rfl
inductive wv (x:V) (y:V) (H:Hp) (Q:VK):Prop
  | mk (a b:_) (_:x = .bl a) (_:y = .bl b) (_:Q (.bl (!decide (a = b))) H):wv x y H Q
theorem Xw:OpR X (compareOp .IsNot) (wv):=by
  intro pins s σ H x y v u Q I rx ry h
  obtain ⟨a,b,rfl,rfl,q⟩:=h
  cases rx
  cases ry
  refine wpAny_isNot_plain (by cases a <;> cases b <;> rfl) (zQ I q ?_)
  cases a <;> cases b <;> rfl
end
section
open AutoSeq1 (wpAny_loadPart')
end
section
variable {prog:Program} {w:World} {A:Around} {E:Value -> Shared -> Prop} {s:Shared}
theorem Draws.tuple {prog:Program} {w:World} {A:Around} (hh:A.handled = none) (it l:Addr) (hne:l ≠ it) (items:Array Value) :
    Draws prog w A it [it,l] items.size (fun i v=>items[i]? = some v) (fun i h=>h.IsTupleIter it l i /\ h.IsTuple l items) where
  live:=fun _ _ st=>let ⟨o,ho,_⟩:=st.1;⟨o,ho⟩
  frame:=fun _ _ _ st hk=>⟨ItrK.at (kd:=false) st.1 fun o e=>hk it (by simp) o e,SeqK.at (kd:=false) st.2 fun o e=>hk l (by simp) o e⟩
  item:=fun i s Q E hi st hQ=>by
    refine jC (kd:=false) st.1 st.2 (x:=items[i]) (by simp [hi]) fun h' hit' hs'=>?_
    exact hQ _ h' s.toks (by simp [hi]) ⟨hit',SeqK.at (kd:=false) st.2 fun o e=>hs'.extBut l o hne e⟩ hs'
  done:=fun s Q E st hE=>xz (kd:=false) hh st.1 st.2 (by simp) hE
end
section
variable {X:Cx}
end
end L2
namespace L2
open PySem PySem.Spec PyProof.Rows
section
variable {prog:Program} {w:World} {A:Around} {R:Result -> Shared -> Prop} {s:Shared}
end
def Sub:St -> St -> Prop
  | [],[]=>True
  | none :: r,_ :: r'=>Sub r r'
  | some v :: r,x :: r'=>x = some v /\ Sub r r'
  | _,_=>False
theorem Sub.len:∀ {a b:St},Sub a b -> a.length = b.length
  | [],[],_=>rfl
  | [],_ :: _,h=>h.elim
  | none :: _,[],h=>h.elim
  | some _ :: _,[],h=>h.elim
  | none :: r,_ :: r',h=>by rw [List.length_cons,List.length_cons,Sub.len (a:=r) (b:=r') h]
  | some _ :: r,_ :: r',h=>by rw [List.length_cons,List.length_cons,Sub.len (a:=r) (b:=r') h.2]
theorem Sub.get:∀ {a b:St} {i:Nat} {v:V},Sub a b -> a[i]? = some (some v) -> b[i]? = some (some v)
  | [],[],_,_,_,e=>e
  | [],_ :: _,_,_,h,_=>h.elim
  | none :: _,[],_,_,h,_=>h.elim
  | some _ :: _,[],_,_,h,_=>h.elim
  | none :: r,_ :: r',0,v,h,e=>by simp at e
  | none :: r,_ :: r',i + 1,v,h,e=>by
    rw [List.getElem?_cons_succ] at e ⊢
    exact Sub.get (a:=r) (b:=r') h e
  | some _ :: r,_ :: r',0,v,h,e=>by
    rw [List.getElem?_cons_zero] at e ⊢
    rw [h.1];exact e
  | some _ :: r,_ :: r',i + 1,v,h,e=>by
    rw [List.getElem?_cons_succ] at e ⊢
    exact Sub.get (a:=r) (b:=r') h.2 e
section
variable {X:Cx} {elt tg1 iter1:Expr} {ifs1:List Expr} {tg iter:Expr} {ifs:List Expr} {scope:Scope} {pos:Pos} {wi wi1:TI} {g g1:TG} {tf tf1:TT} {te:TE}
end
section
variable {X:Cx} {elt tg1 iter1:Expr} {ifs1:List Expr} {tg iter:Expr} {ifs:List Expr} {scope:Scope} {pos:Pos} {wi wi1:TI} {g g1:TG} {tf tf1:TT} {te:TE}
end
section
variable {X:Cx}
inductive xQ (K:PySem.W.Frag) (xs:List V) (H:Hp) (Q:VK):Prop
  | mk (p:Addr) (bs:List Bool) (_:xs = [.ref p]) (_:SqL K H p (bs.map V.bl)) (_:Q (.bl (bs.any id)) H):xQ K xs H Q
theorem QT (hc:X.calm = true):CallR X (.builtin "any") (xQ X.K):=by
  intro pins s σ H xs us Q I r h
  obtain ⟨p,bs,rfl,hq,q⟩:=h
  obtain ⟨u,rfl,ru⟩:=ja r
  cases ru
  obtain ⟨its,rv,pl,hz⟩:=I.list hq
  have hl:=pl.isList
  have hpl:p ≠ s.heap.objs.size:=by
    obtain ⟨o,e,_⟩:=hl
    exact Nat.ne_of_lt (Heap.lt_size e)
  refine call_any_walk (wpAny_pyIter_list hl ?_)
  refine ⟨s.heap.objs.size,_,_,_,_,_,fun i=>bs.getD i false,rfl,Walks.list (prog:=X.prog) (w:=X.w) (A:=X.A.in1) (I.ok.hd hc) _ p hpl its.toArray,⟨⟨_,Heap.get?_push_size _ rfl,rfl,rfl⟩,hl.push _⟩,?_,fun h' tk hk=>?_⟩
  · intro i v s' Q' E' hP hQ
    have hP:its.toArray[i]? = some v:=hP
    have e1:its[i]? = some v:=by simpa using hP
    have hi:i < bs.length:=by
      have h1:=(List.getElem?_eq_some_iff.mp e1).1
      have h2:=rv.length
      rw [List.length_map] at h2
      omega
    have e2:(bs.map V.bl)[i]? = some (.bl bs[i]):=by simp [hi]
    obtain ⟨u',eu,ru⟩:=rv.get e2
    rw [e1] at eu
    cases eu
    cases ru
    have e3:bs.getD i false = bs[i]:=by simp [hi]
    have hQ2:Q' (bs.getD i false) s':=hQ
    rw [e3] at hQ2
    exact wpAny_truthy_bool hQ2
  · have k:∀ b o,s.heap.get? b = some o -> h'.get? b = some o:=fun b o e=>hk b o (by simp;exact Nat.ne_of_lt (Heap.lt_size e)) (Heap.get?_push_of_some _ e)
    have ea:(List.range its.toArray.size).any (fun i=>bs.getD i false) = bs.any id:=by
      have hlen:its.toArray.size = bs.length:=by
        have:=rv.length
        rw [List.length_map] at this
        simp only [List.size_toArray];omega
      rw [hlen,Bool.eq_iff_iff,List.any_eq_true,List.any_eq_true]
      constructor
      · rintro ⟨i,hi,e⟩
        have hi:=List.mem_range.mp hi
        exact ⟨bs[i],List.getElem_mem hi,by simpa [hi] using e⟩
      · rintro ⟨b,hb,e⟩
        obtain ⟨i,hi,rfl⟩:=List.mem_iff_getElem.mp hb
        exact ⟨i,List.mem_range.mpr hi,by simpa [hi] using e⟩
    exact ⟨.bl (bs.any id),H,I.kept k,by rw [ea];rfl,q⟩
theorem J7:bootBuiltins "any" = some (.builtin "any"):=by decide +kernel
end
section
variable {X:Cx} {elt iter1:Expr} {ifs1:List Expr} {iter:Expr} {ifs:List Expr} {scope:Scope} {pos:Pos} {wi wi1:TI} {tf tf1:TT} {te:TE} {x y z:Str} {px py pz tp tp2:Pos} {kk kk2:Nat}
end
section
variable {X:Cx}
end
section
variable {X:Cx}
end
section
variable {X:Cx} {elt tg1 iter1:Expr} {ifs1:List Expr} {tg iter:Expr} {ifs:List Expr} {scope:Scope} {pos:Pos} {wi wi1:TI} {g g1:TG} {tf tf1:TT} {te:TE} {x z:Str} {px pz tp tp2:Pos} {kk kk2:Nat}
end
section
variable {κ:Type} [DecidableEq κ]
def xR (kvs:List (κ × V)) (k:κ):Option V:=(kvs.find? fun kv=>decide (kv.1 = k)).map (·.2)
def vL (kvs:List (κ × V)) (k:κ) (v:V):List (κ × V):=
  if (kvs.any fun kv=>decide (kv.1 = k)) = true then kvs.map (fun kv=>if kv.1 = k then (kv.1,v) else kv) else kvs ++ [(k,v)]
def Vk (kvs:List (κ × V)) (k:κ):List (κ × V):=kvs.filter fun kv=>decide (kv.1 ≠ k)
theorem x6 {p:κ × V} {r:List (κ × V)} {k:κ} (e:p.1 = k):xR (p :: r) k = some p.2:=by simp [xR,List.find?_cons,e]
theorem x8 {p:κ × V} {r:List (κ × V)} {k:κ} (e:¬ p.1 = k):xR (p :: r) k = xR r k:=by simp [xR,List.find?_cons,e]
theorem wW (k:κ):∀ kvs:List (κ × V),(kvs.any fun kv=>decide (kv.1 = k)) = (xR kvs k).isSome
  | []=>rfl
  | p :: r=>by
    rw [List.any_cons]
    by_cases e:p.1 = k
    · simp only [x6 e,decide_eq_true e,Bool.true_or,Option.isSome_some]
    · rw [x8 e,decide_eq_false e,Bool.false_or];exact wW k r
theorem RelO.isSome_eq {o:Option V} {u:Option Value} (r:RelO o u):o.isSome = u.isSome:=by
  cases o with
  | none=>cases u with
    | none=>rfl
    | some _=>exact (show False from r).elim
  | some _=>cases u with
    | none=>exact (show False from r).elim
    | some _=>rfl
theorem RelO.getD {o:Option V} {u:Option Value} {d:V} {d':Value} (r:RelO o u) (rd:RelV d d'):RelV (o.getD d) (u.getD d'):=by
  cases o with
  | none=>cases u with
    | none=>exact rd
    | some _=>exact (show False from r).elim
  | some _=>cases u with
    | none=>exact (show False from r).elim
    | some _=>exact r
theorem KV.val {kvs:List (κ × V)} {vs:List (κ × Value)} (r:KV kvs vs) (k:κ):RelO (xR kvs k) (valueAt vs k):=by
  unfold KV at r
  induction r with
  | nil=>exact True.intro
  | @cons p q ps qs h t ih=>
    obtain ⟨h1,h2⟩:=h
    by_cases e:p.1 = k
    · have e':q.1 = k:=h1.symm.trans e
      have b:valueAt (q :: qs) k = some q.2:=by simp [valueAt,List.find?_cons,e']
      rw [x6 e,b];exact h2
    · have e':¬ q.1 = k:=fun z=>e (h1.trans z)
      have b:valueAt (q :: qs) k = valueAt qs k:=by simp [valueAt,List.find?_cons,e']
      rw [x8 e,b];exact ih
theorem KV.any {kvs:List (κ × V)} {vs:List (κ × Value)} (r:KV kvs vs) (k:κ):(kvs.any fun kv=>decide (kv.1 = k)) = vs.any fun kv=>decide (kv.1 = k):=by
  unfold KV at r
  induction r with
  | nil=>rfl
  | cons h t ih=>rw [List.any_cons,List.any_cons,ih,h.1]
theorem KV.repl {kvs:List (κ × V)} {vs:List (κ × Value)} (r:KV kvs vs) (k:κ) {y:V} {u:Value} (ry:RelV y u) :
    KV (kvs.map fun kv=>if kv.1 = k then (kv.1,y) else kv) (vs.map fun kv=>if kv.1 = k then (kv.1,u) else kv):=by
  unfold KV at r ⊢
  induction r with
  | nil=>exact .nil
  | @cons p q ps qs h t ih=>
    rw [List.map_cons,List.map_cons]
    refine .cons ?_ ih
    obtain ⟨h1,h2⟩:=h
    by_cases e:p.1 = k
    · rw [if_pos e,if_pos (h1.symm.trans e)];exact ⟨h1,ry⟩
    · rw [if_neg e,if_neg (fun z=>e (h1.trans z))];exact ⟨h1,h2⟩
theorem KV.put {kvs:List (κ × V)} {vs:List (κ × Value)} (r:KV kvs vs) (k:κ) {y:V} {u:Value} (ry:RelV y u):KV (vL kvs k y) (stored vs k u):=by
  unfold vL stored
  rw [r.any k]
  by_cases e:(vs.any fun kv=>decide (kv.1 = k)) = true
  · rw [if_pos e,if_pos e];exact r.repl k ry
  · rw [if_neg e,if_neg e];exact Paired.snoc r ⟨rfl,ry⟩
theorem KV.drop {kvs:List (κ × V)} {vs:List (κ × Value)} (r:KV kvs vs) (k:κ):KV (Vk kvs k) (without vs k):=by
  unfold KV at r ⊢
  unfold Vk without
  induction r with
  | nil=>exact .nil
  | @cons p q ps qs h t ih=>
    obtain ⟨h1,h2⟩:=h
    rw [List.filter_cons,List.filter_cons]
    by_cases e:p.1 = k
    · have a:¬ decide (p.1 ≠ k) = true:=by simp [e]
      have b:¬ decide (q.1 ≠ k) = true:=by simp [h1.symm.trans e]
      rw [if_neg a,if_neg b];exact ih
    · have e':¬ q.1 = k:=fun z=>e (h1.trans z)
      have a:decide (p.1 ≠ k) = true:=by simp [e]
      have b:decide (q.1 ≠ k) = true:=by simp [e']
      rw [if_pos a,if_pos b];exact .cons ⟨h1,h2⟩ ih
theorem KV.keys {kvs:List (κ × V)} {vs:List (κ × Value)} (r:KV kvs vs):kvs.map (·.1) = vs.map (·.1):=by
  unfold KV at r
  induction r with
  | nil=>rfl
  | cons h t ih=>rw [List.map_cons,List.map_cons,ih,h.1]
theorem KV.length {kvs:List (κ × V)} {vs:List (κ × Value)} (r:KV kvs vs):kvs.length = vs.length:=Paired.length r
end
theorem ZY {P:Program} {w:World} {k:Key} {u:Value} (r:RelV (kV k) u):(qJ P w).is k u = true:=by
  cases k with
  | inl i=>obtain ⟨t,e⟩:=(show ∃ t,u = Value.int i t from r);subst e;exact yD P w i t
  | inr x=>obtain ⟨t,e⟩:=(show ∃ t,u = Value.str x t from r);subst e;exact yC P w x t
abbrev KT (H:Hp):List (List Key × V) -> List (List Key × Addr × Value) -> Prop:=Paired fun p q=>p.1 = q.1 /\ H q.2.1 = some (.tup (p.1.map kV)) /\ RelV p.2 q.2.2
theorem KT.val {H:Hp} {kvs:List (List Key × V)} {xs:List (List Key × Addr × Value)} (r:KT H kvs xs) (k:List Key):RelO (xR kvs k) ((atKey xs k).map (·.2)):=by
  induction r with
  | nil=>exact True.intro
  | @cons p q ps qs h t ih=>
    obtain ⟨h1,_,h2⟩:=h
    by_cases e:p.1 = k
    · have e':q.1 = k:=h1.symm.trans e
      have b:atKey (q :: qs) k = some q.2:=by simp [atKey,List.find?_cons,e']
      rw [x6 e,b];exact h2
    · have e':¬ q.1 = k:=fun z=>e (h1.trans z)
      have b:atKey (q :: qs) k = atKey qs k:=by simp [atKey,List.find?_cons,e']
      rw [x8 e,b];exact ih
theorem KT.repl {H:Hp} {kvs:List (List Key × V)} {xs:List (List Key × Addr × Value)} (r:KT H kvs xs) (k:List Key) {y:V} {u:Value} (ry:RelV y u) :
    KT H (kvs.map fun kv=>if kv.1 = k then (kv.1,y) else kv) (xs.map (putAt k u)):=by
  induction r with
  | nil=>exact .nil
  | @cons p q ps qs h t ih=>
    rw [List.map_cons,List.map_cons]
    refine .cons ?_ ih
    obtain ⟨h1,h2,h3⟩:=h
    unfold putAt
    by_cases e:p.1 = k
    · rw [if_pos e,if_pos (h1.symm.trans e)];exact ⟨h1,h2,ry⟩
    · rw [if_neg e,if_neg (fun z=>e (h1.trans z))];exact ⟨h1,h2,h3⟩
theorem KT.put {H:Hp} {kvs:List (List Key × V)} {xs:List (List Key × Addr × Value)} (r:KT H kvs xs) (k:List Key) {b:Addr} {y:V} {u:Value} (hb:H b = some (.tup (k.map kV))) (ry:RelV y u) :
    KT H (vL kvs k y) (storedH xs k b u):=by
  have e:(kvs.any fun kv=>decide (kv.1 = k)) = (atKey xs k).isSome:=by
    rw [wW,(r.val k).isSome_eq,Option.isSome_map]
  unfold vL storedH
  rw [e]
  by_cases q:(atKey xs k).isSome = true
  · rw [if_pos q,if_pos q];exact r.repl k ry
  · rw [if_neg q,if_neg q];exact Paired.snoc r ⟨rfl,hb,ry⟩
theorem KT.keeps {H H':Hp} {kvs:List (List Key × V)} {xs:List (List Key × Addr × Value)} (r:KT H kvs xs) (ht:∀ b ys,H b = some (.tup ys) -> H' b = some (.tup ys)):KT H' kvs xs:=
  Paired.mapP r fun _ _ z=>⟨z.1,ht _ _ z.2.1,z.2.2⟩
section
variable {P:Program} {w:World} {H:Hp} {h:Heap} {a:Addr}
end
def DGet (H:Hp) (a:Addr) (y:V) (r:Option V):Prop:=
  (∃ kvs k,Rd H a (.dK kvs) /\ y = kV k /\ r = xR kvs k) \/ ∃ kvs k b,Rd H a (.dT kvs) /\ y = .ref b /\ H b = some (.tup (k.map kV)) /\ r = xR kvs k
def DPut (H:Hp) (a:Addr) (y v:V) (H':Hp):Prop:=
  (∃ kvs k,H a = some (.dK kvs) /\ y = kV k /\ kvs.length < sizeLine /\ H' = upd H a (.dK (vL kvs k v))) \/
  ∃ kvs k b,H a = some (.dT kvs) /\ y = .ref b /\ H b = some (.tup (k.map kV)) /\ kvs.length < sizeLine /\ H' = upd H a (.dT (vL kvs k v))
theorem DGet.k {H:Hp} {a:Addr} {kvs:List (Key × V)} {k:Key} (e:H a = some (.dK kvs)):DGet H a (kV k) (xR kvs k):=.inl ⟨kvs,k,.inl e,rfl,rfl⟩
theorem DGet.t {H:Hp} {a b:Addr} {kvs:List (List Key × V)} {k:List Key} (e:H a = some (.dT kvs)) (eb:H b = some (.tup (k.map kV))):DGet H a (.ref b) (xR kvs k):=.inr ⟨kvs,k,b,.inl e,rfl,eb,rfl⟩
theorem DPut.k {H:Hp} {a:Addr} {kvs:List (Key × V)} {k:Key} {v:V} (e:H a = some (.dK kvs)) (hl:kvs.length < sizeLine):DPut H a (kV k) v (upd H a (.dK (vL kvs k v))):=.inl ⟨kvs,k,e,rfl,hl,rfl⟩
theorem DPut.t {H:Hp} {a b:Addr} {kvs:List (List Key × V)} {k:List Key} {v:V} (e:H a = some (.dT kvs)) (eb:H b = some (.tup (k.map kV))) (hl:kvs.length < sizeLine) :
    DPut H a (.ref b) v (upd H a (.dT (vL kvs k v))):=.inr ⟨kvs,k,b,e,rfl,eb,hl,rfl⟩
section
variable {X:Cx} {pins:List (Addr × Obj)} {σ:St} {H:Hp} {s:Shared} {a:Addr} {y v:V} {u r:Value} {o:Option V} {A:Around} {E:Value -> Shared -> Prop}
end
section
variable {X:Cx} {pins:List (Addr × Obj)} {σ:St} {H:Hp} {s:Shared} {a:Addr} {kvs:List (Key × V)} {k:Key} {u:Value} {A:Around} {E:Value -> Shared -> Prop}
end
section
variable {X:Cx} {o i e value:Expr} {pos pos' tpos:Pos} {td ty tv:TE}
end
section
variable {X:Cx} {pos:Pos}
end
structure M1 (X:Cx) (o:Expr) (m:Str) (apos:Pos) (e:Expr) (cpos:Pos):Prop where
  base:attributeBase o m X.env (eval o X.env) = eval o X.env
  few:((backTo cpos (starEach [e] X.env)).all (fun x=>!x.1) && (backToKw cpos (keywordEach [] X.env)).all (fun x=>x.1.isSome)
    && decide (([e]:List Expr).length + ([]:List Keyword).length + (if ([]:List Keyword).isEmpty then 0 else 1) < 30)) = true
  line:(apos.endLine == cpos.line) = true
  trees:backTo cpos (starEach [e] X.env) = [(false,eval e X.env)]
structure M2 (X:Cx) (o:Expr) (m:Str) (apos:Pos) (e f:Expr) (cpos:Pos):Prop where
  base:attributeBase o m X.env (eval o X.env) = eval o X.env
  few:((backTo cpos (starEach [e,f] X.env)).all (fun x=>!x.1) && (backToKw cpos (keywordEach [] X.env)).all (fun x=>x.1.isSome)
    && decide (([e,f]:List Expr).length + ([]:List Keyword).length + (if ([]:List Keyword).isEmpty then 0 else 1) < 30)) = true
  line:(apos.endLine == cpos.line) = true
  trees:backTo cpos (starEach [e,f] X.env) = [(false,eval e X.env),(false,eval f X.env)]
section
variable {X:Cx} {pins:List (Addr × Obj)} {σ:St} {H:Hp} {s:Shared} {a:Addr} {y d:V} {u r:Value} {o:Option V} {A:Around} {E:Value -> Shared -> Prop}
end
section
variable {X:Cx} {o e f:Expr} {apos cpos:Pos} {td ty tx:TE}
end
section
variable {X:Cx} {pins:List (Addr × Obj)} {σ:St} {H:Hp} {s:Shared} {a:Addr} {kvs:List (Key × V)} {A:Around} {E:Value -> Shared -> Prop}
end
section
variable {X:Cx} {pins:List (Addr × Obj)} {σ:St} {H:Hp} {s:Shared} {a:Addr} {y:V} {u:Value} {A:Around} {E:Value -> Shared -> Prop}
end
end L2
namespace PySem
open PySem PySem.W PySem.Calls PyProof.Rows PyProof.V PySem.Spec
end PySem
namespace L2
open PySem PySem.Spec PyProof.Rows
section
variable {X:Cx}
end
section
variable {X:Cx} {tg:Expr}
end
section
variable {X:Cx}
end
section
variable {X:Cx}
end
section
variable {X:Cx}
variable {e st:Expr} {te:TE} {tk:TO} {pos p2:Pos}
end
end L2
namespace PySem
def RawD (h:Heap) (d:Addr) (es:Array DictEntry) (ep:Nat):Prop:=∃ o,h.get? d = some o /\ o.ExactDict /\ o.data = .dict es ep
theorem RawD.at {h h':Heap} {d:Addr} {es:Array DictEntry} {ep:Nat} (x:RawD h d es ep) (e:∀ o,h.get? d = some o -> h'.get? d = some o):RawD h' d es ep:=let ⟨o,a,b⟩:=x;⟨o,e _ a,b⟩
section
variable {prog:Program} {w:World} {A:Around} {E:Value -> Shared -> Prop} {s:Shared} {d it:Addr} {es:Array DictEntry} {ep i:Nat}
end
end PySem
namespace L2
open PySem PySem.Spec PyProof.Rows
section
variable {X:Cx} {tg:Expr}
end
section
variable {prog:Program} {w:World} {A:Around} {R:Result -> Shared -> Prop} {s:Shared}
abbrev dc2 (kx vx tg1 iter1:Expr) (ifs1:List Expr) (tg iter:Expr) (ifs:List Expr) (scope:Scope) (pos:Pos):Expr:=.DictComp kx vx [⟨tg1,iter1,ifs1,0⟩,⟨tg,iter,ifs,0⟩] scope pos
end
def DPutT (H:Hp) (D:Addr) (y v:V) (H':Hp):Prop:=∃ kvs k b,H D = some (.dT kvs) /\ y = .ref b /\ H b = some (.tup (k.map kV)) /\ kvs.length < sizeLine /\ H' = upd H D (.dT (vL kvs k v))
theorem DPutT.t {H:Hp} {a b:Addr} {kvs:List (List Key × V)} {k:List Key} {v:V} (e:H a = some (.dT kvs)) (eb:H b = some (.tup (k.map kV))) (hl:kvs.length < sizeLine):DPutT H a (.ref b) v (upd H a (.dT (vL kvs k v))):=⟨kvs,k,b,e,rfl,eb,hl,rfl⟩
section
variable {X:Cx} {kx vx tg1 iter1:Expr} {ifs1:List Expr} {tg iter:Expr} {ifs:List Expr} {scope:Scope} {pos:Pos} {wi wi1:TI} {g g1:TG} {tf tf1:TT} {tk tv:TE}
theorem Zs {pins:List (Addr × Obj)} {σ:St} {H:Hp} {s:Shared} {fp:List Addr} (own fr:List Str) (js:List Nat) (I:Inv X pins σ H s) (B:Xe scope.names X.env.scope.names X.N fr js) (hk:scope.kind = .function)
    (f2:∀ b ∈ fp,jI X pins H b) (fl:∀ b ∈ fp,b < s.heap.objs.size) {C:Addr} (hC:C = s.heap.objs.size) {h1:Heap} {m:Str -> Option Value} (hns:h1.Ns C m) (k4:∀ b o,s.heap.get? b = some o -> h1.get? b = some o) {t4:Nat} :
    Inv (zI X (own ++ fr) scope C s H fp) [] (upS own.length js σ) H { s with heap:=h1,toks:=t4 }:=by
  have hasF:∀ y ∈ scope.names,y.2 = NameKind.free -> ∃ c,X.env.cells.lookup y.1 = some c:=fun y hy e=>I.ok.has y.1 (B.free y hy e)
  refine ⟨⟨I.ok.mod,hk,I.ok.glob,I.ok.blt,Nat.le_of_eq hC.symm,fun x y c e1 e2=>?_,fun x hx=>?_,fun x c hf=>(nomatch hf),fun hc=>I.ok.hd hc,I.ok.frames,.inl rfl,fun b hb=>?_,I.bs,Nat.le_trans I.ok.bsz I.sz,fun b o e hb=>?_,fun b hb hf=>?_,I.stack,I.stkFree⟩,
    rfl,I.bare,Un.kept k4,⟨m,hns,fun i x v e1 e2 e3'=>?_⟩,fun x c e=>?_,?_,fun x c e=>?_,fun p hp=>absurd (show p ∈ ([]:List (Addr × Obj)) from hp) (by simp),I.hok.kept k4,?_⟩
  · exact I.ok.inj x y c (zR e1 hasF) (zR e2 hasF)
  · obtain ⟨k,e,z⟩:∃ k,scope.names.lookup x = some k /\ (k = .free):=by
      rcases hx with hx | hx
      · obtain ⟨k,e,z⟩:=jO hx
        rcases z with z | z
        · subst z;exact absurd rfl (B.cell _ (PySem.mem_of_lookup e))
        · exact ⟨k,e,z.1⟩
      · obtain ⟨k,e,z⟩:=jO hx
        rcases z with z | z
        · subst z;exact ⟨_,e,rfl⟩
        · exact ⟨k,e,z.1⟩
    subst z
    exact ⟨_,j4 e⟩
  · refine ⟨by rw [hC];exact Nat.ne_of_lt (fl b hb),fun x c e=>?_⟩
    exact (f2 b hb).2.2.2.2.1 x c (zR e hasF)
  · rcases (f2 b hb).2.2.2.1 with z | z
    · exact I.ok.noex b o e z
    · exact absurd (Nat.lt_of_lt_of_le (Heap.lt_size (I.ok.bs b o e).1) z) (Nat.lt_irrefl _)
  · rcases List.mem_cons.mp (I.stkSub b hf) with y | y
    · exact (f2 b hb).2.1 y
    · exact (f2 b hb).2.2.1 y
  · obtain ⟨hn,_,j,ej,es⟩:=jM e2
    have ex:fr[i - own.length]? = some x:=by rw [List.getElem?_append_right hn] at e1;exact e1
    obtain ⟨hfx,j',ej',eN⟩:=B.fr _ x ex
    have:j' = j:=by rw [ej] at ej';exact (Option.some.inj ej').symm
    subst this
    have hkx:=B.free _ (PySem.mem_of_lookup hfx) rfl
    obtain ⟨m0,_,hl⟩:=I.loc
    obtain ⟨u,r,l⟩:=hl j' x v eN es (by rcases hkx with z | z;exact .inr (.inl z);exact .inr (.inr z))
    refine ⟨u,r,.inr ?_⟩
    rcases l with ⟨kl,_⟩ | ⟨_,c,ec,o,eo,ed⟩
    · have kl':X.env.scope.names.lookup x = some .local:=kl
      rcases hkx with z | z
      · exact absurd (z.symm.trans kl') (by decide)
      · exact absurd (z.symm.trans kl') (by decide)
    · obtain ⟨k',e',z⟩:=xc (env:=X.env) hfx
      have eq:(qF X.env.cells scope.names []).lookup x = some c:=by rw [j4 hfx,ec];rfl
      refine ⟨?_,c,eq,o,k4 c o eo,ed⟩
      rcases z with z | z
      · subst z;exact .inl e'
      · subst z;exact .inr e'
  · obtain ⟨v,o,eo,ed⟩:=I.cell x c (zR e hasF)
    exact ⟨v,o,k4 c o eo,ed⟩
  · exact I.hok.fresh (Nat.le_of_eq hC.symm)
  · exact I.freeC x c (zR e hasF)
  · rw [Zw,<- B.len]
    show _ = (own ++ fr).length
    rw [List.length_append]
end
section
variable {X:Cx} {kx vx tg1 iter1:Expr} {ifs1:List Expr} {tg iter:Expr} {ifs:List Expr} {scope:Scope} {pos:Pos} {wi wi1:TI} {g g1:TG} {tf tf1:TT} {tk tv:TE}
end
structure BlkOkC (sn on:List (Str × NameKind)) (N:List Str) (x:Str) (fr:List Str) (js:List Nat):Prop where
  one:(sn.filter fun y=>y.2 == .cell) = [(x,.cell)]
  lk:sn.lookup x = some .cell
  nd:([x] ++ fr).Nodup
  loc:∀ y ∈ sn,y.2 = NameKind.local -> sn.lookup y.1 = some .local
  free:∀ y ∈ sn,y.2 = NameKind.free -> on.lookup y.1 = some .cell \/ on.lookup y.1 = some .free
  len:fr.length = js.length
  fr:∀ (k:Nat) (x:Str),fr[k]? = some x -> sn.lookup x = some .free /\ ∃ j:Nat,js[k]? = some j /\ N[j]? = some x
theorem BlkOkC.is {sn on:List (Str × NameKind)} {N:List Str} {x:Str} {fr:List Str} {js:List Nat} (B:BlkOkC sn on N x fr js) {y:Str × NameKind} (h:y ∈ sn) (e:y.2 = .cell):y.1 = x:=by
  have:y ∈ sn.filter fun y=>y.2 == .cell:=List.mem_filter.mpr ⟨h,by rw [e];rfl⟩
  rw [B.one,List.mem_singleton] at this
  rw [this]
section
variable {X:Cx} {elt tg iter:Expr} {ifs:List Expr} {scope:Scope} {pos:Pos} {wi:TI} {g:TG} {tf:TT} {te:TE} {x:Str}
end
end L2
namespace L2
end L2
namespace L2
open PySem PySem.W PySem.Spec PyProof.Rows
abbrev bmV:List Value:=[.type "ValueError",.type "Exception",.type "BaseException",.type "object"]
def WE (K:Frag) (C:Addr) (ini:Option Value):Bool:=match K.lookup C with
  | some ⟨.type "type",_,.cls cd,sl⟩=>(match cd.mro with
    | .ref C' :: bm=>(match sl.toList with
      | [_,_,_,_,some (.builtin n),_]=>C' == C && (n == "ValueError.__new__" && (!cd.hasDel && (tailIn K bmV bm && (nsOkIn K cd.ns && nsIn K cd.ns "__init__" == some ini))))
      | _=>false)
    | _=>false)
  | _=>false
structure Xc (h:Heap) (C:Addr) (ini:Option Value):Prop where
  is:∃ (bm:List Value) (N:Addr) (nm qn:Str) (bs:List Value) (hd:Bool) (sn:List Str) (sub:List Value) (ab:Bool) (col:Option Bool) (dd:Option Addr) (k0 k1 k2 k3 k5:Option Value) (mN:Str -> Option Value),
    h.get? C = some (excClassObj nm qn C N bs bm hd sn sub ab col dd k0 k1 k2 k3 k5 "ValueError.__new__") /\ h.Ns N mN /\ mN "__init__" = ini /\ OwnTail h bmV bm
end L2
namespace L2
open PySem PySem.W PySem.Spec PyProof.Rows
section
variable {P:Program} {w:World} {H:Hp} {h h':Heap} {a:Addr} {o:HO}
theorem ObjOk.has (x:ObjOk P w H h a o):∃ u,h.get? a = some u:=by
  cases o with
  | lst xs=>obtain ⟨_,_,_,_,e⟩:=x;exact ⟨_,e⟩
  | tup xs=>obtain ⟨_,_,_,⟨u,e,_⟩,_⟩:=x;exact ⟨u,e⟩
  | dK kvs=>obtain ⟨_,_,_,_,u,_,_,e,_⟩:=x;exact ⟨u,e⟩
  | dT kvs=>obtain ⟨_,_,_,_,u,_,_,e,_⟩:=x;exact ⟨u,e⟩
  | set S n=>obtain ⟨u,_,_,_,e,_⟩:=x;exact ⟨u,e⟩
  | ins C dx fs=>obtain ⟨_,_,_,e,_⟩:=x;exact ⟨_,e⟩
  | own y=>obtain ⟨u,e⟩:=x;exact ⟨u,e⟩
  | xd fs=>obtain ⟨_,⟨u,_,_,e,_⟩,_⟩:=x;exact ⟨u,e⟩
  | rng lo hi=>obtain ⟨_,_,_,e⟩:=x;exact ⟨_,e⟩
  | frz ob u=>obtain ⟨e,_⟩:=x;exact ⟨_,e⟩
  | tbl ps=>exact ⟨_,show h.get? a = some _ from x⟩
  | met f y=>exact ⟨_,show h.get? a = some _ from x⟩
  | ext φ=>obtain ⟨_,⟨u,e⟩,_⟩:=x;exact ⟨u,e⟩
end
section
variable {X:Cx} {pins:List (Addr × Obj)} {σ:St} {H:Hp} {s:Shared} {h':Heap}
end
section
variable {prog:Program} {w:World} {A:Around} {E:Value -> Shared -> Prop} {h:Heap} {g:Array GenState} {d:Drawn} {t:Nat} {os:OsState} {C:Addr}
end
section
variable {prog:Program} {w:World} {A:Around} {E:Value -> Shared -> Prop} {h:Heap} {g:Array GenState} {d:Drawn} {t:Nat} {os:OsState}
variable {nm q:Str} {C N:Addr} {bs bm:List Value} {hdct:Bool} {sn:List Str} {sub:List Value} {ab:Bool} {col:Option Bool} {dd:Option Addr} {k0 k1 k2 k3 k5:Option Value}
end
end L2
namespace L2
open PySem PySem.W PySem.Spec PyProof.Rows
structure XK2 (K:Frag) (C:Addr) (ini:Option Value):Prop where
  cls:WE K C ini = true
  sa:findIn K (.ref C) "__setattr__" = some (some (.builtin "object.__setattr__"))
  ga:findIn K (.ref C) "__getattribute__" = some (some (.builtin "BaseException.__getattribute__"))
  gh:findIn K (.ref C) "__getattr__" = some none
  ob:mroIn K C (.type "object") = some true
  be:mroIn K C (.type "BaseException") = some true
  hd:hasDictIn K C = true
section
variable {prog:Program} {w:World} {A:Around} {E:Value -> Shared -> Prop} {h:Heap} {g:Array GenState} {d:Drawn} {t:Nat} {os:OsState} {K:Frag} {C e t0:Addr} {ini:Option Value} {f:Str} {v:Value}
end
end L2
namespace L2
open PySem PySem.W PySem.Spec PyProof.Rows
section
variable {prog:Program} {w:World} {A:Around} {E:Value -> Shared -> Prop} {h:Heap} {g:Array GenState} {d:Drawn} {t:Nat} {os:OsState} {K:Frag} {C e t0 dx:Addr} {od:Option Addr} {ini:Option Value} {f:Str} {v:Value} {mA:Str -> Option Value}
end
end L2
namespace L2
open PySem PySem.W PySem.Spec PyProof.Rows
structure XKc (K:Frag) (C:Addr):Prop where
  lk:findIn K (.ref C) "__class__" = some (some (.builtin "object.__class__"))
  gt:specialIn K (.builtin "object.__class__") "__get__" = some (some (.builtin "getset_descriptor.__get__"))
  tk:takesIn K (.builtin "object.__class__") = some true
section
variable {prog:Program} {w:World} {A:Around} {E:Value -> Shared -> Prop} {h:Heap} {g:Array GenState} {d:Drawn} {t:Nat} {os:OsState} {K:Frag} {C C' e t0:Addr} {dx:Option Addr} {ini:Option Value} {od:Option Obj}
end
end L2
namespace L2
open PySem PySem.W PySem.Spec PyProof.Rows
structure XOk (K:Frag) (C:Addr) (ini:Option Value):Prop where
  k:XK2 K C ini
  c:XKc K C
  kp:keepIn K (.ref C) = true
  ty:typeIn K (.ref C) = some (.type "type")
  cd:∃ cd,clsIn K C = some cd
  ve:mroIn K C (.type "ValueError") = some true
section
variable {X:Cx} {CX:CXT} {k:Nat} {f C:Addr} {fd:FuncData} {ps:List Str} {ds:List Value} {dvs:List V} {sp:Sp} {E:XK} {x m:Str} {p pos apos:Pos} {e o value:Expr} {es:List Expr} {t:TA} {ta tv:TE} {ini:Option Value}
end
end L2
namespace L2
open PySem PySem.W PySem.Spec PyProof.Rows
section
variable {X:Cx}
end
structure Xs (K:Frag) (mg:Str -> Option Value) (x:Str) (C:Addr) (ini:Option Value):Prop where
  ok:XOk K C ini
  gl:mg x = some (.ref C)
structure XsI (P:Program) (w:World) (K:Frag) (mg:Str -> Option Value) (base:Heap) (x:Str) (C f:Addr) (k:Nat) (ps:List Str) (sp:Sp):Prop extends Xs K mg x C (some (.ref f)) where
  ex:∃ fd oF,FnOk P w K mg base CX0 k f fd ps sp /\ K.lookup f = some oF /\ oF.cls = .type "function" /\ Binds K fd ps []
section
variable {X:Cx} {x:Str} {k:Nat} {C f:Addr} {ps:List Str} {sp:Sp} {p pos:Pos} {e:Expr} {es:List Expr} {t:TA}
end
end L2
namespace L2
open PySem PySem.Spec PyProof.Rows
theorem x5:∀ {us:List Value} {ns:List Int},IntsAre us ns -> Vals (ns.map V.int) us
  | _,_,.nil=>.nil
  | _,_,.cons n t r=>.cons ⟨t,rfl⟩ (x5 r)
section
variable {X:Cx}
inductive jU (K:PySem.W.Frag) (xs:List V) (H:Hp) (Q:VK):Prop
  | mk (a:Addr) (ns:List Int) (_:xs = [.ref a]) (_:SqL K H a (ns.map V.int)) (_:ns.length < 64) (_:∀ (p:Addr) (ms:List Int),H p = none -> ms.Perm ns -> ms.Pairwise (· <= ·) -> Q (.ref p) (upd H p (.lst (ms.map V.int)))):jU K xs H Q
theorem xv:CallR X (.builtin "sorted") (jU X.K):=by
  intro pins s σ H xs us Q I r h
  obtain ⟨a,ns,rfl,hx,hl,q⟩:=h
  obtain ⟨u,rfl,ru⟩:=Vals.one r
  cases (show u = Value.ref a from ru)
  obtain ⟨its,r',pl,hz⟩:=I.list hx
  have len:=r'.length
  rw [List.length_map] at len
  refine sorted_ints pl.isList (vz r') (by omega) fun out ms a1 a2 a3=>?_
  obtain ⟨e,he⟩:=sortedAll_at s.heap its out
  have hn:H (s.heap.objs.size + 1) = none:=I.hok.fresh (Nat.le_succ _)
  refine ⟨.ref (s.heap.objs.size + 1),_,I.laid (a:=s.heap.objs.size + 1) (o:=.lst (ms.map V.int)) (t':=s.toks) (fun _ _=>sortedAll_old) (Nat.le_succ _) ⟨?_,out.toList,e,x5 a1,?_⟩,rfl,q _ ms hn a2 a3⟩
  · rw [List.length_map,a2.length_eq,sizeLine_eq];omega
  · rw [he]
end
section
variable {prog:Program} {w:World} {κ:Type} [DecidableEq κ] {knd:PySem.KeyKind prog w κ} {A:Around} {E:Value -> Shared -> Prop} {s:Shared}
end
section
variable {prog:Program} {w:World} {κ:Type} [DecidableEq κ] {knd:PySem.KeyKind prog w κ}
end
section
variable {X:Cx} {td ty tx:TE} {o e f:Expr} {apos cpos:Pos}
end
theorem KV.get:∀ {kvs:List (Key × V)} {vs:List (Key × Value)} {j:Nat} {q:Key × Value},KV kvs vs -> vs[j]? = some q -> ∃ p,kvs[j]? = some p /\ p.1 = q.1 /\ RelV p.2 q.2
  | _,_,j,_,.nil,e=>by simp at e
  | _,_,0,_,.cons h _,e=>by simp at e;subst e;exact ⟨_,rfl,h⟩
  | _,_,j + 1,_,.cons _ t,e=>by
    obtain ⟨p,e1,r⟩:=KV.get (j:=j) t (by simpa using e)
    exact ⟨p,by simpa using e1,r⟩
section
variable {X:Cx}
end
section
variable {X:Cx} {td ty:TE} {o e:Expr} {apos cpos:Pos}
end
section
variable {X:Cx}
end
section
variable {X:Cx} {tg:Expr}
end
section
variable {X:Cx} {tg:Expr}
end
open Sem (wp)
section
variable {prog:Program} {w:World} {A:Around} {E:Value -> Shared -> Prop} {s:Shared}
end
section
variable {prog:Program} {w:World} {A:Around} {E:Value -> Shared -> Prop} {h:Heap} {g:Array GenState} {d:Drawn} {t:Nat} {os:OsState} {a:Addr} {n:Nat} {its:Array Value}
end
end L2
namespace L2
open PySem PySem.Spec PyProof.Rows
section
variable {prog:Program} {w:World} {K:Type} [DecidableEq K] {knd:KeyKind prog w K} {A:Around} {R:Result -> Shared -> Prop} {it l D:Addr} {items:Array Value} {pairs:List (K × Value)} {res:Value}
end
section
variable {prog:Program} {w:World} {K:Type} [DecidableEq K] {knd:KeyKind prog w K} {A:Around} {E:Value -> Shared -> Prop} {s:Shared}
end
def PrsL (H:Hp) (xs:List V) (kps:List (Key × V)):Prop:=xs.length = kps.length /\ ∀ (j:Nat) (x:V),xs[j]? = some x -> ∃ (T:Addr) (k:Key) (v:V),x = .ref T /\ H T = some (.tup [kV k,v]) /\ kps[j]? = some (k,v)
theorem PrsL.nil {H:Hp}:PrsL H [] []:=⟨rfl,fun j x e=>by simp at e⟩
theorem PrsL.same {H H':Hp} {xs:List V} {kps:List (Key × V)} (h:PrsL H xs kps) (s:Same H H'):PrsL H' xs kps:=⟨h.1,fun j x e=>let ⟨T,k,v,a,b,c⟩:=h.2 j x e;⟨T,k,v,a,s _ _ b,c⟩⟩
theorem PrsL.snoc {H:Hp} {xs:List V} {kps:List (Key × V)} {T:Addr} {k:Key} {v:V} (h:PrsL H xs kps) (e:H T = some (.tup [kV k,v])):PrsL H (xs ++ [.ref T]) (kps ++ [(k,v)]):=by
  refine ⟨by rw [List.length_append,List.length_append,h.1];rfl,fun j x ex=>?_⟩
  have l:=h.1
  by_cases hj:j < xs.length
  · rw [List.getElem?_append_left hj] at ex
    obtain ⟨T',k',v',a,b,c⟩:=h.2 j x ex
    exact ⟨T',k',v',a,b,by rw [List.getElem?_append_left (by omega)];exact c⟩
  · rw [List.getElem?_append_right (by omega)] at ex
    have:j = xs.length:=by
      have:=(List.getElem?_eq_some_iff.mp ex).1
      simp at this;omega
    subst this
    simp at ex
    subst ex
    exact ⟨T,k,v,rfl,e,by rw [l,List.getElem?_append_right (Nat.le_refl _)];simp⟩
theorem Vals.at:∀ {xs:List V} {us:List Value} {i:Nat} {u:Value},Vals xs us -> us[i]? = some u -> ∃ x,xs[i]? = some x /\ RelV x u:=fun {xs us i u} r e=>by
  have l:=Vals.length r
  have h:=(List.getElem?_eq_some_iff.mp e).1
  obtain ⟨v,e1,r1⟩:=r.get (i:=i) (x:=xs[i]'(by omega)) (List.getElem?_eq_getElem _)
  rw [e] at e1
  cases e1
  exact ⟨_,List.getElem?_eq_getElem _,r1⟩
section
variable {X:Cx}
end
section
variable {X:Cx}
end
section
variable {X:Cx} {elt tg iter:Expr} {ifs:List Expr} {scope:Scope} {pos:Pos} {wi:TI} {g:TG} {tf:TT} {te:TE} {x:Str}
variable {y:Str} {px py tp:Pos} {kk:Nat}
end
def Up (xs:Array Nat):Prop:=xs.toList.Pairwise (· < ·)
theorem Up.lt {xs:Array Nat} (h:Up xs) {i j:Nat} {a b:Nat} (hi:xs[i]? = some a) (hj:xs[j]? = some b) (hij:i < j):a < b:=by
  have h1:=Array.getElem?_eq_some_iff.mp hi
  have h2:=Array.getElem?_eq_some_iff.mp hj
  obtain ⟨l1,e1⟩:=h1
  obtain ⟨l2,e2⟩:=h2
  have:=List.pairwise_iff_getElem.mp h i j (by simpa using l1) (by simpa using l2) hij
  simpa [e1,e2] using this
theorem vG (xs:Array Nat) (j:Nat):∀ (fuel lo hi:Nat),hi - lo <= fuel -> lo <= hi -> hi <= xs.size -> Up xs -> (∀ i a,i < lo -> xs[i]? = some a -> a < j) -> (∀ i a,hi <= i -> xs[i]? = some a -> j <= a) ->
    SetTable.below.go xs j fuel lo hi <= xs.size /\ (∀ i a,i < SetTable.below.go xs j fuel lo hi -> xs[i]? = some a -> a < j) /\ ∀ i a,SetTable.below.go xs j fuel lo hi <= i -> xs[i]? = some a -> j <= a
  | 0,lo,hi,h1,h2,h3,u,a1,a2=>by
    have e:hi = lo:=by omega
    subst e
    exact ⟨h3,a1,a2⟩
  | fuel + 1,lo,hi,h1,h2,h3,u,a1,a2=>by
    unfold SetTable.below.go
    by_cases c:lo < hi
    · rw [if_pos c]
      dsimp only
      have hm:(lo + hi) / 2 < xs.size:=by omega
      have em:xs[(lo + hi) / 2]? = some (xs[(lo + hi) / 2]'hm):=Array.getElem?_eq_getElem hm
      have eg:xs.getD ((lo + hi) / 2) j = xs[(lo + hi) / 2]'hm:=by rw [Array.getD_eq_getD_getElem?,em];rfl
      rw [eg]
      by_cases d:xs[(lo + hi) / 2]'hm < j
      · rw [if_pos d]
        refine vG xs j fuel _ hi (by omega) (by omega) h3 u (fun i a hi' e=>?_) a2
        by_cases q:i = (lo + hi) / 2
        · subst q;rw [em] at e;cases e;exact d
        · have:=u.lt e em (by omega)
          omega
      · rw [if_neg d]
        refine vG xs j fuel lo _ (by omega) (by omega) (by omega) u a1 fun i a hi' e=>?_
        by_cases q:i = (lo + hi) / 2
        · subst q;rw [em] at e;cases e;omega
        · have:=u.lt em e (by omega)
          omega
    · rw [if_neg c]
      have e:hi = lo:=by omega
      subst e
      exact ⟨h3,a1,a2⟩
theorem J8 {xs:Array Nat} (u:Up xs) (j:Nat):SetTable.below xs j <= xs.size /\ (∀ i a,i < SetTable.below xs j -> xs[i]? = some a -> a < j) /\ ∀ i a,SetTable.below xs j <= i -> xs[i]? = some a -> j <= a:=by
  unfold SetTable.below
  exact vG xs j xs.size 0 xs.size (by omega) (Nat.zero_le _) (Nat.le_refl _) u (fun i a h=>absurd h (Nat.not_lt_zero _)) fun i a h e=>absurd (Array.getElem?_eq_some_iff.mp e).1 (by omega)
theorem Qr {xs:Array Nat} (u:Up xs) {j:Nat} (hn:xs[SetTable.below xs j]? ≠ some j):Up (SetTable.insertAt xs (SetTable.below xs j) j):=by
  obtain ⟨b1,b2,b3⟩:=J8 u j
  unfold Up SetTable.insertAt
  generalize SetTable.below xs j = p at *
  have el:((xs.extract 0 p).push j ++ xs.extract p xs.size).toList = xs.toList.take p ++ (j :: xs.toList.drop p):=by
    simp [Array.toList_extract,List.extract_eq_drop_take]
    exact List.take_of_length_le (by simp)
  rw [el,List.pairwise_append]
  have u':xs.toList.Pairwise (· < ·):=u
  refine ⟨u'.sublist (List.take_sublist _ _),List.pairwise_cons.mpr ⟨fun a ha=>?_,u'.sublist (List.drop_sublist _ _)⟩,fun a ha b hb=>?_⟩
  · obtain ⟨k,hk,e⟩:=List.mem_drop_iff_getElem.mp ha
    have e':xs[k + p]? = some a:=by rw [<- Array.getElem?_toList,List.getElem?_eq_some_iff];exact ⟨by omega,by rw [<- e];congr 1;omega⟩
    have:=b3 (k + p) a (by omega) e'
    by_cases q:k = 0
    · subst q
      rw [Nat.zero_add] at e'
      exact Nat.lt_of_le_of_ne this fun z=>hn (by rw [e',z])
    · have hp:p < xs.size:=by rw [Array.length_toList] at hk;omega
      have:=b3 p _ (Nat.le_refl _) (Array.getElem?_eq_getElem hp)
      have:=u.lt (Array.getElem?_eq_getElem hp) e' (by omega)
      omega
  · obtain ⟨k,hk,e⟩:=List.mem_take_iff_getElem.mp ha
    have e':xs[k]? = some a:=by rw [<- Array.getElem?_toList,List.getElem?_eq_some_iff];exact ⟨by omega,e⟩
    have ha':=b2 k a (by omega) e'
    rcases List.mem_cons.mp hb with z | z
    · rw [z];exact ha'
    · obtain ⟨k2,hk2,e2⟩:=List.mem_drop_iff_getElem.mp z
      have e2':xs[k2 + p]? = some b:=by rw [<- Array.getElem?_toList,List.getElem?_eq_some_iff];exact ⟨by omega,by rw [<- e2];congr 1;omega⟩
      have:=b3 (k2 + p) b (by omega) e2'
      omega
structure TabOk (b:Bool) (t:SetTable):Prop where
  up:Up t.place
  no:t.dummies = #[]
  led:t.led = b
theorem yK (j:Nat):SetTable.has #[] j = false:=by
  unfold SetTable.has
  rw [show (#[]:Array Nat)[SetTable.below #[] j]? = none from Array.getElem?_eq_none (by simp)]
  rfl
theorem QA {t:SetTable} (h:t.dummies = #[]) (j:Nat):(t.slot j = .empty /\ t.place[SetTable.below t.place j]? ≠ some j) \/ ∃ i,t.slot j = .live i:=by
  unfold SetTable.slot
  rw [h,yK]
  dsimp only
  by_cases c:(t.place[SetTable.below t.place j]? == some j) = true
  · rw [if_pos c]
    exact .inr ⟨_,rfl⟩
  · rw [if_neg c,if_neg Bool.false_ne_true]
    exact .inl ⟨rfl,fun z=>c (by rw [z];simp)⟩
theorem vN (t:SetTable) (p:SetTable.Probe):(t.advance p).dummy = p.dummy:=by
  unfold SetTable.advance
  split
  · rfl
  · rfl
theorem xG {t:SetTable} (hd:t.dummies = #[]) {f:Nat -> Int} {h:Int}:∀ (fuel:Nat) (p:SetTable.Probe) (j:Nat) (d:Option Nat),SetTable.probe.go t f h fuel p = some (.empty j d) -> t.place[SetTable.below t.place j]? ≠ some j /\ d = p.dummy
  | 0,p,j,d,e=>by unfold SetTable.probe.go at e;cases e
  | fuel + 1,p,j,d,e=>by
    unfold SetTable.probe.go at e
    rcases QA hd p.j with ⟨c1,c2⟩ | ⟨i,c⟩
    · rw [c1] at e
      cases e
      exact ⟨c2,rfl⟩
    · rw [c] at e
      dsimp only at e
      split at e
      · cases e
      · have:=xG hd fuel _ j d e
        rw [vN] at this
        exact this
theorem XX {t:SetTable} (hd:t.dummies = #[]) {h:Int} {s:Nat} {w:Bool} (e:t.freeSlot h = some (s,w)):t.place[SetTable.below t.place s]? ≠ some s:=by
  unfold SetTable.freeSlot SetTable.probe at e
  split at e
  · rename_i j d q
    obtain ⟨h1,h2⟩:=xG hd _ _ _ _ q
    cases (show d = none from h2)
    cases e
    exact h1
  · cases e
theorem QZ (n:Nat):Up (Array.range n):=by
  unfold Up
  rw [Array.toList_range]
  exact List.pairwise_lt_range
theorem TabOk.stand {b:Bool} {t:SetTable} (h:TabOk b t) (n:Nat):TabOk b (t.standIn n):=⟨QZ n,rfl,h.led⟩
theorem TabOk.plain {b p:Bool} {t:SetTable} (h:TabOk b t):TabOk b { t with plain:=p }:=⟨h.up,h.no,h.led⟩
theorem TabOk.or {b:Bool} {t:SetTable} (h:TabOk b t) (n:Nat):TabOk b (t.orStandIn n):=by
  unfold SetTable.orStandIn
  split
  · exact h
  · exact h.stand n
theorem TabOk.layNew {b:Bool} {t:SetTable} (h:TabOk b t) (es:Array (Int × Value)) (k:Int) (x:Value):TabOk b (layNew t es k x).2.1:=by
  unfold PySem.layNew
  split
  · rename_i slot w e
    have hp:TabOk b (t.put slot).1:=⟨Qr h.up (XX h.no e),by
      show (if SetTable.has t.dummies slot = true then _ else t.dummies) = #[]
      rw [h.no,yK]
      rfl,h.led⟩
    exact hp.or _
  · exact h.stand _
theorem Xf {α:Type} (m:Nat) (f:Nat -> Option α):(((List.range m).filterMap fun j=>(f j).map (j,·)).map (·.1)).Pairwise (· < ·):=by
  have hs:∀ l:List Nat,((l.filterMap fun j=>(f j).map (j,·)).map (·.1)).Sublist l:=fun l=>by
    induction l with
    | nil=>exact .slnil
    | cons x l ih=>
      rw [List.filterMap_cons]
      cases f x with
      | none=>exact ih.cons _
      | some y=>exact ih.cons₂ _
  exact List.Pairwise.sublist (hs _) List.pairwise_lt_range
theorem TabOk.relay {b:Bool} {t:SetTable} (h:TabOk b t) (es:Array (Int × Value)) (n:Nat):TabOk b (relayAll t es n).2.1:=by
  unfold relayAll
  split
  · rename_i t' order e
    dsimp only
    split
    · unfold SetTable.relaid SetTable.laid at e
      obtain ⟨owner,_,e2⟩:=Option.bind_eq_some_iff.mp e
      cases e2
      refine ⟨?_,rfl,h.led⟩
      exact Xf _ fun j=>owner.getD j none
    · exact h.stand _
  · exact h.stand _
theorem TabOk.fresh (b:Bool):TabOk b (.fresh 0 0 b):=⟨List.Pairwise.nil,rfl,rfl⟩
theorem QK {α:Type} {l:List α} {x:α} (h:l.Nodup) (hx:x ∉ l):(l ++ [x]).Nodup:=by
  rw [List.nodup_append]
  exact ⟨h,by simp,fun a ha b hb e=>hx (by rw [List.mem_singleton] at hb;rw [<- hb,<- e];exact ha)⟩
theorem yx {α β:Type} {R:α -> β -> Prop} {ys ys':List β} (p:ys'.Perm ys):∀ {xs:List α},Paired R xs ys -> ∃ xs',xs'.Perm xs /\ Paired R xs' ys':=by
  induction p with
  | nil=>intro xs h;exact ⟨xs,.refl _,h⟩
  | cons y _ ih=>
    intro xs h
    cases h with
    | cons r t=>
      obtain ⟨xs',p',h'⟩:=ih t
      exact ⟨_ :: xs',p'.cons _,.cons r h'⟩
  | swap y z l=>
    intro xs h
    cases h with
    | cons r t=>
      cases t with
      | cons r2 t2=>exact ⟨_,.swap _ _ _,.cons r2 (.cons r t2)⟩
  | trans _ _ ih1 ih2=>
    intro xs h
    obtain ⟨x1,p1,h1⟩:=ih2 h
    obtain ⟨x2,p2,h2⟩:=ih1 h1
    exact ⟨x2,p2.trans p1,h2⟩
theorem vw {α β:Type} {R:α -> β -> Prop} {x:α} {y:β} (r:R x y):∀ {xs:List α} {ys:List β},Paired R xs ys -> Paired R (xs ++ [x]) (ys ++ [y])
  | _,_,.nil=>.cons r .nil
  | _,_,.cons h t=>.cons h (vw r t)
theorem vv {α β:Type} {R:α -> β -> Prop}:∀ {xs:List α} {ys:List β},Paired R xs ys -> (∀ x ∈ xs,∃ y ∈ ys,R x y) /\ ∀ y ∈ ys,∃ x ∈ xs,R x y
  | _,_,.nil=>⟨fun x h=>(nomatch h),fun y h=>(nomatch h)⟩
  | _,_,.cons h t=>by
    obtain ⟨a,b⟩:=vv t
    refine ⟨fun x hx=>?_,fun y hy=>?_⟩
    · rcases List.mem_cons.mp hx with z | z
      · rw [z];exact ⟨_,List.mem_cons_self,h⟩
      · obtain ⟨y,hy,r⟩:=a x z
        exact ⟨y,List.mem_cons_of_mem _ hy,r⟩
    · rcases List.mem_cons.mp hy with z | z
      · rw [z];exact ⟨_,List.mem_cons_self,h⟩
      · obtain ⟨x,hx,r⟩:=b y z
        exact ⟨x,List.mem_cons_of_mem _ hx,r⟩
section
variable {prog:Program} {w:World} {K:Type} [DecidableEq K] (knd:KeyKind prog w K)
def ElX (es:List (Int × Value)) (ks:List K):Prop:=ElemsOf knd es /\ ∃ ks',ks'.Perm ks /\ Paired (fun k (e:Int × Value)=>knd.is k e.2 = true) ks' es
def ObX (b:Bool) (o:Obj) (ks:List K):Prop:=∃ es ep t,o.ExactSet /\ o.data = .set es ep t /\ ElX knd es.toList ks /\ ks.Nodup /\ es.size < scanBound /\ t.fits es.size = true /\ TabOk b t
def SetX (b:Bool) (h:Heap) (a:Addr) (ks:List K):Prop:=∃ o,h.get? a = some o /\ ObX knd b o ks
variable {knd}
theorem ElX.perm {es es':List (Int × Value)} {ks:List K} (h:ElX knd es ks) (p:es'.Perm es):ElX knd es' ks:=by
  obtain ⟨h1,ks',p',pr⟩:=h
  obtain ⟨ks2,p2,pr2⟩:=yx p pr
  exact ⟨h1.perm p,ks2,p2.trans p',pr2⟩
theorem ElX.len {es:List (Int × Value)} {ks:List K} (h:ElX knd es ks):es.length = ks.length:=by
  obtain ⟨_,ks',p',pr⟩:=h
  rw [<- p'.length_eq]
  exact (Paired.length pr).symm
theorem ElX.mem {es:List (Int × Value)} {ks:List K} (h:ElX knd es ks) (k:K):k ∈ ks ↔ ∃ e ∈ es,knd.is k e.2 = true:=by
  obtain ⟨_,ks',p',pr⟩:=h
  obtain ⟨a,b⟩:=vv pr
  rw [<- p'.mem_iff]
  refine ⟨a k,fun ⟨e,he,r⟩=>?_⟩
  obtain ⟨k',hk,r'⟩:=b e he
  rwa [knd.inj _ _ _ r r']
theorem ElX.snoc {es:List (Int × Value)} {ks:List K} (h:ElX knd es ks) {k:K} {x:Value} (hk:knd.is k x = true) (hx:x.scannable = true):ElX knd (es ++ [(knd.hash k,x)]) (ks ++ [k]):=by
  obtain ⟨h1,ks',p',pr⟩:=h
  exact ⟨h1.push hk hx,ks' ++ [k],p'.append_right _,vw (R:=fun k (e:Int × Value)=>knd.is k e.2 = true) hk pr⟩
theorem SetX.at {b:Bool} {h h':Heap} {a:Addr} {ks:List K} (x:SetX knd b h a ks) (k:∀ o,h.get? a = some o -> h'.get? a = some o):SetX knd b h' a ks:=let ⟨o,e,r⟩:=x;⟨o,k o e,r⟩
variable {A:Around} {E:Value -> Shared -> Prop} {s:Shared}
theorem Wf {b:Bool} {h:Heap} {a:Addr} {o:Obj} {es:Array (Int × Value)} {ep:Nat} {t:SetTable} (ho:h.get? a = some o) (hex:o.ExactSet) (hd:o.data = .set es ep t) {es':Array (Int × Value)} {t':SetTable} {ks:List K} (el:ElX knd es'.toList ks) (nd:ks.Nodup)
    (hb:es'.size < scanBound) (hf:t'.fits es'.size = true) (tb:TabOk b t'):∃ o',(h.update a (Obj.putSet es' t')).get? a = some o' /\ o'.ExactSet /\ o'.data = .set es' (ep + 1) t' /\ ObX knd b o' ks:=by
  have g:=Heap.get?_update_self (Obj.putSet es' t') ho (by rw [putSet_of es' t' hd];rfl)
  rw [putSet_of es' t' hd] at g
  exact ⟨_,g,hex,rfl,es',ep + 1,t',hex,rfl,el,nd,hb,hf,tb⟩
theorem X5 {b:Bool} {g:Bool -> Sem Unit} (hg:∀ (c:Bool) (s1:Shared) (Q':Unit -> Shared -> Prop),Q' () s1 -> wpAny (model prog w) A (g c) Q' E s1) {a:Addr} {o:Obj} {es:Array (Int × Value)} {ep:Nat} {t:SetTable} (ho:s.heap.get? a = some o) (hex:o.ExactSet)
    (hd:o.data = .set es ep t) {es1:Array (Int × Value)} {t2:SetTable} {ks:List K} (el:ElX knd es1.toList ks) (nd:ks.Nodup) (hb:es1.size < scanBound) (hf:t2.fits es1.size = true) (tb:TabOk b t2) {wasDummy:Bool} {R:Option Bool -> Shared -> Prop}
    (h:∀ h',Heap.SameBut a s.heap h' -> SetX knd b h' a ks -> R (some true) { s with heap:=h' }) :
    wpAny (model prog w) A (storeSet a es1 t2 >>= fun _=>if (!wasDummy && t2.tooFull) = true then g (relayAll t2 es1 (SetTable.grown es1.size)).2.2 >>= fun _=>storeSet a (relayAll t2 es1 (SetTable.grown es1.size)).1 (relayAll t2 es1 (SetTable.grown es1.size)).2.1 >>= fun _=>pure (some true) else pure (some true)) R E s:=by
  obtain ⟨o1,g1,x1,d1,ob1⟩:=Wf ho hex hd el nd hb hf tb
  have sb:=Heap.SameBut.update s.heap a (Obj.putSet es1 t2)
  refine wpAny_bind (wpAny_storeSet_of ho hd ?_ (fits_of_scanBound hb))
  split
  · have pm:=relayAll_perm t2 es1 (SetTable.grown es1.size)
    have ft:=relayAll_fits t2 es1 (SetTable.grown es1.size)
    have tr:=tb.relay es1 (SetTable.grown es1.size)
    have sz:(relayAll t2 es1 (SetTable.grown es1.size)).1.size = es1.size:=by have:=pm.length_eq;rwa [Array.length_toList,Array.length_toList] at this
    obtain ⟨o2,g2,x2,d2,ob2⟩:=Wf g1 x1 d1 (el.perm pm) nd (by rw [sz];exact hb) ft tr
    exact wpAny_bind (hg _ _ _ (wpAny_bind (wpAny_storeSet_of g1 d1 (wpAny_pure (h _ (sb.trans (Heap.SameBut.update _ a _)) ⟨o2,g2,ob2⟩)) (fits_of_scanBound (by rw [sz];exact hb)))))
  · exact wpAny_pure (h _ sb ⟨o1,g1,ob1⟩)
theorem Wy {b:Bool} {a:Addr} {ks:List K} {k:K} {x:Value} {Q:Bool -> Shared -> Prop} (hkey:knd.is k x = true) (hsc:x.scannable = true) (hS:SetX knd b s.heap a ks) (hroom:ks.length + 1 < scanBound)
    (h:∀ h' c,Heap.SameBut a s.heap h' -> SetX knd b h' a (if k ∈ ks then ks else ks ++ [k]) -> Q c { s with heap:=h' }):wpAny (model prog w) A (setAddHashed a x (knd.hash k)) Q E s:=by
  obtain ⟨o,ho,es,ep,t,hex,hd,el,nd,hb,hf,tb⟩:=hS
  have ln:=el.len
  rw [Array.length_toList] at ln
  unfold setAddHashed setAddHashedIn;refine wpAny_holding (wpAny_bind (wpAny_setState_of ho hd hf ?_));dsimp only
  rw [byScan_of hsc hb el.1,if_pos rfl]
  unfold setAddByScan
  refine wpAny_bind (wpAny_bind (wpAny_rule (wpAny_bind (wpAny_setScan_of hkey ho hd hf el.1 ?_))))
  cases hr:List.findIdx? (fun e=>knd.is k e.2) es.toList with
  | some j=>
    obtain ⟨hj,hpj,_⟩:=List.findIdx?_eq_some_iff_getElem.mp hr
    have hk:k ∈ ks:=(el.mem k).mpr ⟨_,List.getElem_mem hj,hpj⟩
    have:=h s.heap false (Heap.SameBut.refl a s.heap) (by rw [if_pos hk];exact ⟨o,ho,es,ep,t,hex,hd,el,nd,hb,hf,tb⟩)
    exact wpAny_pure (wpAny_pure this)
  | none=>
    have hk:k ∉ ks:=fun z=>by
      obtain ⟨e,he,r⟩:=(el.mem k).mp z
      have:=List.findIdx?_eq_none_iff.mp hr e he
      rw [r] at this
      cases this
    rw [if_neg hk] at h
    have gw:∀ (c:Bool) (s1:Shared) (Q':Unit -> Shared -> Prop),Q' () s1 -> wpAny (model prog w) A (match c with | true=>rule "set.scan.the-table-gave-way" | false=>pure ()) Q' E s1:=fun c s1 Q' hq=>by
      cases c
      · exact wpAny_pure hq
      · exact wpAny_rule hq
    have pm:=layNew_perm t es (knd.hash k) x
    have ft:=layNew_fits t es (knd.hash k) x
    have tn:=tb.layNew es (knd.hash k) x
    generalize layNew t es (knd.hash k) x = L at pm ft tn
    obtain ⟨es1,t1,wd,gave⟩:=L
    dsimp only at pm ft tn ⊢
    rw [Array.toList_push] at pm
    have el1:ElX knd es1.toList (ks ++ [k]):=(el.snoc hkey hsc).perm pm
    have l1:=el1.len
    rw [Array.length_toList,List.length_append] at l1
    have hb1:es1.size < scanBound:=by rw [l1];exact hroom
    have nd1:(ks ++ [k]).Nodup:=QK nd hk
    refine wpAny_bind (gw _ _ _ ?_)
    split
    · rw [hashByValue_scannable 8 hsc]
      refine wpAny_bind (wpAny_pure (X5 gw ho hex hd el1 nd1 hb1 ?_ ?_ fun h' sb sx=>wpAny_pure (h h' true sb sx)))
      · split
        · exact ft
        · exact SetTable.fits_plain_off ft
      · split
        · exact tn
        · exact tn.plain
    · exact wpAny_bind (wpAny_pure (X5 gw ho hex hd el1 nd1 hb1 ft tn fun h' sb sx=>wpAny_pure (h h' true sb sx)))
end
def yG (w:World):Bool:=!w.params.followText "set-order"
def j6 (w:World):Obj:={ cls:=.type "set",dict:=none,data:=.set #[] 0 (.fresh 0 0 (yG w)) }
section
variable {K:Type} [DecidableEq K]
def qV (ks:List K) (k:K):List K:=if k ∈ ks then ks else ks ++ [k]
def jb (ks js:List K):List K:=js.foldl qV ks
theorem wq (ks:List K) (k:K):(qV ks k).length <= ks.length + 1:=by
  unfold qV
  split
  · omega
  · rw [List.length_append];exact Nat.le_refl _
theorem wX:∀ (js ks:List K),(jb ks js).length <= ks.length + js.length
  | [],ks=>Nat.le_refl _
  | j :: js,ks=>by
    have h1:=wX js (qV ks j)
    have h2:=wq ks j
    show (jb (qV ks j) js).length <= _
    rw [List.length_cons]
    omega
theorem Qt {ks js:List K} {i:Nat} {k:K} (h:js[i]? = some k):jb (qV ks k) (js.drop (i + 1)) = jb ks (js.drop i):=by
  obtain ⟨h1,h2⟩:=List.getElem?_eq_some_iff.mp h
  rw [List.drop_eq_getElem_cons h1,h2]
  rfl
variable {prog:Program} {w:World} {knd:KeyKind prog w K} {A:Around} {R:Result -> Shared -> Prop} {it l S:Addr} {items:Array Value} {keys:List K} {b:Bool}
theorem Xk (hh:A.handled = none) (hil:l ≠ it) (hlS:l ≠ S) (hiS:it ≠ S) (hlen:keys.length = items.size) (hat:∀ (j:Nat) (u:Value),items[j]? = some u -> ∃ k,keys[j]? = some k /\ knd.is k u = true /\ u.scannable = true) :
    ∀ (m:Nat) (s:Shared) (i:Nat) (ks:List K),items.size - i = m -> i <= items.size -> s.heap.IsListIter it l i -> s.heap.IsList l items -> SetX knd b s.heap S ks -> ks.length + m + 1 < scanBound ->
      (∀ h' tk,SetX knd b h' S (jb ks (keys.drop i)) -> (∀ c o,c ≠ it -> c ≠ S -> s.heap.get? c = some o -> h'.get? c = some o) -> R (.ok (.ret .none)) { s with heap:=h',toks:=tk }) ->
      codeAny (model prog w) A (.builtin "set.update.loop" ⟨[.ref S,.ref it],[]⟩) R s:=by
  intro m
  induction m with
  | zero=>
    intro s i ks hm hi ii il sx hz q
    have hend:items[i]? = none:=by simp;omega
    refine codeAny_builtin PyProof.Rows.F.entry_set_update_loop ?_
    rw [Around.under_plainId PyProof.Rows.F.plain_set_update_loop _]
    refine wpAny_bind (wpAny_pyNext_list_end hh ii il hend fun h' hx=>wpAny_pure ?_)
    have e0:jb ks (keys.drop i) = ks:=by rw [List.drop_eq_nil_of_le (by omega)];rfl
    exact q h' s.toks (by rw [e0];exact sx.at fun o e=>hx S o (Ne.symm hiS) e) fun c o hc _ e=>hx c o hc e
  | succ m ih=>
    intro s i ks hm hi ii il sx hz q
    have hlt:i < items.size:=by omega
    obtain ⟨u,hu⟩:∃ u,items[i]? = some u:=⟨_,Array.getElem?_eq_getElem hlt⟩
    obtain ⟨k,ek,kk,sc⟩:=hat i u hu
    refine codeAny_builtin PyProof.Rows.F.entry_set_update_loop ?_
    rw [Around.under_plainId PyProof.Rows.F.plain_set_update_loop _]
    refine wpAny_bind (wpAny_pyNext_list_item ii il hu fun h1 i1 s1=>?_)
    have k1:∀ c o,c ≠ it -> s.heap.get? c = some o -> h1.get? c = some o:=fun c o hc e=>(s1.2 c hc).trans e
    refine wpAny_bind (wpAny_holding (show wpAny _ _ (setAdd S u) _ _ _ from wpAny_holding (wpAny_bind (knd.pyHash kk ?_))))
    refine Wy (s:={ s with heap:=h1,toks:=s.toks + 1 }) kk sc (sx.at fun o e=>k1 S o (Ne.symm hiS) e) (by omega) fun h2 c sb sx2=>?_
    have k2:∀ c o,c ≠ it -> c ≠ S -> s.heap.get? c = some o -> h2.get? c = some o:=fun c o hc hc' e=>(sb.2 c hc').trans (k1 c o hc e)
    have lk:=wq ks k
    refine wpAny_pure ⟨plainId_quiet PyProof.Rows.F.plain_set_update_loop _,?_⟩
    refine ih { s with heap:=h2,toks:=s.toks + 1 } (i + 1) (qV ks k) (by omega) hlt (i1.at fun o e=>(sb.2 it hiS).trans e) (il.at fun o e=>k2 l o hil hlS e) sx2 (by omega) fun h' tk sx' kp=>?_
    exact q h' tk (by rw [<- Qt ek];exact sx') fun c o hc hc' e=>kp c o hc hc' (k2 c o hc hc' e)
end
section
variable {prog:Program} {w:World} {A:Around} {E:Value -> Shared -> Prop} {s:Shared}
theorem Xg {T newId initId:String} {args:List Value} {Q Q1:Value -> Shared -> Prop} (ft:TypeCalled T newId initId) (hct:checkTypeCall T ⟨args,[]⟩ = pure ())
    (hnew:codeAny (model prog w) A.in1 (.call (.builtin newId) ⟨.type T :: args,[]⟩) (wants Q1 E) s)
    (hnext:∀ u s1,Q1 u s1 -> s1.TypeIs u T /\ codeAny (model prog w) A.in1 (.call (.builtin initId) ⟨u :: args,[]⟩) (wants (fun r s2=>r = .none /\ Q u s2) E) s1) :
    wpAny (model prog w) A (call (.type T) args) Q E s:=by
  obtain ⟨c,tl,m1⟩:=ft.mro
  have m2:=ft.made
  have m3:=ft.sub
  have m4:=ft.notType
  have m5:=ft.canCreate
  refine wpAny_call (codeAny_of_tree (show wpAny _ _ (callAny (.type T) _) _ _ _ from wpAny_pure ⟨Code.quiet_builtin _ (by decide +kernel),codeAny_builtin F.entry_type_call ?_⟩))
  rw [Around.under_plain (weight_type_call_type T args []) rfl]
  repeat' (first | assumption | wp_step)
  refine codeAny_mono hnew fun r s1 hr=>?_
  match r,hr with
  | .error e,hr=>exact hr
  | .ok (.ret u),hr=>
    obtain ⟨ty,ci⟩:=hnext _ _ hr
    have m6:=ft.init.lookup
    have m7:=ft.init.bind u
    repeat' (first | assumption | wp_step)
    refine codeAny_mono ci fun r2 s2 hr2=>?_
    match r2,hr2 with
    | .error e,hr2=>exact hr2
    | .ok (.ret v),⟨ev,hq⟩=>
      subst ev
      repeat' (first | assumption | wp_step)
theorem JJ (x:Value) {Q1:Value -> Shared -> Prop} (h:Q1 (.ref s.heap.objs.size) { s with heap:=s.heap.push (j6 w) }) :
    codeAny (model prog w) A (.call (.builtin "set.__new__") ⟨[.type "set",x],[]⟩) (wants Q1 E) s:=by
  refine codeAny_call_builtin F.plain_set_new F.entry_set_new (wpAny_of_eq (F.newCall_set_1 x) ?_)
  unfold Builtin.«set.__new__» Builtin.Frozenset.newClass
  have m1:=sub_set_self
  obtain ⟨hp,g,d,tk,os⟩:=s
  dsimp only
  wp_walk
  refine wpAny_askSetting (wpAny_pure ?_)
  simp only [newObj]
  exact wpAny_bind (wpAny_alloc (wpAny_pure (wpAny_pure h)))
end
section
variable {prog:Program} {w:World} {K:Type} [DecidableEq K] {knd:KeyKind prog w K} {A:Around} {E:Value -> Shared -> Prop} {s:Shared}
theorem yr (h:Heap):SetX knd (yG w) (h.push (j6 w)) h.objs.size []:=
  ⟨j6 w,Heap.get?_push_size _ rfl,#[],0,_,⟨rfl,rfl,rfl⟩,rfl,⟨fun e he=>by simp at he,[],.refl _,.nil⟩,List.nodup_nil,by decide,rfl,TabOk.fresh _⟩
theorem QQ {l:Addr} {items:Array Value} {n:Nat} {keys:List K} {Q:Value -> Shared -> Prop} (hh:A.handled = none) (hl:s.heap.get? l = some { cls:=.type "list",data:=.seq items n }) (hlen:keys.length = items.size) (hb:items.size + 1 < scanBound)
    (hat:∀ (j:Nat) (u:Value),items[j]? = some u -> ∃ k,keys[j]? = some k /\ knd.is k u = true /\ u.scannable = true)
    (h:∀ h' tk,SetX knd (yG w) h' s.heap.objs.size (jb [] keys) -> (∀ c o,s.heap.get? c = some o -> h'.get? c = some o) -> Q (.ref s.heap.objs.size) { s with heap:=h',toks:=tk }) :
    wpAny (model prog w) A (call (.type "set") [.ref l]) Q E s:=by
  refine Xg (Q1:=fun u s1=>u = .ref s.heap.objs.size /\ s1 = { s with heap:=s.heap.push (j6 w) }) F.called_set (F.typeCall_set_1 (.ref l)) (JJ (.ref l) ⟨rfl,rfl⟩) fun u s1 e=>?_
  obtain ⟨eu,es⟩:=e
  subst eu es
  have hS:(s.heap.push (j6 w)).get? s.heap.objs.size = some (j6 w):=Heap.get?_push_size _ rfl
  have hT:Shared.TypeIs { s with heap:=s.heap.push (j6 w) } (.ref s.heap.objs.size) "set" :=⟨_,hS,rfl⟩
  have hl1:=Heap.get?_push_of_some (j6 w) hl
  refine ⟨hT,codeAny_call_builtin F.called_set.init.plain F.entry_set_init (check_set_init_1 hT ?_)⟩
  have m1:=F.sub_list_set
  have m2:=F.sub_list_frozenset
  have m3:(Value.type "list" == Value.type "dict") = false:=by decide
  have hlS:l < s.heap.objs.size:=Heap.lt_size hl
  unfold j6 at hS hT hl1
  unfold Builtin.«set.__init__» noKeywords Builtin.Frozenset.updateFrom j6
  generalize hPI:pyIter = PI
  wp_walk
  subst hPI
  refine wpAny_pyIter_list ⟨_,hl1,rfl,n,rfl⟩ (wpAny_bind (wpAny_runValue ?_))
  have hh3:A.in1.in1.in1.handled = none:=by simp [hh]
  have sz:(s.heap.push (j6 w)).objs.size = s.heap.objs.size + 1:=Heap.size_push ..
  have lt1:∀ c o,s.heap.get? c = some o -> c < s.heap.objs.size:=fun c o e=>Heap.lt_size e
  refine Xk (knd:=knd) (b:=yG w) (A:=A.in1.in1) (S:=s.heap.objs.size) (it:=(s.heap.push (j6 w)).objs.size) (l:=l) (items:=items) (keys:=keys) hh3 (by rw [sz];exact Nat.ne_of_lt (Nat.lt_succ_of_lt hlS)) (Nat.ne_of_lt hlS) (by rw [sz];exact Nat.ne_of_gt (Nat.lt_succ_self _)) hlen hat items.size
    ⟨(s.heap.push (j6 w)).push { cls:=.type "list_iterator",data:=.fields #[.ref l,.int 0 0] },s.gens,s.drawn,s.toks,s.os⟩ 0 [] rfl (Nat.zero_le _) ⟨_,Heap.get?_push_size _ rfl,rfl,rfl⟩ ⟨_,Heap.get?_push_of_some _ hl1,rfl,n,rfl⟩ ((yr s.heap).at fun o e=>Heap.get?_push_of_some _ e) (by rw [List.length_nil];omega) fun h' tk sx kp=>?_
  refine wpAny_pure (wpAny_pure ⟨rfl,h h' tk (by simpa using sx) fun c o e=>?_⟩)
  have:=lt1 c o e
  exact kp c o (by rw [sz];exact Nat.ne_of_lt (Nat.lt_succ_of_lt this)) (Nat.ne_of_lt this) (Heap.get?_push_of_some _ (Heap.get?_push_of_some _ e))
end
section
variable {M:Model} {A:Around} {E:Value -> Shared -> Prop} {s:Shared}
end
section
variable {prog:Program} {w:World} {A:Around} {E:Value -> Shared -> Prop} {h:Heap} {g:Array GenState} {d:Drawn} {tk:Nat} {os:OsState} {it a:Addr} {o:Obj} {es:Array (Int × Value)} {ep:Nat} {t:SetTable} {i:Nat}
end
section
variable {prog:Program} {w:World} {A:Around} {E:Value -> Shared -> Prop} {s:Shared} {a:Addr} {o:Obj} {es:Array (Int × Value)} {ep:Nat} {t:SetTable} {i sl:Nat}
end
section
variable {prog:Program} {w:World} {A:Around} {E:Value -> Shared -> Prop} {h:Heap} {g:Array GenState} {d:Drawn} {tk:Nat} {os:OsState} {it a T:Addr} {o oT:Obj} {es:Array (Int × Value)} {ep:Nat} {t:SetTable} {i n c:Nat} {ps:Array Value}
end
section
variable {prog:Program} {w:World} {A:Around} {E:Value -> Shared -> Prop} {s:Shared} {it:Addr} {oi:Obj}
end
section
variable {prog:Program} {w:World} {A:Around}
variable {it a T:Addr} {o oT:Obj} {es:Array (Int × Value)} {ep c:Nat} {t:SetTable}
end
section
variable {prog:Program} {w:World} {A:Around} {E:Value -> Shared -> Prop} {s:Shared} {a:Addr} {o:Obj} {es:Array (Int × Value)} {ep:Nat} {t:SetTable}
end
section
variable {prog:Program} {w:World} {A:Around} {E:Value -> Shared -> Prop} {s:Shared} {a:Addr} {o:Obj} {es:Array (Int × Value)} {ep:Nat} {t:SetTable}
end
section
variable {prog:Program} {w:World} {A:Around} {E:Value -> Shared -> Prop} {s:Shared} {a:Addr} {o:Obj} {es:Array (Int × Value)} {ep:Nat} {t:SetTable}
end
section
variable {X:Cx}
def vm (P:Program) (w:World) (p:Addr) (ks:List Key):HO:=.ext fun h=>SetX (qJ P w) (yG w) h p ks
inductive xM (P:Program) (w:World) (xs:List V) (H:Hp) (Q:VK):Prop
  | mk (a:Addr) (ks:List Key) (_:xs = [.ref a]) (_:H a = some (.lst (ks.map kV))) (_:ks.length <= 4000) (_:∀ p,H p = none -> Q (.ref p) (upd H p (vm P w p (jb [] ks)))):xM P w xs H Q
theorem QR (hh:X.A.handled = none):CallR X (.type "set") (xM X.prog X.w):=by
  intro pins s σ H xs us Q I r h
  obtain ⟨a,ks,rfl,hx,hl,q⟩:=h
  obtain ⟨u,rfl,ru⟩:=Vals.one r
  cases (show u = Value.ref a from ru)
  obtain ⟨zz,its,n,rel,hg⟩:=(show ObjOk X.prog X.w H s.heap a (.lst (ks.map kV)) from I.hok a _ hx)
  have ln:=rel.length
  rw [List.length_map] at ln
  have hn:H s.heap.objs.size = none:=I.hok.fresh (Nat.le_refl _)
  have sb:scanBound = 4096:=rfl
  refine QQ (knd:=qJ X.prog X.w) (keys:=ks) hh hg (by simp [ln]) (by simp;omega) (fun j u e=>?_) fun h' tk sx k=>?_
  · rw [List.getElem?_toArray] at e
    obtain ⟨x,ex,rx⟩:=Vals.at rel e
    rw [List.getElem?_map] at ex
    obtain ⟨kk,ek,rfl⟩:=Option.map_eq_some_iff.mp ex
    refine ⟨kk,ek,ZY rx,?_⟩
    cases kk with
    | inl i=>obtain ⟨t,rfl⟩:=rx;rfl
    | inr i=>obtain ⟨t,rfl⟩:=rx;rfl
  · refine ⟨.ref s.heap.objs.size,_,I.laid (a:=s.heap.objs.size) (o:=vm X.prog X.w s.heap.objs.size (jb [] ks)) (t':=tk) k (Nat.le_refl _) ⟨sx,?_,fun h1 h2 x e=>x.at e⟩,rfl,q _ hn⟩
    obtain ⟨o,e,_⟩:=sx
    exact ⟨o,e⟩
end
theorem Inv.drawn {X:Cx} {pins:List (Addr × Obj)} {σ:St} {H:Hp} {s:Shared} (I:Inv X pins σ H s) (d:Drawn):Inv X pins σ H { s with drawn:=d }:=
  I.call' (s':={ s with drawn:=d }) (ch:=[]) rfl Un.refl I.hok I.bare fun b hb=>(nomatch hb)
section
variable {X:Cx}
end
section
variable {X:Cx} {elt iter1 iter:Expr} {ifs1 ifs:List Expr} {scope:Scope} {pos:Pos} {wi wi1:TI} {tf tf1:TT} {te:TE} {x y z u:Str} {px py pz pu tp tp2:Pos} {kk kk2:Nat}
inductive wy (K:PySem.W.Frag) (x:V) (y:V) (H:Hp) (Q:VK):Prop
  | mk (a b:Addr) (ns ms:List Int) (_:x = .ref a) (_:y = .ref b) (_:SqL K H a (ns.map V.int)) (_:SqL K H b (ms.map V.int)) (_:Q (.bl (decide (ns = ms))) H):wy K x y H Q
theorem ZT (hu:X.A.units < cLine):OpR X (compareOp .Eq) (wy X.K):=by
  intro pins s σ H x y v u Q I rx ry h
  obtain ⟨a,b,ns,ms,rfl,rfl,hx,hy,q⟩:=h
  cases rx
  cases ry
  obtain ⟨its1,r1,p1,z1⟩:=I.list hx
  obtain ⟨its2,r2,p2,z2⟩:=I.list hy
  have l1:=r1.length
  have l2:=r2.length
  rw [List.length_map] at l1 l2
  by_cases hl:ns.length = ms.length
  · refine SeqAt.RcAt.lists (e:=fun j=>decide (ns.getD j 0 = ms.getD j 0)) p1.isList p2.isList (by rw [List.size_toArray,List.size_toArray];omega) hu (fun j h1 h2=>?_) _ _ _ _ ⟨.bl _,H,I,rfl,?_⟩
    · have h1':j < ns.length:=by rw [List.size_toArray] at h1;omega
      have h2':j < ms.length:=by omega
      obtain ⟨w1,e1,q1⟩:=r1.get (i:=j) (x:=.int ns[j]) (by simp [h1'])
      obtain ⟨w2,e2,q2⟩:=r2.get (i:=j) (x:=.int ms[j]) (by simp [h2'])
      have g1:its1.toArray[j] = w1:=by simpa using (List.getElem?_eq_some_iff.mp e1).2
      have g2:its2.toArray[j] = w2:=by simpa using (List.getElem?_eq_some_iff.mp e2).2
      rw [g1,g2,show ns.getD j 0 = ns[j] by simp [h1'],show ms.getD j 0 = ms[j] by simp [h2']]
      exact Zp q1 q2 rfl rfl
    · have e:((List.range its1.toArray.size).all fun j=>decide (ns.getD j 0 = ms.getD j 0)) = decide (ns = ms):=by
        rw [List.size_toArray,<- l1,Bool.eq_iff_iff,List.all_eq_true,decide_eq_true_iff]
        constructor
        · intro h
          refine List.ext_getElem hl fun j h1 h2=>?_
          have:=of_decide_eq_true (h j (List.mem_range.mpr h1))
          simpa [h1,h2] using this
        · intro h j _
          rw [h]
          exact decide_eq_true rfl
      rw [e]
      exact q
  · rw [decide_eq_false (fun e=>hl (by rw [e]))] at q
    exact SeqAt.RcAt.lists_lengths p1.isList p2.isList (by rw [List.size_toArray,List.size_toArray];simpa using fun e=>hl (by omega)) hu _ _ _ _ ⟨.bl _,H,I,rfl,q⟩
variable {oo e:Expr} {ees:List Expr} {to:TE} {tt:TA} {name:Str} {apos cpos:Pos} {T id:String} {r:V -> List V -> Hp -> VK -> Prop}
end
end L2
namespace L2
open PySem PySem.Spec PyProof.Rows PySem.W
def KRun {α:Type} (bt:Nat -> Nat -> Bool) (n:Nat):KasT α -> (α -> Prop) -> Prop
  | .ret a,Q=>Q a
  | .ask i j k,Q=>i < n /\ j < n /\ KRun bt n (k (bt i j)) Q
theorem KRun.mono {α:Type} {bt:Nat -> Nat -> Bool} {n:Nat} {Q Q':α -> Prop} (h:∀ a,Q a -> Q' a):∀ {t:KasT α},KRun bt n t Q -> KRun bt n t Q'
  | .ret a,x=>h a x
  | .ask i j k,⟨a,b,c⟩=>⟨a,b,KRun.mono h c⟩
theorem KRun.bind {α β:Type} {bt:Nat -> Nat -> Bool} {n:Nat} {f:α -> KasT β} {Q:β -> Prop}:∀ {t:KasT α},KRun bt n t (fun a=>KRun bt n (f a) Q) -> KRun bt n (t.bind f) Q
  | .ret a,x=>x
  | .ask i j k,⟨a,b,c⟩=>⟨a,b,KRun.bind c⟩
theorem KRun.wp {α:Type} {bt:Nat -> Nat -> Bool} {n:Nat} {ask:Nat -> Nat -> (Bool -> Shared -> Prop) -> Shared -> Prop} {J:Shared -> Prop} {Q:α -> Prop} {G:α -> Shared -> Prop}
    (ha:∀ i j,i < n -> j < n -> ∀ (C:Bool -> Shared -> Prop) s,J s -> (∀ s',J s' -> C (bt i j) s') -> ask i j C s) (hg:∀ a s,Q a -> J s -> G a s):∀ {t:KasT α} {s:Shared},KRun bt n t Q -> J s -> t.kasWp ask G s
  | .ret a,s,x,j=>hg a s x j
  | .ask i j k,s,⟨a,b,c⟩,js=>ha i j a b _ s js fun s' js'=>KRun.wp ha hg c js'
section
variable {n:Nat} {r:Nat -> Nat}
def vA (r:Nat -> Nat) (p:Array Nat) (k:Nat):Nat:=r (p.getD k 0)
structure Gd (n:Nat) (p:Array Nat):Prop where
  pm:p.toList.Perm (List.range n)
theorem Gd.sz {p:Array Nat} (g:Gd n p):p.size = n:=by have:=g.pm.length_eq;rwa [Array.length_toList,List.length_range] at this
theorem Gd.at {p:Array Nat} (g:Gd n p) {k:Nat} (h:k < n):p[k]? = some (p.getD k 0):=by
  rw [Array.getD_eq_getD_getElem?,Array.getElem?_eq_getElem (by rw [g.sz];exact h)]
  rfl
theorem Gd.lt {p:Array Nat} (g:Gd n p) (hn:0 < n) (k:Nat):p.getD k 0 < n:=by
  by_cases h:k < n
  · have:=g.at h
    rw [<- Array.getElem?_toList] at this
    exact List.mem_range.mp (g.pm.mem_iff.mp (List.mem_of_getElem? this))
  · rw [Array.getD_eq_getD_getElem?,Array.getElem?_eq_none (by rw [g.sz];omega)]
    exact hn
theorem Gd.inj {p:Array Nat} (g:Gd n p) (ri:∀ i j,i < n -> j < n -> r i = r j -> i = j) {i j:Nat} (hi:i < n) (hj:j < n) (e:vA r p i = vA r p j):i = j:=by
  have hn:0 < n:=by omega
  have h1:=ri _ _ (g.lt hn i) (g.lt hn j) e
  have nd:p.toList.Nodup:=g.pm.nodup_iff.mpr List.nodup_range
  have a1:=g.at hi
  have a2:=g.at hj
  rw [<- Array.getElem?_toList] at a1 a2
  obtain ⟨b1,c1⟩:=List.getElem?_eq_some_iff.mp a1
  obtain ⟨b2,c2⟩:=List.getElem?_eq_some_iff.mp a2
  exact (List.getElem_inj nd).mp (by rw [c1,c2,h1])
def AscA (r:Nat -> Nat) (p:Array Nat) (m:Nat):Prop:=∀ i j,i < j -> j < m -> vA r p i < vA r p j
def DscA (r:Nat -> Nat) (p:Array Nat) (m:Nat):Prop:=∀ i j,i < j -> j < m -> vA r p j < vA r p i
theorem AscA.step {p:Array Nat} {m:Nat} (h:AscA r p m) (h1:1 <= m) (h2:vA r p (m - 1) < vA r p m):AscA r p (m + 1):=fun i j hij hj=>by
  by_cases e:j = m
  · subst e
    by_cases e2:i = j - 1
    · subst e2;exact h2
    · have:=h i (j - 1) (by omega) (by omega)
      omega
  · exact h i j hij (by omega)
theorem DscA.step {p:Array Nat} {m:Nat} (h:DscA r p m) (h1:1 <= m) (h2:vA r p m < vA r p (m - 1)):DscA r p (m + 1):=fun i j hij hj=>by
  by_cases e:j = m
  · subst e
    by_cases e2:i = j - 1
    · subst e2;exact h2
    · have:=h i (j - 1) (by omega) (by omega)
      omega
  · exact h i j hij (by omega)
variable {bt:Nat -> Nat -> Bool} (ri:∀ i j,i < n -> j < n -> r i = r j -> i = j) (hb:∀ i j,i < n -> j < n -> bt i j = decide (r i < r j))
include ri hb
end
end L2
namespace L2
open PySem PySem.Spec PyProof.Rows PySem.W
section
variable {prog:Program} {w:World} {A:Around} {E:Value -> Shared -> Prop} {s:Shared}
end
end L2
namespace L2
open PySem PySem.Spec PyProof.Rows PySem.W
section
variable {X:Cx} {pins:List (Addr × Obj)} {σ:St} {s:Shared}
end
end L2
namespace L2
open PySem PySem.Spec PyProof.Rows PySem.W
section
variable {X:Cx}
end
end L2
namespace L2
open PySem PySem.Spec PyProof.Rows
section
variable {X:Cx}
variable {elt iter:Expr} {ifs:List Expr} {scope:Scope} {pos:Pos} {wi:TI} {tf:TT} {te:TE} {x y z:Str} {px py pz tp:Pos} {kk:Nat}
end
section
variable {X:Cx}
end
section
variable {X:Cx} {elt tg iter:Expr} {ifs:List Expr} {scope:Scope} {pos:Pos} {wi:TI} {g:TG} {tf:TT} {te:TE} {x:Str}
end
end L2
namespace L2
open PySem PySem.Spec PyProof.Rows PySem.W
section
variable {prog:Program} {w:World} {A:Around} {E:Value -> Shared -> Prop} {s:Shared}
end
end L2
namespace L2
open PySem PySem.Spec PyProof.Rows PySem.W
def PrR (H:Hp) (zs:List V) (ps:List (Int × Int)):Prop:=zs.length = ps.length /\ ∀ (j:Nat) q,ps[j]? = some q -> ∃ T,zs[j]? = some (.ref T) /\ H T = some (.tup [.int q.1,.int q.2])
theorem PrR.nil {H:Hp}:PrR H [] []:=⟨rfl,fun j q e=>by simp at e⟩
theorem PrR.same {H H':Hp} {zs:List V} {ps:List (Int × Int)} (h:PrR H zs ps) (s:Same H H'):PrR H' zs ps:=⟨h.1,fun j k e=>let ⟨T,a,b⟩:=h.2 j k e;⟨T,a,s _ _ b⟩⟩
theorem PrR.snoc {H:Hp} {zs:List V} {ps:List (Int × Int)} {q:Int × Int} {T:Addr} (h:PrR H zs ps) (e:H T = some (.tup [.int q.1,.int q.2])):PrR H (zs ++ [.ref T]) (ps ++ [q]):=by
  refine ⟨by rw [List.length_append,List.length_append,h.1];rfl,fun j r hr=>?_⟩
  by_cases hj:j < ps.length
  · rw [List.getElem?_append_left hj] at hr
    obtain ⟨U,e1,e2⟩:=h.2 j r hr
    exact ⟨U,by rw [List.getElem?_append_left (by rw [h.1];exact hj)];exact e1,e2⟩
  · have hl:=(List.getElem?_eq_some_iff.mp hr).1
    rw [List.length_append] at hl
    have ej:j = ps.length:=by simp at hl;omega
    subst ej
    rw [List.getElem?_append_right (Nat.le_refl _),Nat.sub_self] at hr
    have:q = r:=by simpa using hr
    subst this
    exact ⟨T,by rw [<- h.1,List.getElem?_append_right (Nat.le_refl _),Nat.sub_self];rfl,e⟩
section
variable {X:Cx}
end
end L2
namespace L2
open PySem PySem.Spec PyProof.Rows
section
variable {X:Cx}
theorem vj {K:PySem.W.Frag} (h:X.K = K):SlR X (Vu K):=by rw [<- h];exact qG
end
section
variable {X:Cx}
end
section
variable {X:Cx}
theorem Zr {K:PySem.W.Frag} (h:X.K = K) (hc:X.calm = true):CallR X (.builtin "all") (jW K):=by subst h;exact qZ hc
end
section
variable {X:Cx}
end
theorem WO {X:Cx} {e0 e1 e2 e3 e4 e5 e6 e7 e8 e9:Expr} {t0 t1 t2 t3 t4 t5 t6 t7 t8 t9:TE} (h0:PE X e0 t0) (h1:PE X e1 t1) (h2:PE X e2 t2) (h3:PE X e3 t3) (h4:PE X e4 t4) (h5:PE X e5 t5) (h6:PE X e6 t6) (h7:PE X e7 t7) (h8:PE X e8 t8) (h9:PE X e9 t9) (h:([e0,e1,e2,e3,e4,e5,e6,e7,e8,e9]).all yB = true:=by rfl):PA X [e0,e1,e2,e3,e4,e5,e6,e7,e8,e9] (zL t0 (zL t1 (zL t2 (zL t3 (zL t4 (zL t5 (zL t6 (zL t7 (zL t8 (zL t9 wz)))))))))):=by
  have hz:=List.all_eq_true.mp h
  exact (za h0 (za h1 (za h2 (za h3 (za h4 (za h5 (za h6 (za h7 (za h8 (za h9 zb (zp (hz _ (by simp)))) (zp (hz _ (by simp)))) (zp (hz _ (by simp)))) (zp (hz _ (by simp)))) (zp (hz _ (by simp)))) (zp (hz _ (by simp)))) (zp (hz _ (by simp)))) (zp (hz _ (by simp)))) (zp (hz _ (by simp)))) (zp (hz _ (by simp))))
section
variable {X:Cx}
theorem QB (x:Str) (l u:Option Int):∀ c ∈ (Txt.slice x l u).cps.toList,c ∈ x.cps.toList:=by
  intro c hc
  unfold Txt.slice at hc
  split at hc
  · exact hc
  · obtain ⟨i,_,e⟩:=List.mem_filterMap.mp (List.mem_toArray.mp (Array.mem_toList_iff.mp hc))
    exact Array.mem_toList_iff.mpr (Array.mem_of_getElem? e)
inductive wu (x:V) (z1_:Option Int) (z2_:Option Int) (H:Hp) (Q:VK):Prop
  | mk (z:_) (_:x = .str z) (_:z.length <= sizeLine) (_:∀ y:Str,y.length <= z.length -> (∀ c ∈ y.cps.toList,c ∈ z.cps.toList) -> Q (.str y) H):wu x z1_ z2_ H Q
theorem jX:SlR X (wu):=by
  intro pins s σ H x v vl vu lo hi sl Q I rx hs pl pu h
  obtain ⟨z,rfl,hz,q⟩:=h
  obtain ⟨t,rfl⟩:=rx
  have le:∀ l u,(Txt.slice z l u).length <= sizeLine:=fun l u=>Nat.le_trans (Txt.slice_le z l u) hz
  have fin:∀ l u t' k,(EP X pins σ Q) (.str (Txt.slice z l u) t') { s with toks:=k }:=fun l u t' k=>⟨.str (Txt.slice z l u),H,I.tok _,⟨_,rfl⟩,q _ (Txt.slice_le z l u) (QB z l u)⟩
  refine ⟨"str",_,F.slot_str_getitem.lookup,typeIs_str _ _ _,?_⟩
  cases pl with
  | none=>
    cases pu with
    | none=>exact wpAny_getItem_str_slice (l:=none) (u:=none) (st:=none) hs rfl (post_val_or_str ⟨le _ _,fin none none⟩)
    | int j uj=>exact wpAny_getItem_str_slice (l:=none) (u:=some (j,uj)) (st:=none) hs rfl (post_val_or_str ⟨le _ _,fin none (some j)⟩)
  | int i ui=>
    cases pu with
    | none=>exact wpAny_getItem_str_slice (l:=some (i,ui)) (u:=none) (st:=none) hs rfl (post_val_or_str ⟨le _ _,fin (some i) none⟩)
    | int j uj=>exact wpAny_getItem_str_slice (l:=some (i,ui)) (u:=some (j,uj)) (st:=none) hs rfl (post_val_or_str ⟨le _ _,fin (some i) (some j)⟩)
end
def AtQ (K:PySem.W.Frag) (H:Hp) (t:Bool) (a:Addr) (xs:List V):Prop:=if t = true then SqT K H a xs else H a = some (.lst xs)
def SqQ (K:PySem.W.Frag) (H:Hp) (t:Bool) (a:Addr) (xs:List V):Prop:=if t = true then SqT K H a xs else SqL K H a xs
theorem AtQ.sq {K:PySem.W.Frag} {H:Hp} {t:Bool} {a:Addr} {xs:List V} (h:AtQ K H t a xs):SqQ K H t a xs:=by
  cases t with
  | true=>exact h
  | false=>exact SqL.of h
theorem AtQ.same {K:PySem.W.Frag} {H H':Hp} {t:Bool} {a:Addr} {xs:List V} (h:AtQ K H t a xs) (s:Same H H'):AtQ K H' t a xs:=by
  cases t with
  | true=>exact s.sqT h
  | false=>exact s _ _ h
def oQ (t:Bool) (xs:List V):HO:=if t = true then .tup xs else .lst xs
def Tkn (H:Hp) (ex:List Addr):Prop:=∀ e ∈ ex,∃ o,H e = some o
theorem Tkn.out {H:Hp} {ex:List Addr} {p:Addr} (h:Tkn H ex) (hp:H p = none):p ∉ ex:=fun z=>by
  obtain ⟨o,e⟩:=h p z
  rw [hp] at e
  cases e
theorem AtQ.new {K:PySem.W.Frag} {H:Hp} {ex:List Addr} {p:Addr} (T:Tkn H ex) (hp:H p = none) (t:Bool) (xs:List V):AtQ K (WX ex (upd H p (oQ t xs))) t p xs:=by
  have:=WX.at (T.out hp) (zd (H:=H) (a:=p) (o:=oQ t xs))
  cases t with
  | true=>exact SqT.of this
  | false=>exact this
section
variable {X:Cx}
theorem JC {x y:V} (pins:List (Addr × Obj)) (s:Shared) (σ:St) (H:Hp) (v u:Value) (Q:VK) (I:Inv X pins σ H s) (rx:RelV x v) (ry:RelV y u) (h:∃ a b ys,x = .ref a /\ y = .ref b /\ SqT X.K H a [] /\ SqT X.K H b ys /\ Q (.ref b) H) :
    wpAny (model X.prog X.w) X.A (binaryOp .Add v u) (EP X pins σ Q) X.xe s:=by
  obtain ⟨a,b,ys,rfl,rfl,ha,hb,q⟩:=h
  cases rx
  cases ry
  obtain ⟨i1,r1,p1,_⟩:=I.tuple ha
  obtain ⟨i2,r2,p2,_⟩:=I.tuple hb
  have hv:i1 = []:=r1.nil_iff.mpr rfl
  obtain ⟨⟨c1,d1,g1,l1⟩,o1,k1,n1,e1⟩:=p1
  obtain ⟨⟨c2,d2,g2,l2⟩,o2,k2,n2,e2⟩:=p2
  cases k1
  cases e1
  cases k2
  cases e2
  have m:=tuple_addW0 a b i1.toArray i2.toArray n1 n2 d1 d2 l1 l2 (by simp [hv])
  exact concat_meets ⟨_,o1,rfl⟩ ⟨_,o2,rfl⟩ noFill_tuple_add seq_tuple_add PySem.F.slot_tuple_add PySem.F.entry_tuple_add (PySem.F.args_tuple_add_2 _ _) m ⟨o1,o2,.ref b,H,I,rfl,q⟩
inductive Vh (K:PySem.W.Frag) (x:V) (y:V) (H:Hp) (Q:VK):Prop
  | mk (t:Bool) (a b:Addr) (xs ys:List V) (ex:List Addr) (_:x = .ref a) (_:y = .ref b) (_:Tkn H ex) (_:AtQ K (WX ex H) t a xs) (_:AtQ K (WX ex H) t b ys) (_:xs.length + ys.length <= sizeLine) (_:∀ c H',Same H H' -> AtQ K (WX ex H') t c (xs ++ ys) -> Q (.ref c) H'):Vh K x y H Q
theorem qQ:OpR X (binaryOp .Add) (Vh X.K):=by
  intro pins s σ H x y v u Q I rx ry h
  obtain ⟨t,a,b,xs,ys,ex,rfl,rfl,T,ha,hb,hz,q⟩:=h
  cases t with
  | false=>exact je pins s σ H _ _ v u Q I rx ry ⟨a,b,xs,ys,rfl,rfl,WX.le _ _ ha,WX.le _ _ hb,hz,fun p hp=>q p _ (ze hp) (AtQ.new T hp false _)⟩
  | true=>
    by_cases e:xs = []
    · subst e
      exact JC pins s σ H v u Q I rx ry ⟨a,b,ys,rfl,rfl,WX.le.sqT ha,WX.le.sqT hb,q b H (Same.refl _) hb⟩
    · refine Xz pins s σ H _ _ v u Q I rx ry ⟨a,b,xs,ys,rfl,rfl,WX.le.sqT ha,WX.le.sqT hb,e,hz,fun e2=>q a H (Same.refl _) ?_,fun _ p hp=>q p _ (ze hp) (AtQ.new T hp true _)⟩
      rw [e2,List.append_nil]
      exact ha
theorem QC {t sl:Addr} {items:Array Value} {vl vu:Value} {lo hi:Option Int} {prog:Program} {w:World} {A:Around} {E:Value -> Shared -> Prop} {s:Shared} {Q:Value -> Shared -> Prop} (ht:IsTup s.heap t items) (hs:s.heap.IsSliceOf sl vl vu .none) (pl:IsPart vl lo) (pu:IsPart vu hi)
    (h1:HT.sIx items.size 0 lo = 0) (h2:HT.sIx items.size items.size hi = items.size) (h:Q (.ref t) s):wpAny (model prog w) A (getItem (.ref t) (.ref sl)) Q E s:=by
  obtain ⟨os,hos,hcs,hds⟩:=id hs
  have hT:s.TypeIs (.ref sl) "slice" :=⟨os,hos,hcs⟩
  unfold getItem
  try with_reducible refine wpAny_holding ?_
  first | refine wpAny_bind (wpAny_pure ?_) | skip
  refine wpAny_bind (wpAny_sequenceKey ht.typeIs (by decide) ?_)
  refine wpAny_bind (wpAny_callSpecial?_slot (name:=Str.ofString "__getitem__") ht.typeIs slot_tuple_getitem (wpAny_call_entry slot_tuple_getitem ht.typeIs entry_tuple_getitem ?_ (args_tuple_getitem _ _)))
  refine wpAny_bind (m:=Builtin.Tuple.tupleItemsOf (.ref t)) (tupleItemsOf_ ht ?_)
  refine wpAny_bind (wpAny_typeOf hT ?_)
  rw [if_pos (by decide)]
  refine wpAny_bind (HT.sliceApplied_gen hs pl pu ?_)
  rw [h1,h2]
  have yes:((((0:Nat):Int) == 0 && (1:Int) == 1 && (items.size - 0) == items.size) = true):=by simp
  show wpAny _ _ (if (((0:Nat):Int) == 0 && (1:Int) == 1 && (items.size - 0) == items.size) = true then _ else _) _ _ s
  rw [if_pos yes]
  refine wpAny_bind (m:=Builtin.Tuple.tupleIsExact (.ref t)) (wpAny_bind (wpAny_typeOf ht.typeIs (wpAny_pure ?_)))
  rw [if_pos (by decide)]
  exact wpAny_bind (wpAny_rule (wpAny_pure ⟨_,rfl,wpAny_pure h⟩))
inductive We (K:PySem.W.Frag) (x:V) (lo:Option Int) (hi:Option Int) (H:Hp) (Q:VK):Prop
  | mk (t:Bool) (a:Addr) (xs:List V) (ex:List Addr) (_:x = .ref a) (_:Tkn H ex) (_:SqQ K (WX ex H) t a xs) (_:∀ c H',Same H H' -> AtQ K (WX ex H') t c (qg xs lo hi) -> Q (.ref c) H'):We K x lo hi H Q
theorem xS:SlR X (We X.K):=by
  intro pins s σ H x v vl vu lo hi sl Q I rx hs pl pu h
  obtain ⟨t,a,xs,ex,rfl,T,ha,q⟩:=h
  cases t with
  | false=>exact qG pins s σ H _ v vl vu lo hi sl Q I rx hs pl pu ⟨a,xs,rfl,WX.le.seq ha,fun p hp=>q p _ (ze hp) (AtQ.new T hp false _)⟩
  | true=>
    by_cases e:HT.sIx xs.length 0 lo = 0 /\ HT.sIx xs.length xs.length hi = xs.length
    · have ec:qg xs lo hi = xs:=by
        unfold qg
        rw [e.1,e.2,List.drop_zero,Nat.sub_zero,List.take_length]
      cases rx
      obtain ⟨its,r,ht,hz⟩:=I.tuple (WX.le.sqT ha)
      have hl:its.toArray.size = xs.length:=by rw [List.size_toArray];exact r.length.symm
      refine ⟨"tuple",_,slot_tuple_getitem.lookup,ht.typeIs,QC ht hs pl pu (by rw [hl];exact e.1) (by rw [hl];exact e.2) ⟨.ref a,H,I,rfl,q a H (Same.refl _) ?_⟩⟩
      rw [ec]
      exact ha
    · exact Vo pins s σ H _ v vl vu lo hi sl Q I rx hs pl pu ⟨a,xs,rfl,WX.le.sqT ha,e,fun p hp=>q p _ (ze hp) (AtQ.new T hp true _)⟩
end
section
variable {X:Cx}
end
section
variable {X:Cx}
theorem vM {K:PySem.W.Frag} (h:X.K = K):CallR X (.type "list") (ji K):=by
  rw [<- h]
  exact jG
theorem jg {K:PySem.W.Frag} (h:X.K = K):CallR X (.type "tuple") (qU K):=by
  rw [<- h]
  exact qw
end
end L2
namespace PySem
section
variable {prog:Program} {w:World} {A:Around} {d:Addr} {es:Array DictEntry} {ep:Nat}
end
end PySem
namespace L2
open PySem PySem.Spec PyProof.Rows
section
variable {X:Cx}
end
section
variable {X:Cx}
variable {o e:Expr} {es:List Expr} {to:TE} {t:TA} {name:Str} {apos cpos:Pos} {id:String} {r:V -> List V -> Hp -> VK -> Prop}
end
end L2
namespace L2
open PySem PySem.Spec PyProof.Rows PySem.W
section
variable {X:Cx}
end
section
variable {X:Cx}
end
end L2
namespace L2
open PySem PySem.Spec PyProof.Rows PySem.W
section
variable {X:Cx}
end
end L2
namespace L2
open PySem PySem.Spec PyProof.Rows PySem.W
section
variable {X:Cx}
end
end L2
namespace L2
open PySem PySem.Spec PyProof.Rows PySem.W
section
variable {prog:Program} {w:World} {A:Around} {E:Value -> Shared -> Prop} {s:Shared}
inductive QW (prog:Program) (w:World) (A:Around) (s:Shared):List Value -> List Value -> Bool -> Prop
  | nil:QW prog w A s [] [] false
  | nl {y ys}:QW prog w A s [] (y :: ys) true
  | ln {x xs}:QW prog w A s (x :: xs) [] false
  | eq {x y xs ys b} (h:∀ (Q:Bool -> Shared -> Prop) E,Q true s -> wpAny (model prog w) A (eqBool x y) Q E s) (t:QW prog w A s xs ys b):QW prog w A s (x :: xs) (y :: ys) b
  | ne {x y xs ys b} (h:∀ (Q:Bool -> Shared -> Prop) E,Q false s -> wpAny (model prog w) A (eqBool x y) Q E s) (g:∀ (Q:Value -> Shared -> Prop) E,Q (.bool b) s -> wpAny (model prog w) A (richCompare .Lt x y) Q E s):QW prog w A s (x :: xs) (y :: ys) b
theorem eq_int (x y:Int) (t u:Tok) {Q:Bool -> Shared -> Prop} (h:Q (decide (x = y)) s):wpAny (model prog w) A (eqBool (.int x t) (.int y u)) Q E s:=by
  refine (qJ prog w).eqBool (a:=Sum.inl x) (b:=Sum.inl y) (ZY ⟨t,rfl⟩) (ZY ⟨u,rfl⟩) ?_
  rw [show decide ((Sum.inl x:Key) = Sum.inl y) = decide (x = y) from decide_eq_decide.mpr ⟨fun z=>Sum.inl.inj z,fun z=>by rw [z]⟩]
  exact h
end
section
variable {prog:Program} {w:World} {A:Around} {R:Result -> Shared -> Prop} {I S:Addr} {fp wr:List Addr} {n:Nat} {P:Nat -> Value -> Prop} {St:Nat -> Heap -> Prop}
end
end L2
namespace L2
open PySem PySem.Spec PyProof.Rows PySem.W
def WkR (H:Hp) (zs:List V) (ps:List (Int × List Int)):Prop:=zs.length = ps.length /\ ∀ (j:Nat) q,ps[j]? = some q -> ∃ T U,zs[j]? = some (.ref T) /\ H T = some (.tup [.int q.1,.ref U]) /\ H U = some (.tup (q.2.map V.int))
theorem WkR.nil {H:Hp}:WkR H [] []:=⟨rfl,fun j q e=>by simp at e⟩
theorem WkR.same {H H':Hp} {zs:List V} {ps:List (Int × List Int)} (h:WkR H zs ps) (s:Same H H'):WkR H' zs ps:=⟨h.1,fun j k e=>let ⟨T,U,a,b,c⟩:=h.2 j k e;⟨T,U,a,s _ _ b,s _ _ c⟩⟩
theorem WkR.snoc {H:Hp} {zs:List V} {ps:List (Int × List Int)} {q:Int × List Int} {T U:Addr} (h:WkR H zs ps) (e:H T = some (.tup [.int q.1,.ref U])) (e':H U = some (.tup (q.2.map V.int))):WkR H (zs ++ [.ref T]) (ps ++ [q]):=by
  refine ⟨by rw [List.length_append,List.length_append,h.1];rfl,fun j r hr=>?_⟩
  by_cases hj:j < ps.length
  · rw [List.getElem?_append_left hj] at hr
    obtain ⟨T',U',e1,e2,e3⟩:=h.2 j r hr
    exact ⟨T',U',by rw [List.getElem?_append_left (by rw [h.1];exact hj)];exact e1,e2,e3⟩
  · have hl:=(List.getElem?_eq_some_iff.mp hr).1
    rw [List.length_append] at hl
    have ej:j = ps.length:=by simp at hl;omega
    subst ej
    rw [List.getElem?_append_right (Nat.le_refl _),Nat.sub_self] at hr
    have:q = r:=by simpa using hr
    subst this
    exact ⟨T,U,by rw [<- h.1,List.getElem?_append_right (Nat.le_refl _),Nat.sub_self];rfl,e,e'⟩
theorem WkR.set {H:Hp} {zs:List V} {ps:List (Int × List Int)} {q:Int × List Int} {T U:Addr} {i:Nat} (h:WkR H zs ps) (e:H T = some (.tup [.int q.1,.ref U])) (e':H U = some (.tup (q.2.map V.int))):WkR H (zs.set i (.ref T)) (ps.set i q):=by
  refine ⟨by rw [List.length_set,List.length_set,h.1],fun j r hr=>?_⟩
  by_cases hj:i = j
  · subst hj
    have hl:=(List.getElem?_eq_some_iff.mp hr).1
    rw [List.length_set] at hl
    rw [List.getElem?_set_self hl] at hr
    cases hr
    exact ⟨T,U,List.getElem?_set_self (by rw [h.1];exact hl),e,e'⟩
  · rw [List.getElem?_set_ne hj] at hr
    obtain ⟨T',U',e1,e2,e3⟩:=h.2 j r hr
    exact ⟨T',U',by rw [List.getElem?_set_ne hj];exact e1,e2,e3⟩
section
variable {X:Cx}
end
end L2
namespace L2
open PySem PySem.Spec PyProof.Rows PySem.W
section
variable {X:Cx}
inductive xO (P:Program) (w:World) (xs:List V) (H:Hp) (Q:VK):Prop
  | mk (a:Addr) (ks:List Key) (_:xs = [.ref a]) (_:H a = some (vm P w a ks)) (_:Q (.int ks.length) H):xO P w xs H Q
theorem wg:CallR X (.builtin "len") (xO X.prog X.w):=by
  intro pins s σ H xs us Q I r h
  obtain ⟨a,ks,rfl,hx,q⟩:=h
  obtain ⟨u,rfl,ru⟩:=Vals.one r
  cases (show u = Value.ref a from ru)
  obtain ⟨⟨o,ho,es,ep,t,hex,hd,⟨_,ks',pm,pr⟩,_,hsz,hf,_⟩,_,_⟩:=(show ObjOk X.prog X.w H s.heap a (vm X.prog X.w a ks) from I.hok a _ hx)
  have ln:es.size = ks.length:=by
    have e1:=pr.length
    have e2:=pm.length_eq
    have e3:es.toList.length = es.size:=Array.length_toList
    omega
  have sb:scanBound = 4096:=rfl
  refine call_len_set ho hex hd hf (by omega) ⟨.int ks.length,H,I.kept (fun b o e=>e),⟨_,by rw [ln]⟩,q⟩
end
end L2
namespace L2
open PySem PySem.Spec PyProof.Rows
section
variable {X:Cx}
end
section
variable {prog:Program} {w:World} {K:Type} [DecidableEq K] {knd:KeyKind prog w K} {A:Around} {E:Value -> Shared -> Prop} {s:Shared}
end
section
variable {X:Cx}
end
end L2
namespace L2
open PySem PySem.Spec PyProof.Rows PySem.W
section
variable {prog:Program} {w:World} {A:Around} {R:Result -> Shared -> Prop} {I S:Addr} {fp wr:List Addr} {n:Nat} {P:Nat -> Value -> Prop} {St:Nat -> Heap -> Prop}
end
section
variable {X:Cx}
end
end L2
namespace L2
open PySem PySem.Spec PyProof.Rows
section
variable {X:Cx}
end
end L2
namespace L2
open PySem PySem.Spec PyProof.Rows PySem.W
section
variable {X:Cx}
end
end L2
namespace L2
open PySem PySem.Spec PyProof.Rows
section
variable {X:Cx}
end
theorem wc (xs:Array Nat):∀ (n:Nat) (a:Array Nat),(∀ c ∈ a.toList,c ∈ xs.toList) -> ∀ c ∈ ((List.replicate n xs).foldl (· ++ ·) a).toList,c ∈ xs.toList
  | 0,a,h=>h
  | n + 1,a,h=>by
    rw [List.replicate_succ,List.foldl_cons]
    refine wc xs n (a ++ xs) fun c hc=>?_
    rw [Array.toList_append] at hc
    exact (List.mem_append.mp hc).elim (h c) id
theorem XQ (x:Str) (n:Int):∀ c ∈ (Txt.mul x n).cps.toList,c ∈ x.cps.toList:=by
  unfold Txt.mul
  split
  · intro c hc;exact nomatch hc
  · split
    · exact fun c hc=>hc
    · exact wc x.cps _ #[] fun c hc=>nomatch hc
section
variable {X:Cx}
theorem yz:OpR X (binaryOp .Mult) (fun x y H Q=>∃ z k,x = .str z /\ y = .int k /\ z.length <= 10000 /\ 0 <= k /\ k <= 100 /\ ∀ w:Str,w.length <= k.toNat * z.length -> (∀ c ∈ w.cps.toList,c ∈ z.cps.toList) -> Q (.str w) H):=by
  intro pins s σ H x y v u Q I rx ry h
  obtain ⟨z,k,rfl,rfl,hz,k0,k1,q⟩:=h
  obtain ⟨t,rfl⟩:=rx
  obtain ⟨t',rfl⟩:=ry
  have hm:z.length * k.toNat <= 1000000:=by
    have:z.length * k.toNat <= 10000 * 100:=Nat.mul_le_mul hz (by omega)
    omega
  refine SB.mul ⟨?_,fun h1 h2=>?_,fun h1 h2=>?_⟩ fun t2 tk=>⟨.str (Txt.mul z k),H,I.tok _,⟨_,rfl⟩,q _ (XR z k) (XQ z k)⟩
  · rw [show decide (k < -(2 ^ 63:Int)) = false from decide_eq_false (by omega),show decide (k ≥ 2 ^ 63) = false from decide_eq_false (by omega)];rfl
  · have:(10000:Int) <= (2 ^ 63 - 1) / k:=(Int.le_ediv_iff_mul_le (by omega)).mpr (by omega)
    omega
  · exact decide_eq_false (by rw [sizeLine_eq];omega)
def WK:Dat -> Str
  | .non=> "None"
  | .bl b=>if b then "True" else "False"
  | .int i=>toString i
  | .str x=>x
  | d=>d.py.shown
theorem wf (hg:X.A.guards = some []) (hu:X.A.units + 64 < cLine):CallR X (.type "str") (fun xs H Q=>∃ (v:V) (d:Dat),xs = [v] /\ Rep X.K H d v /\ d.shw = true /\ d.blk <= 1048576 /\ d.py.depth <= 60 /\ Q (.str (WK d)) H):=by
  intro pins s σ H xs us Q I r h
  obtain ⟨v,d,rfl,hr,h1,h2,h3,q⟩:=h
  cases d with
  | lst ds=>
    obtain ⟨a,ys,rfl,hx⟩:=hr
    exact we hg hu pins s σ H _ us Q I r ⟨a,.lst ds,rfl,⟨a,ys,rfl,hx⟩,h1,h2,h3,q⟩
  | tup ds=>
    obtain ⟨a,ys,rfl,hx⟩:=hr
    exact we hg hu pins s σ H _ us Q I r ⟨a,.tup ds,rfl,⟨a,ys,rfl,hx⟩,h1,h2,h3,q⟩
  | int i=>
    cases (show v = _ from hr)
    exact xu pins s σ H _ us Q I r ⟨i,rfl,wK (of_decide_eq_true h1),q⟩
  | non=>
    cases (show v = _ from hr)
    obtain ⟨u,rfl,ru⟩:=ja r
    cases (show u = _ from ru)
    exact PySem.P.str_of_none ⟨.str "None",H,I.tok _,⟨_,rfl⟩,q⟩
  | bl b=>
    cases (show v = _ from hr)
    obtain ⟨u,rfl,ru⟩:=ja r
    cases (show u = _ from ru)
    refine PySem.P.str_of_bool ⟨.str (if b then "True" else "False"),H,I.tok _,⟨s.toks,?_⟩,q⟩
    cases b <;> rfl
  | str x=>
    cases (show v = _ from hr)
    obtain ⟨u,rfl,t,rfl⟩:=ja r
    exact PySem.P.str_of_str ⟨.str x,H,I,⟨t,rfl⟩,q⟩
end
section
variable {prog:Program} {w:World} {A:Around} {E:Value -> Shared -> Prop} {s:Shared}
theorem Zo {t:Addr} {us:List Value} {G:List Value -> Shared -> Prop} (ht:IsTup s.heap t us.toArray) (z:us.length <= sizeLine)
    (k:G us { s with heap:=(s.heap.push (seqObj "list" #[] 0)).update s.heap.objs.size (Obj.mapSeq (· ++ us.toArray)) }):wpAny (model prog w) A (collect (.ref t)) G E s:=by
  obtain ⟨ob,e0,c0,m,d0⟩:=id ht
  unfold collect
  refine wpAny_bind (wpAny_runValue (codeAny_builtin entry_proto_collect' ?_))
  show wpAny _ _ (do again (.builtin "list.__iadd__" ⟨[<- newList [],.ref t],[]⟩)) _ _ s
  refine wpAny_bind (wpAny_newList (wpAny_pure ⟨Code.quiet_builtin _ (by decide +kernel),codeAny_builtin entry_list_iadd' ?_⟩))
  have e1:(s.heap.push (seqObj "list" #[] 0)).get? t = some ob:=Heap.get?_push_of_some _ e0
  have new:(s.heap.push (seqObj "list" #[] 0)).get? s.heap.objs.size = some (seqObj "list" #[] 0):=Heap.get?_push_size _ rfl
  show wpAny _ _ (Builtin.List.listExtendWith (.ref s.heap.objs.size) (.ref t) _) _ _ { s with heap:=s.heap.push (seqObj "list" #[] 0) }
  unfold Builtin.List.listExtendWith
  refine wpAny_bind (wpAny_typeOf (T:= "tuple") ⟨ob,e1,c0⟩ ?_)
  rw [if_pos (by rw [show (Value.type "tuple" == Value.type "tuple") = true from rfl,Bool.or_true])]
  refine wpAny_bind (listItems_at e1 d0 (wpAny_bind (listItems_at new rfl ?_)))
  rw [if_neg (by simp)]
  refine wpAny_bind (listUpdate_at new rfl (wpAny_pure ?_) (Nat.zero_le _) (by show (#[] ++ us.toArray).size <= sizeLine + 1;simp;omega))
  refine wpAny_bind (wpAny_load (get?_update_seq new _) ?_)
  show wpAny _ _ (pure ((#[]:Array Value) ++ us.toArray).toList) G E _
  have e:((#[]:Array Value) ++ us.toArray).toList = us:=by simp
  rw [e]
  exact wpAny_pure k
end
section
variable {X:Cx}
theorem j7:CallR X (.builtin "sorted") (fun xs H Q=>∃ (a:Addr) (ns:List Int),xs = [.ref a] /\ SqT X.K H a (ns.map V.int) /\ ns.length < 64 /\
    ∀ (p:Addr) (ms:List Int),H p = none -> ms.Perm ns -> ms.Pairwise (· <= ·) -> Q (.ref p) (upd H p (.lst (ms.map V.int)))):=by
  intro pins s σ H xs us Q I r h
  obtain ⟨a,ns,rfl,hx,hl,q⟩:=h
  obtain ⟨u,rfl,ru⟩:=Vals.one r
  cases (show u = Value.ref a from ru)
  obtain ⟨its,r',pl,hz⟩:=I.tuple hx
  have len:=r'.length
  rw [List.length_map] at len
  refine Calls.call_function_entry kind_sorted plain_sorted entry_sorted (args_sorted1 _) ?_
  unfold Builtin.«sorted»
  refine wpAny_bind (m:=checkCount "sorted" 1 1 _) (wpAny_pure (wpAny_bind (Zo pl (by rw [sizeLine_eq];omega) (wpAny_bind (wpAny_newList ?_ (by rw [sizeLine_eq];omega))))))
  have sz:((s.heap.push (seqObj "list" #[] 0)).update s.heap.objs.size (Obj.mapSeq (· ++ its.toArray))).objs.size = s.heap.objs.size + 1:=by rw [Heap.size_update,size_push']
  have at1:(((s.heap.push (seqObj "list" #[] 0)).update s.heap.objs.size (Obj.mapSeq (· ++ its.toArray))).push (seqObj "list" its.toArray 0)).get? (s.heap.objs.size + 1) = some (seqObj "list" its.toArray 0):=by
    rw [<- sz];exact Heap.get?_push_size _ rfl
  rw [show (Value.ref ((s.heap.push (seqObj "list" #[] 0)).update s.heap.objs.size (Obj.mapSeq (· ++ its.toArray))).objs.size) = Value.ref (s.heap.objs.size + 1) from congrArg Value.ref sz]
  refine wpAny_bind (wpAny_holding (wpAny_call_entry slot_list_sort ⟨_,at1,rfl⟩ entry_list_sort (list_sort_tree at1 (vz r') (by omega) fun out ms a1 a2 a3=>⟨_,rfl,wpAny_pure ⟨_,rfl,?_⟩⟩) (args_list_sort _)))
  obtain ⟨e,he⟩:=sortedAll_at s.heap its out
  have hn:H (s.heap.objs.size + 1) = none:=I.hok.fresh (Nat.le_succ _)
  refine ⟨.ref (s.heap.objs.size + 1),_,I.laid (a:=s.heap.objs.size + 1) (o:=.lst (ms.map V.int)) (t':=s.toks) (fun _ _=>sortedAll_old) (Nat.le_succ _) ⟨?_,out.toList,e,x5 a1,?_⟩,rfl,q _ ms hn a2 a3⟩
  · rw [List.length_map,a2.length_eq,sizeLine_eq];omega
  · exact he.trans (by simp [seqObj])
end
theorem Q2 (elt tg iter:Expr) (ifs:List Expr) (scope:Scope) (pos:Pos) (it acc:Value) (env:Env) :
    compTurn (.SetComp elt [⟨tg,iter,ifs,0⟩] scope pos) 0 it acc env = (do
      standAt iter.pos
      match <- pyNext it with
      | none=>pure (.done .next)
      | some v=>
        letOwnedTupleGo tg it v
        assign tg env v
        let mut ok:=true
        for c in ifs do
          if ok then ok <- isTrue c env (eval c env)
        if ok then
          (do let v <- eval elt env;standAt elt.pos;let _ <- call (.builtin "set.add") [acc,v])
        again (.compLoop (.SetComp elt [⟨tg,iter,ifs,0⟩] scope pos) 0 it acc env)):=by rfl
section
variable {prog:Program} {w:World} {A:Around} {E:Value -> Shared -> Prop} {R:Result -> Shared -> Prop} {s:Shared}
theorem Qz {elt tg iter ifs jv scope pos it acc env}
    (h0:codeAny (model prog w) A (.compLoop (.SetComp elt (⟨tg,iter,ifs,0⟩ :: jv) scope pos) 0 it acc env) R s)
    (h:wpAny (model prog w) A (pyIter it) (fun it' s'=>codeAny (model prog w) A (.compLoop (.SetComp elt (⟨tg,iter,ifs,0⟩ :: jv) scope pos) 0 it' acc env) R s') (notedBy (model prog w) A env fun x s'=>R (.error x) s') s) :
    codeAny (model prog w) A (.compStart (.SetComp elt (⟨tg,iter,ifs,0⟩ :: jv) scope pos) 0 it acc env) R s:=by
  refine codeAny_of_tree (show wpAny _ A ((compStart (.SetComp elt (⟨tg,iter,ifs,0⟩ :: jv) scope pos) 0 it acc env).onRaise (fun x=>do noteFrame x env;standAt theWindowsPlace)) _ _ s from wpAny_notedAt ?_)
  unfold compStart
  refine (show wpAny _ A (ask >>= _) _ _ s from wpAny_bind (wpAny_askSetting (wpAny_ite ?_)))
  split
  · first
      | exact wpAny_pure ⟨rfl,h0⟩
      | exact wpAny_bind (wpAny_pure (wpAny_pure ⟨rfl,h0⟩))
  · first
      | exact wpAny_bind (wpAny_rule (wpAny_bind (wpAny_standAt (wpAny_bind (wpAny_mono h (fun _ _ q=>wpAny_pure ⟨rfl,q⟩) fun _ _ x=>x)))))
      | (refine wpAny_bind (wpAny_rule ?_)
         exact (show wpAny _ _ (standAt iter.pos >>= _) _ _ s from wpAny_bind (wpAny_standAt (wpAny_bind (wpAny_mono h (fun _ _ q=>wpAny_pure ⟨rfl,q⟩) fun _ _ x=>x)))))
theorem QE {elt tg iter:Expr} {ifs:List Expr} {scope:Scope} {pos:Pos} {it acc:Value} {env:Env} (J:Nat -> Shared -> Prop)
    (turn:∀ n s,J n s -> wpAny (model prog w) A (pyNext it) (fun r s1=>match r with
      | none=>R (.ok .next) s1
      | some v=>wpAny (model prog w) A (letOwnedTupleGo tg it v) (fun _ s2=>wpAny (model prog w) A (assign tg env v) (fun _ s3=>
          wpAny (model prog w) A (xX ifs env) (fun ok s4=>
            if ok = true then wpAny (model prog w) A (eval elt env) (fun x s5=>
              wpAny (model prog w) A (call (.builtin "set.add") [acc,x]) (fun _ s6=>∃ m,m < n /\ J m s6) (fun _ _=>False) s5) (fun _ _=>False) s4
            else ∃ m,m < n /\ J m s4) (fun _ _=>False) s3) (fun _ _=>False) s2) (fun _ _=>False) s1) (fun _ _=>False) s)
    (n:Nat) (h:J n s):codeAny (model prog w) A (.compLoop (.SetComp elt [⟨tg,iter,ifs,0⟩] scope pos) 0 it acc env) R s:=by
  have no:∀ {α:Type} {t:Sem α} {Q:α -> Shared -> Prop} {E:Value -> Shared -> Prop} {s:Shared},wpAny (model prog w) A t Q (fun _ _=>False) s -> wpAny (model prog w) A t Q E s:=fun x=>wpAny_mono x (fun _ _ q=>q) fun _ _ q=>q.elim
  refine codeAny_loop rfl J (fun k u hJ=>?_) n h
  refine (show wpAny _ A ((compTurn (.SetComp elt [⟨tg,iter,ifs,0⟩] scope pos) 0 it acc env).onRaise (fun x=>do noteFrame x env;theTreesLotGoes x)) _ _ u from wpAny_noted ?_)
  rw [Q2]
  refine wpAny_bind (wpAny_standAt (wpAny_bind (no (wpAny_mono (turn k u hJ) (fun r s1 h1=>?_) fun _ _ q=>q))))
  cases r with
  | none=>exact wpAny_pure h1
  | some v=>
    refine wpAny_bind (no (wpAny_mono h1 (fun _ s2 h2=>wpAny_bind (no (wpAny_mono h2 (fun _ s3 h3=>wpAny_bind (no (wpAny_mono h3 (fun ok s4 h4=>?_) fun _ _ q=>q))) fun _ _ q=>q))) fun _ _ q=>q))
    cases ok with
    | false=>exact wpAny_pure ⟨rfl,h4⟩
    | true=>
      have h4':wpAny (model prog w) A (eval elt env) (fun x s5=>wpAny (model prog w) A (call (.builtin "set.add") [acc,x]) (fun _ s6=>∃ m,m < k /\ J m s6) (fun _ _=>False) s5) (fun _ _=>False) s4:=h4
      refine wpAny_bind (wpAny_bind (no (wpAny_mono h4' (fun x s5 h5=>wpAny_bind (wpAny_standAt (wpAny_bind (no (wpAny_mono h5 (fun _ s6 h6=>wpAny_pure (wpAny_pure ⟨rfl,h6⟩)) fun _ _ q=>q))))) fun _ _ q=>q)))
variable {K:Type} [DecidableEq K] {knd:KeyKind prog w K}
theorem WL {a:Addr} {ks:List K} {k:K} {x:Value} {b:Bool} {Q:Value -> Shared -> Prop} (hkey:knd.is k x = true) (hsc:x.scannable = true) (hS:SetX knd b s.heap a ks) (hroom:ks.length + 1 < scanBound)
    (h:∀ h' tk,Heap.SameBut a s.heap h' -> SetX knd b h' a (qV ks k) -> Q .none { s with heap:=h',toks:=tk }):wpAny (model prog w) A (call (.builtin "set.add") [.ref a,x]) Q E s:=by
  obtain ⟨o,ho,hb⟩:=id hS
  obtain ⟨es,ep,t,hex,_⟩:=id hb
  refine wpAny_call_entry F.slot_set_add ⟨o,ho,hex.1⟩ F.entry_set_add ?_ (F.args_set_add_2 _ _)
  have ty:s.TypeIs (.ref a) "set" :=⟨o,ho,hex.1⟩
  unfold Builtin.«set.add»
  generalize hSA:setAdd = SA
  obtain ⟨hp,g,d,tk,os⟩:=s
  wp_walk
  subst hSA
  refine (show wpAny _ _ (setAdd a x) _ _ _ from wpAny_holding (wpAny_bind (knd.pyHash hkey ?_)))
  refine Wy (s:=⟨hp,g,d,tk + 1,os⟩) hkey hsc hS hroom (fun h' c sb sx=>?_)
  exact wpAny_pure ⟨_,rfl,h h' _ sb sx⟩
theorem XO {Q:Value -> Shared -> Prop} (h:Q (.ref s.heap.objs.size) { s with heap:=s.heap.push (j6 w) }):wpAny (model prog w) A (newSet (.type "set")) Q E s:=by
  unfold newSet setsByText
  refine wpAny_bind (wpAny_bind (wpAny_askSetting (wpAny_pure ?_)))
  dsimp only
  simp only [newObj]
  exact wpAny_bind (wpAny_alloc (wpAny_pure h))
end
def tSC (P:Program) (w:World) (wi:TI) (n:Nat) (js:List Nat) (g:TG) (tf:TT) (te:TE):TE:=fun σ H Q=>wi σ H fun J H1=>
  ∃ W:Nat -> Nat -> List Key -> Hp -> Prop,(∃ m,W 0 m [] H1) /\ ∀ i m ks H2,W i m ks H2 ->
    (J.stop i H2 /\ ∀ D,H2 D = none -> Q (.ref D) (upd H2 D (vm P w D ks))) \/
    (J.go i H2 /\ ∃ N:List Key -> Hp -> Prop,(∀ zs H',N zs H' -> ∃ m',m' < m /\ W (i + 1) m' zs H') /\ ∀ x H3,J.yld i H2 x H3 -> g x (upS n js σ) H3 fun σ4 H4=>σ4.drop n = (upS n js σ).drop n /\ tf σ4 H4 fun b H5=>
      if b = true then te σ4 H5 fun y H6=>∃ k:Key,y = kV k /\ ks.length + 1 < 4096 /\ N (qV ks k) H6 else N ks H5)
section
variable {X:Cx} {elt tg iter:Expr} {ifs:List Expr} {scope:Scope} {pos:Pos} {wi:TI} {g:TG} {tf:TT} {te:TE}
theorem JS {k:Key} {u:Value} (r:RelV (kV k) u):u.scannable = true:=by
  cases k with
  | inl i=>obtain ⟨t,rfl⟩:=r;rfl
  | inr i=>obtain ⟨t,rfl⟩:=r;rfl
theorem Wk (own fr:List Str) (js:List Nat) (hc:X.calm = true) (hk:scope.kind = .function) (hb:vF scope.names X.env.scope.names X.N fr js = true) (hi:PI X tg iter wi)
    (hg:∀ C s H ex,PG (zI X (own ++ fr) scope C s H ex) tg g) (hf:∀ C s H ex,PF (zI X (own ++ fr) scope C s H ex) ifs tf) (he:∀ C s H ex,PE (zI X (own ++ fr) scope C s H ex) elt te)
    (hs:∀ x,foldedSetIterable iter X.env x = pure x:=by intro _;rfl):PE X (.SetComp elt [⟨tg,iter,ifs,0⟩] scope pos) (tSC X.prog X.w wi own.length js g tf te):=by
  intro pins s σ H Q I h
  have B:=vE hb
  have hasF:∀ y ∈ scope.names,y.2 = NameKind.free -> ∃ c,X.env.cells.lookup y.1 = some c:=fun y hy e=>I.ok.has y.1 (B.free y hy e)
  rw [arm_eval_SetComp]
  refine wpAny_comprehension_free (use:=none) rfl hs (wP hasF) hk (fun y hy e=>B.loc y hy e) (thn (hi pins s σ H _ I h) fun v s1 h1=>thn h1 fun itv s2 h2=>?_)
  obtain ⟨it,fp,tn,J,H2,e,I2,T,st2,f2,W,⟨m0,w0⟩,turn⟩:=h2
  subst e
  have fl:∀ b ∈ fp,b < s2.heap.objs.size:=fun b hb=>let ⟨o,e,_⟩:=T.obj _ _ st2 b hb;Heap.lt_size e
  refine XO (wpAny_newFunctionEnv B.cell (by intro y hy;simp at hy) (fun h1 hns hsb=>?_) hk)
  dsimp only at hns hsb ⊢
  have sx0:SetX (qJ X.prog X.w) (yG X.w) (s2.heap.push (j6 X.w)) s2.heap.objs.size []:=yr s2.heap
  have sD:=I2.fpOk (Nat.le_refl s2.heap.objs.size) (I2.hok.fresh (Nat.le_refl s2.heap.objs.size))
  generalize e3:s2.heap.push (j6 X.w) = h3 at hns hsb sx0 ⊢
  have k3:∀ b o,s2.heap.get? b = some o -> h3.get? b = some o:=fun b o e=>by rw [<- e3];exact Heap.get?_push_of_some _ e
  have k4:∀ b o,h3.get? b = some o -> h1.get? b = some o:=fun b o e=>hsb.extBut b o (Nat.ne_of_lt (Heap.lt_size e)) (Heap.get?_push_of_some _ e)
  have I3:Inv X pins σ H2 { s2 with heap:=h3 }:=I2.kept (t':=s2.toks) k3
  have hz:h3.objs.size = s2.heap.objs.size + 1:=by rw [<- e3,Heap.size_push]
  have hDl:s2.heap.objs.size ≠ h3.objs.size:=by rw [hz];exact Nat.ne_of_lt (Nat.lt_succ_self _)
  generalize eD:s2.heap.objs.size = D at *
  have fD:∀ b ∈ fp,D ≠ b:=fun b hb=>Nat.ne_of_gt (fl b hb)
  have f3:∀ b ∈ D :: fp,jI X pins H2 b:=fun b hb=>(List.mem_cons.mp hb).elim (fun z=>z ▸ sD) (f2 b)
  have I4:Inv (zI X (own ++ fr) scope h3.objs.size { s2 with heap:=h3,toks:=s2.toks } H2 (D :: fp)) [] (upS own.length js σ) H2 { s2 with heap:=h1,toks:=s2.toks + ([]:List (Str × Value)).length }:=
    Zs own fr js I3 B hk f3 (fun b hb=>by
      show b < h3.objs.size
      rw [hz]
      exact (List.mem_cons.mp hb).elim (fun z=>z ▸ Nat.lt_succ_self _) fun z=>Nat.lt_succ_of_lt (fl b z)) rfl hns k4
  generalize eC:h3.objs.size = C at *
  have hx:∀ b ∈ D :: fp,∀ x c,(qF X.env.cells scope.names []).lookup x = some c -> c ≠ b:=fun b hb x c e=>(f3 b hb).2.2.2.2.1 x c (zR e hasF)
  have nfs:∀ b ∈ D :: fp,b ∉ frs X.stack:=I4.ok.exfs
  have fpB:∀ {pins':List (Addr × Obj)} {H':Hp} {b:Addr},b ∈ D :: fp -> H' b = none -> (∀ p ∈ pins',p.1 ≠ b) -> jI (zI X (own ++ fr) scope C { s2 with heap:=h3,toks:=s2.toks } H2 (D :: fp)) pins' H' b:=fun {pins' H' b} hb hn hp=>
    ⟨hn,(I4.ok.exf b hb).1,nfs b hb,.inl hb,fun x c e=>hx b hb x c e,fun p h=>hp p (by simpa using h)⟩
  have loop:∀ s4:Shared,s4 = { s2 with heap:=h1,toks:=s2.toks + ([]:List (Str × Value)).length } ->
      codeAny (model X.prog X.w) X.A (.compLoop (.SetComp elt [⟨tg,iter,ifs,0⟩] scope pos) 0 (.ref it) (.ref D) (compEnvC scope (qF X.env.cells scope.names []) C X.env))
        (compPost (model X.prog X.w) X.A X.xe none (EP X pins σ Q) (.ref D) C) s4:=by
    intro s4 e4
    refine QE (fun n s'=>∃ i ks H',Inv (zI X (own ++ fr) scope C { s2 with heap:=h3,toks:=s2.toks } H2 (D :: fp)) [] (upS own.length js σ) H' s' /\ tn i s'.heap /\ (∀ b ∈ fp,H' b = none) /\ H' D = none /\ SetX (qJ X.prog X.w) (yG X.w) s'.heap D ks /\ W i n ks H') ?_ m0 ?_
    · rintro n s5 ⟨i,ks,H5,I5,st5,fr5,hD5,sx5,w5⟩
      obtain ⟨o5,ho5,ob5⟩:=id sx5
      have nc:∀ v,o5.data ≠ .cell v:=fun v q=>by
        obtain ⟨es,ep,t,_,hd,_⟩:=ob5
        rw [hd] at q;cases q
      have I5':=I5.pinned (fp:=[D]) (fun b hb=>by rw [List.mem_singleton.mp hb];exact fpB List.mem_cons_self hD5 (fun p hp=>absurd hp (by simp))) (fun b hb=>by
        rw [List.mem_singleton.mp hb];exact ⟨_,ho5,nc⟩)
      have pD:∀ p ∈ [] ++ zO [D] s5.heap,p.1 = D:=fun p hp=>by
        rw [List.nil_append] at hp
        exact List.mem_singleton.mp (jZ hp).1
      have mD:(D,o5) ∈ [] ++ zO [D] s5.heap:=by
        rw [List.nil_append];exact qq (List.mem_singleton.mpr rfl) ho5
      have fp5:∀ {H':Hp},(∀ b ∈ fp,H' b = none) -> ∀ b ∈ fp,jI (zI X (own ++ fr) scope C { s2 with heap:=h3,toks:=s2.toks } H2 (D :: fp)) ([] ++ zO [D] s5.heap) H' b:=fun hn b hb=>fpB (List.mem_cons_of_mem _ hb) (hn b hb) fun p hp=>by
        rw [pD p hp];exact fD b hb
      rcases turn i n ks H5 w5 with ⟨stop,q⟩ | ⟨go,N,hN,step⟩
      · refine thn (T.done (zI X (own ++ fr) scope C { s2 with heap:=h3,toks:=s2.toks } H2 (D :: fp)) rfl rfl rfl hc i _ s5 _ H5 _ I5' (fp5 fr5) st5 stop) fun r s6 ⟨hr,I6⟩=>?_
        subst hr
        obtain ⟨m6,hn6,_⟩:=I6.loc
        refine ⟨m6,hn6,fun h7 hs7=>?_⟩
        obtain ⟨o6,nD6,_⟩:=I6.pin (D,_) (List.mem_append_right _ mD)
        have k7:∀ b o,b ≠ C -> s6.heap.get? b = some o -> h7.get? b = some o:=fun b o hb e=>hs7.extBut b o hb e
        have sx7:SetX (qJ X.prog X.w) (yG X.w) h7 D ks:=⟨o5,k7 D _ hDl o6,ob5⟩
        refine ⟨.ref D,upd H5 D (vm X.prog X.w D ks),?_,rfl,q D nD6⟩
        refine I3.call' (s':={ s6 with heap:=h7 }) (ch:=D :: fp) I6.os (va (yX I6.base (Nat.le_of_eq eC) k7) List.mem_cons_self sD.1) (xC (wN I6.hok I6.free k7) nD6 ⟨sx7,?_,fun h1 h2 x e=>x.at e⟩) I6.bare fun b hb=>?_
        · exact ⟨o5,k7 D _ hDl o6⟩
        · obtain ⟨_,g1,_,g3,g4,g5⟩:=f3 b hb
          exact ⟨g3,g1,g4,g5⟩
      · refine thn (T.item (zI X (own ++ fr) scope C { s2 with heap:=h3,toks:=s2.toks } H2 (D :: fp)) rfl rfl rfl hc i _ s5 _ H5 _ I5' (fp5 fr5) st5 go) fun r s6 ⟨u,hr,h6⟩=>?_
        subst hr
        refine thn h6 fun _ s7 ⟨x,H7,I7,r7,y7,st7,fr7⟩=>?_
        have I7':=I7.pinned (fp5 fr7) (T.obj _ _ st7)
        refine thn (hg _ _ _ _ _ s7 _ H7 x u _ I7' r7 (step x H7 y7)) fun _ s8 ⟨σ8,H8,I8,hd8,q8⟩=>?_
        refine thn (hf _ _ _ _ _ s8 σ8 H8 _ I8 q8) fun ok s9 ⟨H9,I9,q9⟩=>?_
        have weak:∀ {H':Hp} {s':Shared},Inv (zI X (own ++ fr) scope C { s2 with heap:=h3,toks:=s2.toks } H2 (D :: fp)) (([] ++ zO [D] s5.heap) ++ zO fp s7.heap) σ8 H' s' ->
            Inv (zI X (own ++ fr) scope C { s2 with heap:=h3,toks:=s2.toks } H2 (D :: fp)) [] (upS own.length js σ) H' s':=fun {H' s'} J=>by
          refine (J.unpinned).unpinned.weak (I5.len.trans J.len.symm) fun k v e=>?_
          obtain ⟨hn,e1,_⟩:=jM e
          rw [<- hd8,List.getElem?_drop] at e1
          rw [<- e1]
          congr 1
          omega
        have mF:∀ b ∈ fp,∀ o,s7.heap.get? b = some o -> (b,o) ∈ ([] ++ zO [D] s5.heap) ++ zO fp s7.heap:=fun b hb o e=>List.mem_append_right _ (qq hb e)
        have mD':=List.mem_append_left (zO fp s7.heap) mD
        have frB:∀ {H':Hp} {s':Shared},Inv (zI X (own ++ fr) scope C { s2 with heap:=h3,toks:=s2.toks } H2 (D :: fp)) (([] ++ zO [D] s5.heap) ++ zO fp s7.heap) σ8 H' s' -> ∀ b ∈ fp,H' b = none:=fun {H' s'} J b hb=>by
          obtain ⟨o,e,_⟩:=T.obj _ _ st7 b hb
          exact (J.pin (b,o) (List.mem_append_right _ (mF b hb o e))).2.1
        cases ok with
        | false=>
          have q9':N ks H9:=by simpa using q9
          obtain ⟨m',hm,w'⟩:=hN _ _ q9'
          obtain ⟨o9,nD9,_⟩:=I9.pin (D,_) (List.mem_append_right _ mD')
          exact ⟨m',hm,i + 1,ks,H9,weak I9,T.keep _ _ _ st7 fun b hb o e=>(I9.pin (b,o) (List.mem_append_right _ (mF b hb o e))).1,frB I9,nD9,⟨o5,o9,ob5⟩,w'⟩
        | true=>
          have q9':te σ8 H9 fun y H6=>∃ k:Key,y = kV k /\ ks.length + 1 < 4096 /\ N (qV ks k) H6:=by simpa using q9
          refine thn (he _ _ _ _ _ s9 σ8 H9 _ I9 q9') fun yv s10 ⟨y,H10,I10,r10,ky,ey,hlt,w10⟩=>?_
          subst ey
          obtain ⟨m',hm,w'⟩:=hN _ _ w10
          obtain ⟨o10,nD10,_⟩:=I10.pin (D,_) (List.mem_append_right _ mD')
          refine WL (ZY r10) (JS r10) ⟨o5,o10,ob5⟩ hlt fun h11 tk11 hs11 sx11=>?_
          refine ⟨m',hm,i + 1,qV ks ky,H10,?_,T.keep _ _ _ st7 fun b hb o e=>hs11.extBut b o (Ne.symm (fD b hb)) (I10.pin (b,o) (List.mem_append_right _ (mF b hb o e))).1,frB I10,nD10,sx11,w'⟩
          exact (weak I10).turned (t':=tk11) (it:=D) (fun b o hb e=>hs11.extBut b o hb e) nD10 hDl (.inl List.mem_cons_self) (fun x c e=>hx D List.mem_cons_self x c e) fun p hp=>absurd (show p ∈ ([]:List (Addr × Obj)) from hp) (by simp)
    · subst e4
      exact ⟨0,[],H2,I4,T.keep _ _ _ st2 fun b hb o e=>k4 b o (k3 b o e),fun b hb=>(f2 b hb).1,sD.1,sx0.at fun o e=>k4 _ _ e,w0⟩
  exact Qz (loop _ rfl) (T.self X.A 0 _ _ _ (T.keep _ _ _ st2 fun b hb o e=>k4 b o (k3 b o e)) (loop _ rfl))
end
section
variable {X:Cx} {x y:Str} {px py tp:Pos} {kk:Nat} {elt iter:Expr} {ifs:List Expr} {scope:Scope} {pos:Pos} {wi:TI} {tf:TT} {te:TE}
theorem VC (fr:List Str) (js:List Nat) (hc:X.calm = true) (hk:scope.kind = .function) (hb:xE scope.names X.env.scope.names X.N [x,y] fr js = true) (hi:PI X (.Tuple [.Name x px,.Name y py] kk tp) iter wi)
    (hf:∀ C s H ex,PF (zI X ([x,y] ++ fr) scope C s H ex) ifs tf) (he:∀ C s H ex,PE (zI X ([x,y] ++ fr) scope C s H ex) elt te)
    (hs:∀ x,foldedSetIterable iter X.env x = pure x:=by intro _;rfl):PE X (.SetComp elt [⟨.Tuple [.Name x px,.Name y py] kk tp,iter,ifs,0⟩] scope pos) (tSC X.prog X.w wi 2 js (JV X.K 2 (xI (jK 0) (xI (jK 1) XW))) tf te):=by
  obtain ⟨h1,h2,h3⟩:=j5 hb
  refine Wk [x,y] fr js hc hk h1 hi (fun C s H ex=>?_) hf he hs
  exact jz (X:=zI X ([x,y] ++ fr) scope C s H ex) hc (zX (xf (h2 x (by simp)) h3 rfl) (zX (xf (h2 y (by simp)) h3 rfl) qX))
end
theorem Vq {K:PySem.W.Frag} {a:Addr} {xs:List V} {g:TG} {tf:TT} {te:TE} {σ0:St} {n:Nat} {R:List Key -> Hp -> Prop} {H:Hp} (Pv:Nat -> List Key -> Hp -> Prop) (h0:Pv 0 [] H)
    (h1:∀ i zs H,Pv i zs H -> SqT K H a xs)
    (hs:∀ i x zs H,xs[i]? = some x -> Pv i zs H -> g x σ0 H fun σ4 H4=>σ4.drop n = σ0.drop n /\ tf σ4 H4 fun b H5=>
      if b = true then te σ4 H5 fun v H6=>∃ k:Key,v = kV k /\ zs.length + 1 < 4096 /\ Pv (i + 1) (qV zs k) H6 else Pv (i + 1) zs H5)
    (hd:∀ zs H,Pv xs.length zs H -> R zs H) :
    ∃ W:Nat -> Nat -> List Key -> Hp -> Prop,(∃ m,W 0 m [] H) /\ ∀ i m zs H2,W i m zs H2 ->
      ((Itt K a).stop i H2 /\ R zs H2) \/
      ((Itt K a).go i H2 /\ ∃ N:List Key -> Hp -> Prop,(∀ zs H',N zs H' -> ∃ m',m' < m /\ W (i + 1) m' zs H') /\ ∀ x H3,(Itt K a).yld i H2 x H3 -> g x σ0 H3 fun σ4 H4=>σ4.drop n = σ0.drop n /\ tf σ4 H4 fun b H5=>
        if b = true then te σ4 H5 fun y H6=>∃ k:Key,y = kV k /\ zs.length + 1 < 4096 /\ N (qV zs k) H6 else N zs H5):=by
  refine ⟨fun i m zs H2=>m = xs.length - i /\ i <= xs.length /\ Pv i zs H2,⟨_,rfl,Nat.zero_le _,h0⟩,?_⟩
  rintro i m zs H2 ⟨rfl,hi,p⟩
  have q:=h1 i zs H2 p
  by_cases hlt:i < xs.length
  · refine .inr ⟨⟨xs,xs[i],q,by simp [hlt]⟩,Pv (i + 1),fun zs' H' p'=>⟨_,by omega,rfl,hlt,p'⟩,fun x H3 y=>?_⟩
    obtain ⟨e,y⟩:=y
    subst e
    exact hs i x zs _ (y xs q) p
  · have e:i = xs.length:=by omega
    subst e
    exact .inl ⟨⟨xs,q,Nat.le_refl _⟩,hd zs H2 p⟩
section
variable {X:Cx}
theorem Xy (hu:X.A.units < cLine):OpR X (compareOp .Eq) (fun x y H Q=>∃ (a b:Addr) (xs:List V),x = .ref a /\ y = .ref b /\ SqT X.K H a xs /\ SqT X.K H b [] /\ Q (.bl xs.isEmpty) H):=by
  intro pins s σ H x y v u Q I rx ry h
  obtain ⟨a,b,xs,rfl,rfl,hx,hy,q⟩:=h
  cases rx
  cases ry
  obtain ⟨is1,r1,p1,z1⟩:=I.tuple hx
  obtain ⟨is2,r2,p2,z2⟩:=I.tuple hy
  cases r2
  refine SeqAt.RcAt.tuples (e:=fun _=>true) p1 p2 hu (fun j h1 h2=>by simp at h2) _ _ _ _ ⟨.bl _,H,I,rfl,?_⟩
  have e:((List.range (min is1.toArray.size ([]:List Value).toArray.size)).all (fun _=>true) && is1.toArray.size == ([]:List Value).toArray.size) = xs.isEmpty:=by
    cases r1 with
    | nil=>rfl
    | cons r t=>simp
  rw [e]
  exact q
end
def zn (i:Nat):Stmt:=PySem.Challenge.pw_pickboard_k10_trips_or_not.main.body.getD i (.Pass ⟨0,0,0,0⟩)
structure Blt (mg:Str -> Option Value):Prop where
  abs:mg "abs" = none
  all:mg "all" = none
  any:mg "any" = none
  bool:mg "bool" = none
  divmod:mg "divmod" = none
  enumerate:mg "enumerate" = none
  int:mg "int" = none
  isinstance:mg "isinstance" = none
  len:mg "len" = none
  list:mg "list" = none
  max:mg "max" = none
  range:mg "range" = none
  set:mg "set" = none
  sorted:mg "sorted" = none
  str:mg "str" = none
  tuple:mg "tuple" = none
  zip:mg "zip" = none
theorem yR:bootBuiltins "abs" = some (.builtin "abs"):=by decide +kernel
theorem J6:bootBuiltins "max" = some (.builtin "max"):=by decide +kernel
theorem yQ:bootBuiltins "divmod" = some (.builtin "divmod"):=by decide +kernel
theorem jS:bootBuiltins "int" = some (.type "int"):=by decide +kernel
theorem qx:bootBuiltins "list" = some (.type "list"):=by decide +kernel
theorem zJ:bootBuiltins "tuple" = some (.type "tuple"):=by decide +kernel
theorem jh:bootBuiltins "str" = some (.type "str"):=by decide +kernel
theorem ju:bootBuiltins "bool" = some (.type "bool"):=by decide +kernel
theorem jn:bootBuiltins "sorted" = some (.builtin "sorted"):=by decide +kernel
def QU (i:Int):Int:=if i < 0 then -i else i
def Wc:Str:= "abcdefghijklmnopqrstuvwxyz"
def yE (c:Nat):Bool:=decide (97 <= c) && decide (c <= 122)
theorem JN:Wc.cps.toList = List.range' 97 26:=by decide +kernel
def BoxAt (H:Hp) (b:Addr) (n:Int):Prop:=∃ b0 b1 b2:Int,H b = some (.lst [.int b0,.int b1,.int b2]) /\ 0 <= b0 /\ 0 <= b1 /\ b1 < 2147483648 /\ 0 <= b2 /\ b2 <= n
def SameB (b:Addr) (H H':Hp):Prop:=∀ c o,H c = some o -> c ≠ b -> H' c = some o
theorem xK {i j:Int} (h1:0 <= i) (h2:i < 18446744073709551616):CMul i j:=by
  have e1:(-(2 ^ 64):Int) = -18446744073709551616:=by decide
  have e2:((2 ^ 64):Int) = 18446744073709551616:=by decide
  refine .inl ⟨?_,?_⟩
  · rw [e1];omega
  · rw [e2];exact h2
theorem Vl {a m j:Int} (h:0 < m) (h2:m < 18446744073709551616):CMul (a % m) j:=xK (Int.emod_nonneg _ (by omega)) (Int.lt_trans (Int.emod_lt_of_pos _ h) h2)
section
variable {P:Program} {w:World} {K:PySem.W.Frag} {mg:Str -> Option Value} {base:Heap}
inductive yf (vs:List V) (H:Hp) (Q:VK):Prop
  | mk (b:Addr) (size n:Int) (_:vs = [.ref b,.int size]) (_:BoxAt H b n) (_:n < 1099511627776) (_:0 < size) (_:size < 1073741824) (_:∀ (r:Int) H',0 <= r -> r < size -> BoxAt H' b (n + 1) -> SameB b H H' -> Q (.int r) H'):yf  vs H Q
def qz:Sp:=fun vs H Q _=>yf  vs H Q
theorem Jf:zG ["_law_box_here", "_law_size", "_law_found", "_law_step", "_law_once", "_law_twice"] ["_law_box_here", "_law_size"] (zj (zn 13)):=⟨rfl,rfl,rfl,by decide +kernel,rfl,by decide +kernel,by decide +kernel⟩
theorem XD {f:Addr} {fd:FuncData} (F:Fun K "_law_take" "_law_take" (zn 13) f fd) (B:Blt mg):FnOk P w K mg base CX0 1 f fd ["_law_box_here", "_law_size"] qz:=by
  have nd:=Jf.nd
  refine F.ok Jf (fun vs H Q E h=>?_) (fun cdv A outer s H vs Q E hr h=>?_)
  · obtain ⟨b,size,n,rfl,_⟩:=h
    rfl
  · obtain ⟨b,size,n,rfl,⟨b0,b1,b2,hb,p0,p1,p1',p2,p2'⟩,hn,hs0,hs1,k⟩:=h
    refine ⟨_,(zg (z9 (zE JB (zP (zY (K:=K) rfl) (pv 0) zc (fun _ _=>rfl)) zc (zx _))
      (zg (jP (zi yO rfl B.divmod yQ (za (zP (zY (K:=K) rfl) (pv 0) zc (fun _ _=>rfl)) (za (pv 1) zb))) (jz rfl (zX (wH (pv 0) zc xn) (zX (zU (i:=2) nd rfl (Or.inl rfl)) qX))))
        (zk (zu (pv 2))))
      zM)
      (zg (jP (zo zH (zP (zY (K:=K) rfl) (pv 0) zc (fun _ _=>rfl)) zc) (wH (pv 0) zc xn))
      (zg (zy (i:=3) nd rfl (Or.inl rfl) (zo zH zc (zo jd (zP (zY (K:=K) rfl) (pv 0) zc (fun _ _=>rfl)) (zP (zY (K:=K) rfl) (pv 0) zc (fun _ _=>rfl)))))
      (zg (zy (i:=4) nd rfl (Or.inl rfl) (zo qT (zo jd (zo zH (zP (zY (K:=K) rfl) (pv 0) zc (fun _ _=>rfl)) (zo jd zc (zP (zY (K:=K) rfl) (pv 0) zc (fun _ _=>rfl)))) (pv 3)) zc))
      (zg (zy (i:=5) nd rfl (Or.inl rfl) (zo qT (zo zH (zo jd (pv 4) (zo zH (zo qT (pv 4) zc) zc)) (zP (zY (K:=K) rfl) (pv 0) zc (fun _ _=>rfl))) zc))
      (zk (zu (zo qT (zo ZS (zo qT (zo jd (pv 5) (zo zH (zo qT (pv 5) zc) zc)) zc) zc) (pv 1))))))))),?_⟩
    refine ⟨_,rfl,b,_,_,_,rfl,rfl,SqL.of hb,rfl,_,_,rfl,rfl,_,rfl,?_⟩
    refine zW (fun c=>?_) (fun c=>?_)
    · refine ⟨_,rfl,b,_,_,_,rfl,rfl,SqL.of hb,rfl,_,rfl,_,_,rfl,⟨hs0,hs1⟩,fun p hp=>?_⟩
      have hbp:b ≠ p:=zr hb hp
      refine ⟨p,_,rfl,SqT.of zd,rfl,_,_,rfl,_,rfl,b,_,_,_,rfl,rfl,(by rw [zv hbp];exact hb),rfl,_,_,rfl,rfl,_,rfl,?_⟩
      refine k _ _ (Int.emod_nonneg _ (by omega)) (Int.emod_lt_of_pos _ hs0) ⟨_,b1,b2,zd,Int.ediv_nonneg p0 (by omega),p1,p1',p2,by omega⟩ fun d o e hd=>?_
      rw [zv hd,zv (zr e hp)]
      exact e
    · refine ⟨_,rfl,b,_,_,_,rfl,rfl,SqL.of hb,rfl,_,_,rfl,rfl,_,rfl,b,_,_,_,rfl,rfl,hb,rfl,?_⟩
      have hb1:upd H b (.lst [.int b0,.int b1,.int (b2 + 1)]) b = some (.lst [.int b0,.int b1,.int (b2 + 1)]):=zd
      refine ⟨_,rfl,b,_,_,_,rfl,rfl,SqL.of hb1,rfl,_,rfl,b,_,_,_,rfl,rfl,SqL.of hb1,rfl,_,_,rfl,rfl,xK (by omega) (by omega),_,_,rfl,rfl,?_⟩
      refine ⟨_,rfl,b,_,_,_,rfl,rfl,SqL.of hb1,rfl,_,rfl,b,_,_,_,rfl,rfl,SqL.of hb1,rfl,_,_,rfl,rfl,xK (by omega) (by omega),_,_,rfl,rfl,_,rfl,_,_,rfl,rfl,xK (by omega) (by omega),_,_,rfl,rfl,(by show (0:Int) < _;decide),?_⟩
      refine ⟨_,rfl,_,rfl,_,_,rfl,rfl,(by show (0:Int) < _;decide),_,_,rfl,rfl,_,_,rfl,rfl,Vl (by decide) (by decide),_,rfl,b,_,_,_,rfl,rfl,SqL.of hb1,rfl,_,_,rfl,rfl,_,_,rfl,rfl,(by show (0:Int) < _;decide),?_⟩
      refine ⟨_,rfl,_,rfl,_,_,rfl,rfl,(by show (0:Int) < _;decide),_,_,rfl,rfl,_,_,rfl,rfl,Vl (by decide) (by decide),_,_,rfl,rfl,(by show (0:Int) < _;decide),_,_,rfl,rfl,⟨by decide,by decide⟩,_,rfl,_,_,rfl,rfl,hs0,?_⟩
      refine k _ _ (Int.emod_nonneg _ (by omega)) (Int.emod_lt_of_pos _ hs0) ⟨b0,b1,b2 + 1,hb1,p0,p1,p1',by omega,by omega⟩ fun d o e hd=>?_
      rw [zv hd]
      exact e
inductive ZG (K:PySem.W.Frag) (vs:List V) (H:Hp) (Q:VK):Prop
  | mk (a:Addr) (ns:List Int) (j:Nat) (_:vs = [.ref a,.int j]) (_:SqL K H a (ns.map V.int)) (_:j <= 100) (_:∀ p o,H p = none -> BoxAt (upd H p o) p 0 -> Q (.ref p) (upd H p o)):ZG K vs H Q
def Jb (K:PySem.W.Frag):Sp:=fun vs H Q _=>ZG K vs H Q
theorem Vd:zG ["_law_script", "_law_k", "_law_cell"] ["_law_script", "_law_k"] (zj (zn 12)):=⟨rfl,rfl,rfl,by decide +kernel,rfl,by decide +kernel,by decide +kernel⟩
theorem Z7 {c:Int} {j:Nat} (hj:j <= 100):CMul (QU c) (if decide (10 ^ 18 <= QU c) = true then 1 else 0):=by
  refine .inr ?_
  split
  · exact ⟨by decide,by decide⟩
  · exact ⟨by decide,by decide⟩
theorem J5 {c:Int}:0 <= QU c * (if decide (10 ^ 18 <= QU c) = true then 1 else 0):=by
  have h:0 <= QU c:=by unfold QU;split <;> omega
  split
  · rw [Int.mul_one];exact h
  · rw [Int.mul_zero];exact Int.le_refl 0
theorem VJ {f:Addr} {fd:FuncData} (F:Fun K "_law_box" "_law_box" (zn 12) f fd) (B:Blt mg):FnOk P w K mg base CX0 1 f fd ["_law_script", "_law_k"] (Jb K):=by
  have nd:=Vd.nd
  refine F.ok Vd (fun vs H Q E h=>?_) (fun cdv A outer s H vs Q E hr h=>?_)
  · obtain ⟨a,ns,j,rfl,_⟩:=h
    rfl
  · obtain ⟨a,ns,j,rfl,hS,hj,k⟩:=h
    refine ⟨_,(zg (zy (i:=2) nd rfl (Or.inl rfl) (qo (zE Jy (pv 1) (zi (zK (K:=K) rfl) rfl B.len boot_len (za (pv 0) zb)) (zx _)) (zP (zY (K:=K) rfl) (pv 0) (pv 1) (fun _ _=>rfl)) zc))
      (zk (zu (zZ (za (zo jd (zi yP rfl B.abs yR (za (pv 2) zb)) (zV wj rfl B.int jS (za (qc Wm (zi yP rfl B.abs yR (za (pv 2) zb)) (zo Jx zc zc) (zx _)) zb))) (za (zo qT (zo jd (zo zH (zo zH (zo qT (pv 2) zc) (zo jd zc (pv 1))) zc) zc) zc) (za zc zb))))))),?_⟩
    refine ⟨_,rfl,_,rfl,a,_,rfl,.inl hS,_,_,rfl,rfl,_,rfl,?_⟩
    refine zW (fun c=>?_) (fun c=>?_)
    · have hl:j < ns.length:=by
        have:=of_decide_eq_true c
        rw [List.length_map] at this
        omega
      refine ⟨_,rfl,_,rfl,a,_,_,.int ns[j],rfl,rfl,hS,jH (by simp [hl]),?_⟩
      generalize ns[j] = z
      refine ⟨_,rfl,_,rfl,_,rfl,_,rfl,_,_,rfl,rfl,⟨by decide,by decide,by decide⟩,_,_,rfl,rfl,.inr ⟨_,rfl,_,_,rfl,rfl,Z7 hj,_,rfl,_,_,rfl,rfl,(by show (0:Int) < _;decide),_,rfl,_,_,rfl,rfl,xK (by decide) (by decide),_,_,rfl,rfl,_,_,rfl,rfl,_,_,rfl,rfl,?_,_,_,rfl,rfl,(by show (0:Int) < _;decide),(by rw [sizeLine_eq];exact (by decide:3 <= 16777216)),fun p hp=>k p _ hp ⟨_,_,_,zd,?_,?_,?_,by decide,by decide⟩⟩⟩
      · refine xK ?_ ?_
        · have:=Int.emod_nonneg z (show (2147483629:Int) ≠ 0 by decide)
          omega
        · have:=Int.emod_lt_of_pos z (show (0:Int) < 2147483629 by decide)
          omega
      · exact J5
      · exact Int.emod_nonneg _ (by decide)
      · exact Int.lt_trans (Int.emod_lt_of_pos _ (by decide)) (by decide)
    · refine ⟨_,rfl,_,rfl,_,rfl,_,rfl,_,_,rfl,rfl,⟨by decide,by decide,by decide⟩,_,_,rfl,rfl,.inr ⟨_,rfl,_,_,rfl,rfl,Z7 hj,_,rfl,_,_,rfl,rfl,(by show (0:Int) < _;decide),_,rfl,_,_,rfl,rfl,xK (by decide) (by decide),_,_,rfl,rfl,_,_,rfl,rfl,_,_,rfl,rfl,?_,_,_,rfl,rfl,(by show (0:Int) < _;decide),(by rw [sizeLine_eq];exact (by decide:3 <= 16777216)),fun p hp=>k p _ hp ⟨_,_,_,zd,?_,?_,?_,by decide,by decide⟩⟩⟩
      · refine xK ?_ ?_
        · have:=Int.emod_nonneg 0 (show (2147483629:Int) ≠ 0 by decide)
          omega
        · have:=Int.emod_lt_of_pos 0 (show (0:Int) < 2147483629 by decide)
          omega
      · exact J5
      · exact Int.emod_nonneg _ (by decide)
      · exact Int.lt_trans (Int.emod_lt_of_pos _ (by decide)) (by decide)
end
theorem J2 {xs:List V} {lo hi:Option Int} {x:V} (h:x ∈ qg xs lo hi):x ∈ xs:=List.mem_of_mem_drop (List.mem_of_mem_take h)
theorem XU {n j:Nat} (h:j < n):ixN n (j:Int) = some j:=by
  unfold ixN
  rw [if_pos (by omega),if_pos (by omega)];simp
theorem J3 (ns:List Int) (lo hi:Option Int):∃ ms:List Int,qg (ns.map V.int) lo hi = ms.map V.int:=by
  refine ⟨(ns.drop (HT.sIx ns.length 0 lo)).take (HT.sIx ns.length ns.length hi - HT.sIx ns.length 0 lo),?_⟩
  unfold qg
  rw [List.length_map,List.map_take,List.map_drop]
theorem XZ (ns:List Int) (z:Nat):(qg (ns.map V.int) none (some (z:Int))).length = min z ns.length:=by
  unfold qg
  rw [HT.sIx_nat,HT.sIx_none,List.length_take,List.length_drop,List.length_map]
  omega
theorem X0 (ns:List Int) (z:Nat) (hi:Option Int):(qg (ns.map V.int) (some (z:Int)) hi).length <= ns.length - min z ns.length:=by
  unfold qg
  rw [HT.sIx_nat,List.length_take,List.length_drop,List.length_map]
  omega
section
variable {P:Program} {w:World} {K:PySem.W.Frag} {mg:Str -> Option Value} {base:Heap}
inductive yo (K:PySem.W.Frag) (vs:List V) (H:Hp) (Q:VK):Prop
  | mk (a:Addr) (ns:List Int) (z:Nat) (_:vs = [.ref a,.int z]) (_:SqL K H a (ns.map V.int)) (_:ns.length <= 63) (_:1 <= z) (_:z <= 63) (_:∀ (p:Addr) (ms:List Int) H',Same H H' -> SqL K H' p (ms.map V.int) -> ms.length <= z -> Q (.ref p) H'):yo K vs H Q
def Zf (K:PySem.W.Frag):Sp:=fun vs H Q _=>yo K vs H Q
theorem Jm:zG ["_law_script", "_law_size", "_law_cells", "_law_k", "_law_cell"] ["_law_script", "_law_size"] (zj (zn 14)):=⟨rfl,rfl,rfl,by decide +kernel,rfl,by decide +kernel,by decide +kernel⟩
def Qq (a:_) (z:Nat) (p:_) (H:_) (q:_) (ns:List Int):=fun (i:Nat) (σ:St) (H2:Hp)=>(Ex3 fun (ms:List Int) (v3 v4:Option V)=>An5 (σ = [some (.ref a),some (.int z),some (.ref p),v3,v4]) (Same H H2) (H2 p = some (.lst (ms.map V.int))) (H2 q = some (.lst (qg (ns.map V.int) (some (z:Int)) (some 63)))) (ms.length = min z ns.length):Prop)
theorem XJ {f:Addr} {fd:FuncData} (F:Fun K "_law_folded" "_law_folded" (zn 14) f fd) (B:Blt mg):FnOk P w K mg base CX0 1 f fd ["_law_script", "_law_size"] (Zf K):=by
  have nd:=Jm.nd
  refine F.ok Jm (fun vs H Q E h=>?_) (fun cdv A outer s H vs Q E hr h=>?_)
  · obtain ⟨a,ns,z,rfl,_⟩:=h
    rfl
  · obtain ⟨a,ns,z,rfl,hS,hlen,hz1,hz2,k⟩:=h
    refine ⟨_,(zg (zy (i:=2) nd rfl (Or.inl rfl) (zV (vM (K:=K) rfl) rfl B.list qx (za (zC (vj (K:=K) rfl) (pv 0) zT (zD (pv 1))) zb)))
      (zg (qM PassesOwn.never rfl (Xt rfl B.enumerate (za (zC (vj (K:=K) rfl) (pv 0) (zD (pv 1)) (zD zc)) zb)) (jz rfl (zX (zU (i:=3) nd rfl (Or.inl rfl)) (zX (zU (i:=4) nd rfl (Or.inl rfl)) qX)))
      (zk (jP (zo zH (zP (zY (K:=K) rfl) (pv 2) (zo qT (pv 3) (pv 1)) (fun _ _=>rfl)) (zo jd (pv 4) (zo zH (pv 3) zc))) (wH (pv 2) (zo qT (pv 3) (pv 1)) xn))))
      (zk (zu (pv 2))))),?_⟩
    refine ⟨_,rfl,_,rfl,_,rfl,a,_,rfl,hS,fun l hl=>⟨l,_,rfl,.inl (SqL.of zd),fun p hp=>?_⟩⟩
    have s1:Same H (upd (upd H l (.lst (qg (ns.map V.int) none (some (z:Int))))) p (.lst (qg (ns.map V.int) none (some (z:Int))))):=(ze hl).trans (ze hp)
    generalize hH1:upd (upd H l (.lst (qg (ns.map V.int) none (some (z:Int))))) p (.lst (qg (ns.map V.int) none (some (z:Int)))) = H1 at s1
    have hp1:H1 p = some (.lst (qg (ns.map V.int) none (some (z:Int)))):=by rw [<- hH1];exact zd
    have np:H p = none:=(ze hl).free hp
    refine ⟨_,rfl,_,rfl,_,rfl,_,rfl,a,_,rfl,s1.seq hS,fun q hq=>⟨q,rfl,⟨_,SqL.of zd⟩,?_⟩⟩
    have npq:p ≠ q:=zr hp1 hq
    obtain ⟨ms0,hms0⟩:=J3 ns none (some (z:Int))
    have lo:=XZ ns z
    have hi:=X0 ns z (some 63)
    refine JW (K:=K) (a:=q) (xs:=qg (ns.map V.int) (some (z:Int)) (some 63)) (Qq a z p H q ns)
      ⟨ms0,none,none,rfl,s1.trans (ze hq),by rw [zv npq,hp1,hms0],zd,by rw [<- lo,hms0,List.length_map]⟩ (fun i σ H2 _ ⟨_,_,_,_,_,_,h,_⟩=>SqL.of h) ?_ ?_
    · rintro i x σ H2 T hx ⟨ms,v3,v4,rfl,sm,hp2,hq2,hml⟩ hT
      have hil:i < (qg (ns.map V.int) (some (z:Int)) (some 63)).length:=(List.getElem?_eq_some_iff.mp hx).1
      obtain ⟨c,rfl⟩:∃ c,x = V.int c:=by
        have:=J2 (List.mem_of_getElem? hx)
        obtain ⟨c,_,e⟩:=List.mem_map.mp this
        exact ⟨c,e.symm⟩
      have hj:i % z < ms.length:=by
        have:=Nat.mod_lt i (show 0 < z by omega)
        omega
      have npT:p ≠ T:=zr hp2 hT
      have nqT:q ≠ T:=zr hq2 hT
      have hp3:upd H2 T (.tup [.int i,.int c]) p = some (.lst (ms.map V.int)):=by rw [zv npT];exact hp2
      have em:((i % z:Nat):Int) = (i:Int) % (z:Int):=Int.natCast_emod i z
      have hz0:(0:Int) < (z:Int):=by omega
      refine ⟨T,_,rfl,SqT.of zd,rfl,_,_,rfl,_,_,rfl,rfl,?_⟩
      refine ⟨_,rfl,_,rfl,_,rfl,_,_,rfl,rfl,hz0,p,_,_,.int ms[i % z],rfl,rfl,SqL.of hp3,(by rw [<- em];exact jH (by simp [hj])),?_⟩
      refine ⟨_,rfl,_,rfl,_,_,rfl,rfl,_,_,rfl,rfl,.inr ⟨?_,?_⟩,_,_,rfl,rfl,?_⟩
      · have e1:(-(2 ^ 64):Int) = -18446744073709551616:=by decide
        rw [e1];omega
      · have e2:((2 ^ 64):Int) = 18446744073709551616:=by decide
        rw [e2];omega
      refine ⟨_,rfl,_,rfl,_,rfl,_,_,rfl,rfl,hz0,p,_,_,i % z,rfl,rfl,hp3,(by rw [<- em,List.length_map];exact XU hj),?_⟩
      refine ⟨ms.set (i % z) (ms[i % z] + c * ((i:Int) + 2)),_,_,rfl,fun d o e=>?_,by rw [zd,List.map_set],?_,by rw [List.length_set];exact hml⟩
      · rw [zv (zr e np),zv (zr (sm d o e) hT)]
        exact sm d o e
      · rw [zv (Ne.symm npq),zv nqT]
        exact hq2
    · rintro σ H2 ⟨ms,v3,v4,rfl,sm,hp2,hq2,hml⟩
      exact ⟨_,rfl,k p ms H2 sm (SqL.of hp2) (by omega)⟩
end
theorem xa:[V.ty "list",V.ty "tuple"].length <= sizeLine:=by rw [sizeLine_eq];exact (by decide:2 <= 16777216)
section
variable {P:Program} {w:World} {K:PySem.W.Frag} {mg:Str -> Option Value} {base:Heap}
def spS (K:PySem.W.Frag):Nat -> Sp
  | 0=>fun _ _ _ _=>False
  | n + 1=>fun vs H Q _=>∃ d f v,vs = [f,v] /\ Rep K H d f /\ Rep K H d v /\ Dat.ok n d /\ ∀ H',Same H H' -> Q (.bl true) H'
theorem Jh:zG ["_law_found", "_law_due"] ["_law_found", "_law_due"] (zj (zn 15)):=⟨rfl,rfl,rfl,by decide +kernel,rfl,by decide +kernel,by decide +kernel⟩
theorem ZU {f:Addr} {fd:FuncData} (F:Fun K "_law_same" "_law_same" (zn 15) f fd) (B:Blt mg) (hm:mg "_law_same" = some (.ref f)) (hb:Binds K fd ["_law_found", "_law_due"] []) :
    ∀ n:Nat,FnOk P w K mg base CX0 n f fd ["_law_found", "_law_due"] (spS K n)
  | 0=>⟨fun _ _ _ _ h=>h.elim,fun _ _ _ _ _ _ _ _ _ _ _ _ _ h=>h.elim⟩
  | n + 1=>by
    have D_same:Dfn P w K mg base "_law_same" n ["_law_found", "_law_due"] (spS K n):=⟨f,fd,ZU F B hm hb n,hm,F.kp,hb⟩
    have nd:=Jh.nd
    refine F.ok Jh (fun vs H Q E h=>?_) (fun cdv A outer s H vs Q E hr h=>?_)
    · obtain ⟨d,g,v,rfl,_⟩:=h
      rfl
    · obtain ⟨d,g,v,rfl,rg,rv,ok,k⟩:=h
      refine ⟨_,(zg (z9 (z7 (zi xD rfl B.isinstance boot_isinstance (za (pv 1) (za (zw (za (zN (v:=.ty "list") rfl B.list qx rfl) (za (zN (v:=.ty "tuple") rfl B.tuple zJ rfl) zb))) zb))))
      (zg (z9 (PW.pt (jr (qC (z7 (zi xD rfl B.isinstance boot_isinstance (za (pv 0) (za (zw (za (zN (v:=.ty "list") rfl B.list qx rfl) (za (zN (v:=.ty "tuple") rfl B.tuple zJ rfl) zb))) zb))))) (jw (zE yy (zi (qB (K:=K) rfl) rfl B.isinstance boot_isinstance (za (pv 0) (za (zN (v:=.ty "list") rfl B.list qx rfl) zb))) (zi (qB (K:=K) rfl) rfl B.isinstance boot_isinstance (za (pv 1) (za (zN (v:=.ty "list") rfl B.list qx rfl) zb))) (zx _)))))
        (zk (zu qD))
        zM)
        (zk (zu (qH (qc qe (zi (zK (K:=K) rfl) rfl B.len boot_len (za (pv 0) zb)) (zi (zK (K:=K) rfl) rfl B.len boot_len (za (pv 1) zb)) (zx _)) (qS (zi (Zr (K:=K) rfl rfl) rfl B.all boot_all (za (Jv [] [] rfl rfl (by kernel_rfl) (Vz rfl B.zip (za (pv 0) (za (pv 1) zb))) (fun C0 s0 H0 ex0=>qN) (fun C0 s0 H0 ex0=>(zf D_same (hr.mono (by first | decide | exact Nat.le_refl _ | omega)) rfl (za (pv 0) (za (pv 1) zb))))) zb)))))))
      zM)
      (zg (z9 (PW.pt (jr (zE Jz (pv 1) vp (zx _)) (jw (z7 (zi (qB (K:=K) rfl) rfl B.isinstance boot_isinstance (za (pv 1) (za (zN (v:=.ty "str") rfl B.str jh rfl) zb)))))))
      (zk (zu (qH (qc qe (pv 0) (pv 1) (zx _)) (qS (qc qe (zi (qB (K:=K) rfl) rfl B.isinstance boot_isinstance (za (pv 0) (za (zN (v:=.ty "str") rfl B.str jh rfl) zb))) (zi (qB (K:=K) rfl) rfl B.isinstance boot_isinstance (za (pv 1) (za (zN (v:=.ty "str") rfl B.str jh rfl) zb))) (zx _))))))
      zM)
      (zk (zu (qH (zi (qB (K:=K) rfl) rfl B.isinstance boot_isinstance (za (pv 0) (za (zN (v:=.ty "int") rfl B.int jS rfl) zb))) (qH (qc qe (zi (qB (K:=K) rfl) rfl B.isinstance boot_isinstance (za (pv 0) (za (zN (v:=.ty "bool") rfl B.bool ju rfl) zb))) (zi (qB (K:=K) rfl) rfl B.isinstance boot_isinstance (za (pv 1) (za (zN (v:=.ty "bool") rfl B.bool ju rfl) zb))) (zx _)) (qS (qc qe (pv 0) (pv 1) (zx _))))))))),?_⟩
      refine ⟨_,rfl,xa,fun p hp=>⟨v,d.tyN,p,["list", "tuple"],rfl,(rv.same (ze hp)).ty,zd,(by decide),_,rfl,?_⟩⟩
      have s1:Same H (upd H p (.tup [V.ty "list",V.ty "tuple"])):=ze hp
      have rg1:=rg.same s1
      have rv1:=rv.same s1
      generalize upd H p (.tup [V.ty "list",V.ty "tuple"]) = H1 at s1 rg1 rv1
      cases d with
      | non=>
        cases (show g = _ from rg);cases (show v = _ from rv)
        refine ifF rfl ⟨_,rfl,rfl,_,rfl,ifT (by simp) (ifT rfl ?_)⟩
        refine ⟨_,rfl,_,rfl,rfl,_,rfl,ifT (by simp) ⟨_,rfl,_, "NoneType", "str",rfl,rg1.ty,(by decide),_,rfl,_, "NoneType", "str",rfl,rv1.ty,(by decide),rfl,?_⟩⟩
        have:=k H1 s1
        simpa using this
      | str x=>
        cases (show g = _ from rg);cases (show v = _ from rv)
        refine ifF rfl ⟨_,rfl,rfl,_,rfl,ifF (by simp) ⟨_,rfl,_, "str", "str",rfl,rv1.ty,(by decide),_,rfl,ifT (by decide) ?_⟩⟩
        refine ⟨_,rfl,_,rfl,rfl,_,rfl,ifT (by simp) ⟨_,rfl,_, "str", "str",rfl,rg1.ty,(by decide),_,rfl,_, "str", "str",rfl,rv1.ty,(by decide),rfl,?_⟩⟩
        have:=k H1 s1
        simpa using this
      | bl b=>
        cases (show g = _ from rg);cases (show v = _ from rv)
        refine ifF rfl ⟨_,rfl,rfl,_,rfl,ifF (by simp) ⟨_,rfl,_, "bool", "str",rfl,rv1.ty,(by decide),_,rfl,ifF (by decide) ?_⟩⟩
        refine ⟨_,rfl,_, "bool", "int",rfl,rg1.ty,(by decide),_,rfl,ifT (by decide) ⟨_,rfl,_, "bool", "bool",rfl,rg1.ty,(by decide),_,rfl,_, "bool", "bool",rfl,rv1.ty,(by decide),rfl,_,rfl,ifT (by simp) ⟨_,rfl,_,rfl,rfl,?_⟩⟩⟩
        have:=k H1 s1
        simpa using this
      | int b=>
        cases (show g = _ from rg);cases (show v = _ from rv)
        refine ifF rfl ⟨_,rfl,rfl,_,rfl,ifF (by simp) ⟨_,rfl,_, "int", "str",rfl,rv1.ty,(by decide),_,rfl,ifF (by decide) ?_⟩⟩
        refine ⟨_,rfl,_, "int", "int",rfl,rg1.ty,(by decide),_,rfl,ifT (by decide) ⟨_,rfl,_, "int", "bool",rfl,rg1.ty,(by decide),_,rfl,_, "int", "bool",rfl,rv1.ty,(by decide),rfl,_,rfl,ifT (by simp) ⟨_,rfl,_,rfl,rfl,?_⟩⟩⟩
        have:=k H1 s1
        simpa using this
      | lst ds=>
        obtain ⟨a,xs,rfl,hx,rx⟩:=rg1
        obtain ⟨b,ys,rfl,hy,ry⟩:=rv1
        cases n with
        | zero=>exact (show False from ok).elim
        | succ n=>
          obtain ⟨hlen,hall⟩:ds.length <= 1000000 /\ ∀ d ∈ ds,Dat.ok n d:=ok
          have lx:=rx.len
          have ly:=ry.len
          have hbig:1000000 < sizeLine:=by rw [sizeLine_eq];decide
          refine ifT rfl ?_
          refine ⟨_,rfl,xa,fun p2 hp2=>⟨.ref a, "list",p2,["list", "tuple"],rfl,(.inl ⟨rfl,xs,(ze hp2).seq hx⟩),zd,(by decide),_,rfl,ifF rfl ?_⟩⟩
          have s2:Same H1 (upd H1 p2 (.tup [V.ty "list",V.ty "tuple"])):=ze hp2
          have hx2:=s2.seq hx
          have hy2:=s2.seq hy
          have rx2:=rx.same s2
          have ry2:=ry.same s2
          have s3:=s1.trans s2
          generalize upd H1 p2 (.tup [V.ty "list",V.ty "tuple"]) = H2 at s2 s3 hx2 hy2 rx2 ry2
          refine ⟨_,rfl,.ref a, "list", "list",rfl,(.inl ⟨rfl,xs,hx2⟩),(by decide),_,rfl,.ref b, "list", "list",rfl,(.inl ⟨rfl,ys,hy2⟩),(by decide),rfl,_,rfl,ifF (by decide) ?_⟩
          refine ⟨_,rfl,a,xs,rfl,(.inl hx2),_,rfl,b,ys,rfl,(.inl hy2),rfl,_,rfl,ifT (by simp [lx,ly]) ?_⟩
          refine ⟨_,rfl,_,rfl,true,true,a,b,rfl,⟨xs,hx2⟩,⟨ys,hy2⟩,?_⟩
          refine JQ (K:=K) (k1:=true) (k2:=true) (xs:=xs) (ys:=ys) (fun i zs H3=>zs = List.replicate i (V.bl true) /\ Same H2 H3) ⟨rfl,Same.refl _⟩ (fun i zs H3 ⟨_,sm⟩=>⟨sm.seq hx2,sm.seq hy2⟩) ?_ ?_
          · rintro i x y zs H3 T e1 e2 ⟨rfl,sm⟩ hT
            have hi:i < ds.length:=by have:=(List.getElem?_eq_some_iff.mp e1).1;omega
            obtain ⟨d1,q1,r1⟩:=rx2.get e1
            obtain ⟨d2,q2,r2⟩:=ry2.get e2
            rw [q1] at q2;cases q2
            have s4:=sm.trans (ze (o:=.tup [x,y]) hT)
            refine ⟨T,_,rfl,SqT.of zd,rfl,_,_,rfl,_,_,rfl,rfl,rfl,?_⟩
            refine ⟨_,rfl,_,rfl,d1,x,y,rfl,r1.same s4,r2.same s4,hall d1 (List.mem_of_getElem? q1),fun H5 s5=>⟨?_,?_,s4.trans s5⟩⟩
            · rw [List.length_replicate];omega
            · rw [List.replicate_succ']
          · rintro zs H3 ⟨rfl,sm⟩
            refine ⟨by rw [List.length_replicate];omega,fun D hD=>⟨D,List.replicate (min xs.length ys.length) true,rfl,?_,?_⟩⟩
            · refine SqL.of ?_
              rw [zd,List.map_replicate]
            · have:=k _ (s3.trans (sm.trans (ze (o:=.lst (List.replicate (min xs.length ys.length) (V.bl true))) hD)))
              simpa using this
      | tup ds=>
        obtain ⟨a,xs,rfl,hx,rx⟩:=rg1
        obtain ⟨b,ys,rfl,hy,ry⟩:=rv1
        cases n with
        | zero=>exact (show False from ok).elim
        | succ n=>
          obtain ⟨hlen,hall⟩:ds.length <= 1000000 /\ ∀ d ∈ ds,Dat.ok n d:=ok
          have lx:=rx.len
          have ly:=ry.len
          have hbig:1000000 < sizeLine:=by rw [sizeLine_eq];decide
          refine ifT rfl ?_
          refine ⟨_,rfl,xa,fun p2 hp2=>⟨.ref a, "tuple",p2,["list", "tuple"],rfl,(.inr ⟨rfl,xs,(ze hp2).sqT hx⟩),zd,(by decide),_,rfl,ifF rfl ?_⟩⟩
          have s2:Same H1 (upd H1 p2 (.tup [V.ty "list",V.ty "tuple"])):=ze hp2
          have hx2:=s2.sqT hx
          have hy2:=s2.sqT hy
          have rx2:=rx.same s2
          have ry2:=ry.same s2
          have s3:=s1.trans s2
          generalize upd H1 p2 (.tup [V.ty "list",V.ty "tuple"]) = H2 at s2 s3 hx2 hy2 rx2 ry2
          refine ⟨_,rfl,.ref a, "tuple", "list",rfl,(.inr ⟨rfl,xs,hx2⟩),(by decide),_,rfl,.ref b, "tuple", "list",rfl,(.inr ⟨rfl,ys,hy2⟩),(by decide),rfl,_,rfl,ifF (by decide) ?_⟩
          refine ⟨_,rfl,a,xs,rfl,(.inr hx2),_,rfl,b,ys,rfl,(.inr hy2),rfl,_,rfl,ifT (by simp [lx,ly]) ?_⟩
          refine ⟨_,rfl,_,rfl,false,false,a,b,rfl,⟨xs,hx2⟩,⟨ys,hy2⟩,?_⟩
          refine JQ (K:=K) (k1:=false) (k2:=false) (xs:=xs) (ys:=ys) (fun i zs H3=>zs = List.replicate i (V.bl true) /\ Same H2 H3) ⟨rfl,Same.refl _⟩ (fun i zs H3 ⟨_,sm⟩=>⟨sm.sqT hx2,sm.sqT hy2⟩) ?_ ?_
          · rintro i x y zs H3 T e1 e2 ⟨rfl,sm⟩ hT
            have hi:i < ds.length:=by have:=(List.getElem?_eq_some_iff.mp e1).1;omega
            obtain ⟨d1,q1,r1⟩:=rx2.get e1
            obtain ⟨d2,q2,r2⟩:=ry2.get e2
            rw [q1] at q2;cases q2
            have s4:=sm.trans (ze (o:=.tup [x,y]) hT)
            refine ⟨T,_,rfl,SqT.of zd,rfl,_,_,rfl,_,_,rfl,rfl,rfl,?_⟩
            refine ⟨_,rfl,_,rfl,d1,x,y,rfl,r1.same s4,r2.same s4,hall d1 (List.mem_of_getElem? q1),fun H5 s5=>⟨?_,?_,s4.trans s5⟩⟩
            · rw [List.length_replicate];omega
            · rw [List.replicate_succ']
          · rintro zs H3 ⟨rfl,sm⟩
            refine ⟨by rw [List.length_replicate];omega,fun D hD=>⟨D,List.replicate (min xs.length ys.length) true,rfl,?_,?_⟩⟩
            · refine SqL.of ?_
              rw [zd,List.map_replicate]
            · have:=k _ (s3.trans (sm.trans (ze (o:=.lst (List.replicate (min xs.length ys.length) (V.bl true))) hD)))
              simpa using this
end
theorem le0:([]:List V).length <= sizeLine:=Nat.zero_le _
theorem le2 {x y:V}:[x,y].length <= sizeLine:=by rw [sizeLine_eq];exact (by decide:2 <= 16777216)
theorem SameB.refl (b:Addr) (H:Hp):SameB b H H:=fun _ _ e _=>e
theorem SameB.trans {b:Addr} {H H1 H2:Hp} (a:SameB b H H1) (c:SameB b H1 H2):SameB b H H2:=fun d o e hd=>c d o (a d o e hd) hd
theorem SameB.of {b:Addr} {H H1:Hp} (a:Same H H1):SameB b H H1:=fun d o e _=>a d o e
theorem SameB.new {b p:Addr} {o:HO} {H H1:Hp} (a:SameB b H H1) (h:H1 p = none):SameB b H (upd H1 p o):=a.trans (.of (ze h))
theorem BoxAt.new {b p:Addr} {o:HO} {H:Hp} {n:Int} (a:BoxAt H b n) (h:H p = none):BoxAt (upd H p o) b n:=by
  obtain ⟨b0,b1,b2,e,r⟩:=a
  exact ⟨b0,b1,b2,by rw [zv (zr e h)];exact e,r⟩
theorem BoxAt.same {b:Addr} {H H':Hp} {n:Int} (a:BoxAt H b n) (s:Same H H'):BoxAt H' b n:=by
  obtain ⟨b0,b1,b2,e,r⟩:=a
  exact ⟨b0,b1,b2,s _ _ e,r⟩
theorem BoxAt.ne {b t:Addr} {H:Hp} {n:Int} {o:HO} (a:BoxAt H b n) (h:H t = some o) (hl:∀ x y z,o ≠ .lst [x,y,z]):t ≠ b:=by
  obtain ⟨b0,b1,b2,e,r⟩:=a
  exact JK h e (hl _ _ _)
theorem BoxAt.some {b:Addr} {H:Hp} {n:Int} (a:BoxAt H b n):∃ o,H b = .some o:=let ⟨_,_,_,e,_⟩:=a;⟨_,e⟩
theorem BoxAt.mono {b:Addr} {H:Hp} {n m:Int} (a:BoxAt H b n) (h:n <= m):BoxAt H b m:=by
  obtain ⟨b0,b1,b2,e,p0,p1,p2,p3,p4⟩:=a
  exact ⟨b0,b1,b2,e,p0,p1,p2,p3,by omega⟩
theorem le1 {x:V}:[x].length <= sizeLine:=by rw [sizeLine_eq];exact (by decide:1 <= 16777216)
theorem le3 {x y z:V}:[x,y,z].length <= sizeLine:=by rw [sizeLine_eq];exact (by decide:3 <= 16777216)
theorem le4 {x y z u:V}:[x,y,z,u].length <= sizeLine:=by rw [sizeLine_eq];exact (by decide:4 <= 16777216)
theorem leN {xs:List V} (h:xs.length <= 1000):xs.length <= sizeLine:=by rw [sizeLine_eq];omega
theorem xh {α:Type} {xs:List α} {i:Int} (h:0 <= i) (h':i < xs.length):∃ v,atI xs i = some v /\ xs[i.toNat]? = some v:=by
  have hl:i.toNat < xs.length:=by omega
  refine ⟨xs[i.toNat],?_,by simp [hl]⟩
  have:=jH (xs:=xs) (j:=i.toNat) (v:=xs[i.toNat]) (by simp [hl])
  rwa [show ((i.toNat:Nat):Int) = i by omega] at this
theorem Wh {α:V -> Prop} {xs:List V} {r:Int} (h0:0 <= r) (h1:r < xs.length) (all:∀ x ∈ xs,α x):∃ v,atI xs r = some v /\ α v:=by
  obtain ⟨v,e,e'⟩:=xh h0 h1
  exact ⟨v,e,all v (List.mem_of_getElem? e')⟩
theorem fm0 {α:V -> Prop}:∀ y ∈ ([]:List V),α y:=fun y h=>nomatch h
theorem fm {α:V -> Prop} {x:V} {xs:List V} (h:α x) (hs:∀ y ∈ xs,α y):∀ y ∈ x :: xs,α y:=fun y hy=>(List.mem_cons.mp hy).elim (fun e=>e ▸ h) (hs y)
theorem SameB.put {b m:Addr} {H H':Hp} {o:HO} (s:SameB b H H') (h:H m = none):SameB b H (upd H' m o):=fun c u e hc=>by
  rw [zv (zr e h)];exact s c u e hc
theorem SameB.none {b m:Addr} {H H':Hp} (s:SameB b H H') (h:H' m = none) (hm:m ≠ b):H m = none:=by
  cases q:H m with
  | none=>rfl
  | some o=>have:=s m o q hm;rw [h] at this;cases this
def jD (x:Str):Prop:=(x.cps.toList.map yE).all id = true
theorem VO {r:Int} (h0:0 <= r) (h1:r < 26):∃ c,atI Wc.cps.toList r = some c /\ yE c = true:=by
  rw [JN]
  obtain ⟨c,e,e'⟩:=xh (xs:=List.range' 97 26) h0 (by rw [List.length_range'];omega)
  have hm:=List.mem_range'_1.mp (List.mem_of_getElem? e')
  refine ⟨c,e,?_⟩
  unfold yE
  rw [decide_eq_true (by omega),decide_eq_true (by omega)]
  rfl
theorem JM {c:Nat} {y:Str} (h:yE c = true) (hy:jD y):jD ((⟨#[c]⟩:Str) ++ y):=by
  unfold jD at hy ⊢
  show ((#[c] ++ y.cps).toList.map yE).all id = true
  rw [Array.toList_append,List.map_append,List.all_append,hy,Bool.and_true]
  show (yE c && true) = true
  rw [h];rfl
theorem JO {c:Nat} {y:Str}:((⟨#[c]⟩:Str) ++ y).length = y.length + 1:=by
  show (#[c] ++ y.cps).size = y.cps.size + 1
  rw [Array.size_append]
  show 1 + _ = _
  omega
theorem BoxAt.nne {b p:Addr} {H:Hp} {n:Int} (a:BoxAt H b n) (h:H p = none):p ≠ b:=by
  obtain ⟨o,e⟩:=a.some
  exact (zr e h).symm
theorem BoxAt.other {b l:Addr} {H:Hp} {n:Int} {o:HO} (a:BoxAt H b n) (h:l ≠ b):BoxAt (upd H l o) b n:=by
  obtain ⟨b0,b1,b2,e,r⟩:=a
  exact ⟨b0,b1,b2,by rw [zv (Ne.symm h)];exact e,r⟩
theorem Jt {α:V -> Prop} {H:Hp} {p:Addr} {xs:List V} {r:Int} (_:H p = some (.lst xs)) (h0:0 <= r) (h1:r < xs.length) (all:∀ x ∈ xs,α x):∃ v,atI xs r = some v /\ α v:=Wh h0 h1 all
def Nm (x:Str):Prop:=x.length <= 8 /\ ∀ c ∈ x.cps.toList,c < 1000000
theorem Wr {x:Str} (h:x.length <= 8) (l:jD x):Nm x:=⟨h,fun c hc=>by
  unfold jD at l
  have:=List.all_eq_true.mp l (yE c) (List.mem_map.mpr ⟨c,hc,rfl⟩)
  unfold yE at this
  simp at this
  omega⟩
theorem vR:∀ (ns:List Str),(ns.map V.str).all jl = true
  | []=>rfl
  | n :: ns=>by
    show (true && (ns.map V.str).all jl) = true
    rw [vR ns];rfl
section
variable {P:Program} {w:World} {K:PySem.W.Frag} {mg:Str -> Option Value} {base:Heap}
inductive vS (vs:List V) (H:Hp) (Q:VK):Prop
  | mk (num size:Int) (_:vs = [.int num,.int size]) (_:0 <= num) (_:1 <= size) (_:size <= 8) (_:∀ y:Str,(y.length:Int) = size -> jD y -> Q (.str y) H):vS  vs H Q
def wA:Sp:=fun vs H Q _=>vS  vs H Q
theorem ZK:zG ["_law_number", "_law_size", "_law_word", "_law_k"] ["_law_number", "_law_size"] (zj (zn 16)):=⟨rfl,rfl,rfl,by decide +kernel,rfl,by decide +kernel,by decide +kernel⟩
def Qp (size:_) (H:_):=fun (i:Nat) (σ:St) (H4:Hp)=>(Ex3 fun (num':Int) (y:Str) (v3:Option V)=>An5 (σ = [some (.int num'),some (.int size),some (.str y),v3]) (0 <= num') (y.length = i) (jD y) (H4 = H):Prop)
theorem JD {f:Addr} {fd:FuncData} (F:Fun K "_law_spelled" "_law_spelled" (zn 16) f fd) (B:Blt mg):FnOk P w K mg base CX0 1 f fd ["_law_number", "_law_size"] wA:=by
  have nd:=ZK.nd
  refine F.ok ZK (fun vs H Q E h=>?_) (fun cdv A outer s H vs Q E hr h=>?_)
  · obtain ⟨num,size,rfl,_⟩:=h
    rfl
  · obtain ⟨num,size,rfl,n0,s0,s1,k⟩:=h
    have hbig:100000 < sizeLine:=by rw [sizeLine_eq];decide
    have e62:(2:Int) ^ 62 = 4611686018427387904:=by decide
    refine ⟨_,(zg (zy (i:=2) nd rfl (Or.inl rfl) jA)
      (zg (qM PassesOwn.never rfl (qm rfl B.range (za (pv 1) zb)) (zU (i:=3) nd rfl (Or.inl rfl))
      (zg (zy (i:=2) nd rfl (Or.inl rfl) (zo qP (zP Zm jA (zo qT (pv 0) zc) (fun _ _=>rfl)) (pv 2)))
        (zk (zy (i:=0) nd rfl (Or.inl rfl) (zo ZS (pv 0) zc)))))
      (zk (zu (pv 2))))),?_⟩
    refine ⟨_,rfl,_,rfl,(by rw [e62];omega),(by rw [e62];omega),?_⟩
    refine qA (Qp size H) ⟨num,_,_,rfl,n0,rfl,rfl,rfl⟩ ?_ ?_
    · rintro i σ H4 hi ⟨num',y,v3,rfl,m0,ly,al,rfl⟩
      obtain ⟨c,hc,lc⟩:=VO (r:=num' % 26) (Int.emod_nonneg _ (by decide)) (Int.emod_lt_of_pos _ (by decide))
      refine ⟨_,rfl,_,_,rfl,rfl,(by show (0:Int) < 26;decide),_,_,c,rfl,rfl,(by rw [sizeLine_eq];decide),hc,_,rfl,_,_,rfl,rfl,?_,?_⟩
      · show 1 + y.length <= sizeLine
        omega
      · exact ⟨_,rfl,_,_,rfl,rfl,⟨by decide,by decide⟩,_,_,_,rfl,Int.ediv_nonneg m0 (by decide),by rw [JO,ly],JM lc al,rfl⟩
    · rintro σ H4 ⟨num',y,v3,rfl,m0,ly,al,rfl⟩
      exact ⟨_,rfl,k y (by omega) al⟩
inductive ZB (vs:List V) (H:Hp) (Q:VK):Prop
  | mk (b t:Addr) (n:Int) (ts:List Str) (_:vs = [.ref b,.ref t]) (_:BoxAt H b n) (_:n < 1099511000000) (_:t ≠ b) (_:H t = some (.lst (ts.map V.str))) (_:ts.length <= 1000) (_:∀ (y:Str) H',SameB b H H' -> BoxAt H' b (n + 12) -> 1 <= y.length -> y.length <= 8 -> jD y -> Q (.str y) H'):ZB  vs H Q
def Ja:Sp:=fun vs H Q _=>ZB  vs H Q
theorem X8:zG ["_law_box_here", "_law_taken", "_law_size", "_law_number", "_law_k", "_law_word", "_law_turn"] ["_law_box_here", "_law_taken"] (zj (zn 17)):=⟨rfl,rfl,rfl,by decide +kernel,rfl,by decide +kernel,by decide +kernel⟩
theorem Vy {r:Int} (h0:0 <= r) (h1:r < 4):∃ z:Int,atI [V.int 3,V.int 3,V.int 3,V.int 8] r = some (.int z) /\ 3 <= z /\ z <= 8:=by
  have hc:r = 0 \/ r = 1 \/ r = 2 \/ r = 3:=by omega
  rcases hc with rfl | rfl | rfl | rfl
  · exact ⟨3,rfl,by decide,by decide⟩
  · exact ⟨3,rfl,by decide,by decide⟩
  · exact ⟨3,rfl,by decide,by decide⟩
  · exact ⟨8,rfl,by decide,by decide⟩
def Qo (b:_) (t:_) (r2:_) (H:_) (n:_):=fun (i:Nat) (σ:St) (H4:Hp)=>(Ex2 fun (num:Int) (v4:Option V)=>An4 (σ = [some (.ref b),some (.ref t),some (.int (1 + r2)),some (.int num),v4,none,none]) (0 <= num) (SameB b H H4) (BoxAt H4 b (n + 2 + i)):Prop)
def Qn (b:_) (t:_) (r2:_) (num:_) (H4:_):=fun (i:Nat) (σ:St) (H5:Hp)=>(Ex3 fun (v4 v6:Option V) (y:Str)=>An5 (σ = [some (.ref b),some (.ref t),some (.int (1 + r2)),some (.int num),v4,some (.str y),v6]) (1 <= y.length) (y.length <= 8) (jD y) (H5 = H4):Prop)
theorem VE {f:Addr} {fd:FuncData} (F:Fun K "_law_name" "_law_name" (zn 17) f fd) (B:Blt mg) (D_take:Dfn P w K mg base "_law_take" 1 ["_law_box_here", "_law_size"] qz) (D_spelled:Dfn P w K mg base "_law_spelled" 1 ["_law_number", "_law_size"] wA):FnOk P w K mg base CX0 2 f fd ["_law_box_here", "_law_taken"] Ja:=by
  have nd:=X8.nd
  refine F.ok X8 (fun vs H Q E h=>?_) (fun cdv A outer s H vs Q E hr h=>?_)
  · obtain ⟨b,t,n,ts,rfl,_⟩:=h
    rfl
  · obtain ⟨b,t,n,ts,rfl,B0,hn,ntb,ht,htl,k⟩:=h
    have e62:(2:Int) ^ 62 = 4611686018427387904:=by decide
    refine ⟨_,(zg (zy (i:=2) nd rfl (Or.inl rfl) (zo zH zc (zf D_take (hr.mono (by first | decide | exact Nat.le_refl _ | omega)) rfl (za (pv 0) (za (zP (zY (K:=K) rfl) (zZ (za zc (za zc (za zc (za zc zb))))) (zf D_take (hr.mono (by first | decide | exact Nat.le_refl _ | omega)) rfl (za (pv 0) (za zc zb))) (fun _ _=>rfl)) zb)))))
      (zg (zy (i:=3) nd rfl (Or.inl rfl) zc)
      (zg (qM PassesOwn.never rfl (qm rfl B.range (za (pv 2) zb)) (zU (i:=4) nd rfl (Or.inl rfl))
      (zk (zy (i:=3) nd rfl (Or.inl rfl) (zo zH (zo jd (pv 3) zc) (zf D_take (hr.mono (by first | decide | exact Nat.le_refl _ | omega)) rfl (za (pv 0) (za zc zb)))))))
      (zg (zy (i:=5) nd rfl (Or.inl rfl) (zf D_spelled (hr.mono (by first | decide | exact Nat.le_refl _ | omega)) rfl (za (pv 3) (za (pv 2) zb))))
      (zg (qM PassesOwn.never rfl (qm rfl B.range (za (zo zH (zi (zK (K:=K) rfl) rfl B.len boot_len (za (pv 1) zb)) zc) zb)) (zU (i:=6) nd rfl (Or.inl rfl))
      (zk (z9 (zE (Zj (K:=K) rfl) (pv 5) (pv 1) (by with_unfolding_all rfl))
        (zk (zy (i:=5) nd rfl (Or.inl rfl) (zf D_spelled (hr.mono (by first | decide | exact Nat.le_refl _ | omega)) rfl (za (zo zH (pv 3) (pv 6)) (za zc zb)))))
        zM)))
      (zk (zu (pv 5)))))))),?_⟩
    refine ⟨_,rfl,le4,fun l hl=>⟨_,rfl,b,4,n,rfl,B0.new hl,by omega,by decide,by decide,fun r H1 r0 r1 B1 S1=>?_⟩⟩
    have L1:=S1 l _ (zd (H:=H)) ((B0.new hl).ne (zd (H:=H) (o:=.lst [.int 3,.int 3,.int 3,.int 8])) (by intro x y z e;cases e))
    have S1':=((SameB.refl b H).new (o:=.lst [.int 3,.int 3,.int 3,.int 8]) hl).trans S1
    obtain ⟨z,ez,z0,z1⟩:=Vy r0 r1
    refine ⟨l,_,_,_,rfl,rfl,SqL.of L1,ez,b,z,n + 1,rfl,B1,by omega,by omega,by omega,fun r2 H2 a0 a1 B2 S2=>⟨_,_,rfl,rfl,?_⟩⟩
    have S2':=S1'.trans S2
    refine ⟨_,rfl,_,rfl,(by rw [e62];omega),(by rw [e62];omega),?_⟩
    refine qA (Qo b t r2 H n) ⟨0,_,rfl,by decide,S2',B2.mono (by omega)⟩ ?_ ?_
    · rintro i σ H4 hi ⟨num,v4,rfl,m0,S4,B4⟩
      refine ⟨_,rfl,_,_,rfl,rfl,.inr ⟨by decide,by decide⟩,_,rfl,b,26,_,rfl,B4,by omega,by decide,by decide,fun r3 H5 c0 c1 B5 S5=>⟨_,_,rfl,rfl,_,_,rfl,?_,S4.trans S5,B5.mono (by omega)⟩⟩
      omega
    · rintro σ H4 ⟨num,v4,rfl,m0,S4,B4⟩
      refine ⟨_,rfl,_,rfl,num,1 + r2,rfl,m0,by omega,by omega,fun y ly al=>?_⟩
      have ht4:=S4 t _ ht ntb
      have el:(ts.map V.str).length = ts.length:=List.length_map ..
      refine ⟨_,rfl,t,_,rfl,.inl (SqL.of ht4),_,_,rfl,rfl,_,rfl,(by rw [e62,el];omega),(by rw [e62,el];omega),?_⟩
      refine qA (Qn b t r2 num H4) ⟨_,_,y,rfl,by omega,by omega,al,rfl⟩ ?_ ?_
      · rintro i σ H5 hi ⟨v4,v6,y,rfl,y0,y1,al,rfl⟩
        refine ⟨_,rfl,_,rfl,t,_,rfl,.inl (SqL.of ht4),rfl,vR ts,_,rfl,zW (fun c=>?_) (fun c=>⟨_,_,y,rfl,y0,y1,al,rfl⟩)⟩
        exact ⟨_,rfl,_,rfl,_,_,rfl,rfl,_,8,rfl,by omega,by decide,by decide,fun y' ly' al'=>⟨_,_,y',rfl,by omega,by omega,al',rfl⟩⟩
      · rintro σ H5 ⟨v4,v6,y,rfl,y0,y1,al,rfl⟩
        exact ⟨_,rfl,k y _ S4 (B4.mono (by omega)) y0 y1 al⟩
def Row (H:Hp) (l:Addr) (ns:List Str):Prop:=H l = some (.lst (ns.map V.str)) /\ ∀ x ∈ ns,Nm x
theorem Row.same {H H':Hp} {l:Addr} {ns:List Str} (r:Row H l ns) (s:Same H H'):Row H' l ns:=⟨s _ _ r.1,r.2⟩
theorem Row.draw {H H':Hp} {b l:Addr} {ns:List Str} (r:Row H l ns) (s:SameB b H H') (h:l ≠ b):Row H' l ns:=⟨s _ _ r.1 h,r.2⟩
inductive vW (vs:List V) (H:Hp) (Q:VK):Prop
  | mk (b:Addr) (m n:Int) (_:vs = [.ref b,.int m]) (_:BoxAt H b n) (_:n < 1000000) (_:0 <= m) (_:m <= 12) (_:∀ (l:Addr) (ns:List Str) H',SameB b H H' -> BoxAt H' b (n + 150) -> l ≠ b -> H l = none -> Row H' l ns -> (ns.length:Int) = m -> Q (.ref l) H'):vW  vs H Q
def wE:Sp:=fun vs H Q _=>vW  vs H Q
theorem ZO:zG ["_law_box_here", "_law_many", "_law_found", "_law_k"] ["_law_box_here", "_law_many"] (zj (zn 18)):=⟨rfl,rfl,rfl,by decide +kernel,rfl,by decide +kernel,by decide +kernel⟩
def Qm (b:_) (m:_) (l:_) (H:_) (n:_):=fun (i:Nat) (σ:St) (H4:Hp)=>(Ex2 fun (ns:List Str) (v3:Option V)=>An5 (σ = [some (.ref b),some (.int m),some (.ref l),v3]) (SameB b H H4) (BoxAt H4 b (n + 12 * i)) (Row H4 l ns) (ns.length = i):Prop)
theorem JH {f:Addr} {fd:FuncData} (F:Fun K "_law_names" "_law_names" (zn 18) f fd) (B:Blt mg) (D_name:Dfn P w K mg base "_law_name" 2 ["_law_box_here", "_law_taken"] Ja):FnOk P w K mg base CX0 3 f fd ["_law_box_here", "_law_many"] wE:=by
  have nd:=ZO.nd
  refine F.ok ZO (fun vs H Q E h=>?_) (fun cdv A outer s H vs Q E hr h=>?_)
  · obtain ⟨b,m,n,rfl,_⟩:=h
    rfl
  · obtain ⟨b,m,n,rfl,B0,hn,m0,m1,k⟩:=h
    have hbig:100000 < sizeLine:=by rw [sizeLine_eq];decide
    have e62:(2:Int) ^ 62 = 4611686018427387904:=by decide
    refine ⟨_,(zg (zy (i:=2) nd rfl (Or.inl rfl) (zZ zb))
      (zg (qM PassesOwn.never rfl (qm rfl B.range (za (pv 1) zb)) (zU (i:=3) nd rfl (Or.inl rfl))
      (zk (jY (vX PySem.F.plainAttrs_list PySem.F.slot_list_append PySem.F.type_list_append j2 (pv 2) (za (zf D_name (hr.mono (by first | decide | exact Nat.le_refl _ | omega)) rfl (za (pv 0) (za (pv 2) zb))) zb)))))
      (zk (zu (pv 2))))),?_⟩
    refine ⟨le0,fun l hl=>?_⟩
    have nl:=B0.nne hl
    refine ⟨_,rfl,_,rfl,(by rw [e62];omega),(by rw [e62];omega),?_⟩
    refine qA (Qm b m l H n) ⟨[],_,rfl,(SameB.refl b H).new hl,(B0.new hl).mono (by omega),⟨zd,fun x h=>nomatch h⟩,rfl⟩ ?_ ?_
    · rintro i σ H4 hi ⟨ns,v3,rfl,S4,B4,R4,nsl⟩
      refine ⟨_,rfl,.inl ⟨rfl,_,SqL.of R4.1⟩,_,rfl,_,rfl,b,l,_,ns,rfl,B4,by omega,nl,R4.1,by omega,fun y H5 S5 B5 y0 y1 al=>⟨l,_,_,rfl,rfl,(R4.draw S5 nl).1,by rw [List.length_map,nsl];omega,?_⟩⟩
      refine ⟨ns ++ [y],_,rfl,(S4.trans S5).put hl,(B5.other nl).mono (by omega),⟨by rw [zd,List.map_append];rfl,fun x hx=>?_⟩,by rw [List.length_append,nsl];rfl⟩
      rcases List.mem_append.mp hx with q | q
      · exact R4.2 x q
      · rw [List.mem_singleton.mp q];exact Wr y1 al
    · rintro σ H4 ⟨ns,v3,rfl,S4,B4,R4,nsl⟩
      exact ⟨_,rfl,k l ns H4 S4 (B4.mono (by omega)) nl hl R4 (by omega)⟩
end
section
variable {P:Program} {w:World} {K:PySem.W.Frag} {mg:Str -> Option Value} {base:Heap}
def PlA (H:Hp) (a:Addr):Prop:=∃ x y:Int,H a = some (.tup [.int x,.int y]) /\ 0 <= x /\ x <= 1000 /\ 0 <= y /\ y <= 1000
theorem PlA.draw {H H':Hp} {a b:Addr} {n:Int} (h:PlA H a) (B:BoxAt H b n) (s:SameB b H H'):PlA H' a:=by
  obtain ⟨x,y,e,r⟩:=h
  obtain ⟨b0,b1,b2,eb,_⟩:=B
  exact ⟨x,y,s a _ e (JK e eb (by intro z;cases z)),r⟩
inductive vU (K:PySem.W.Frag) (vs:List V) (H:Hp) (Q:VK):Prop
  | mk (b t:Addr) (n:Int) (as:List Addr) (_:vs = [.ref b,.ref t]) (_:BoxAt H b n) (_:n < 1099511627000) (_:t ≠ b) (_:H t = some (.lst (as.map V.ref))) (_:as.length <= 1000) (_:(∀ a ∈ as,PlA H a)) (_:∀ (p:Addr) H',SameB b H H' -> BoxAt H' b (n + 3) -> H p = none -> PlA H' p -> Q (.ref p) H'):vU K vs H Q
def xm (K:PySem.W.Frag):Sp:=fun vs H Q _=>vU K vs H Q
theorem ZM:zG ["_law_box_here", "_law_taken", "_law_most", "_law_x", "_law_y", "_law_turn"] ["_law_box_here", "_law_taken"] (zj (zn 19)):=⟨rfl,rfl,rfl,by decide +kernel,rfl,by decide +kernel,by decide +kernel⟩
def Ql (b:_) (t:_) (y:_) (H:_) (n:_):=fun (i:Nat) (σ:St) (H4:Hp)=>(Ex3 fun (v2 v5:Option V) (x:Int)=>An5 (σ = [some (.ref b),some (.ref t),v2,some (.int x),some (.int y),v5]) (0 <= x) (x <= 1000) (SameB b H H4) (BoxAt H4 b (n + 1 + 1 + 1)):Prop)
theorem JF {f:Addr} {fd:FuncData} (F:Fun K "_law_place" "_law_place" (zn 19) f fd) (B:Blt mg) (D_take:Dfn P w K mg base "_law_take" 1 ["_law_box_here", "_law_size"] qz):FnOk P w K mg base CX0 2 f fd ["_law_box_here", "_law_taken"] (xm K):=by
  have nd:=ZM.nd
  refine F.ok ZM (fun vs H Q E h=>?_) (fun cdv A outer s H vs Q E hr h=>?_)
  · obtain ⟨b,t,n,as,rfl,_⟩:=h
    rfl
  · obtain ⟨b,t,n,as,rfl,B0,hn,ntb,ht,hal,pa,k⟩:=h
    have hu64:=hr.units
    have e62:(2:Int) ^ 62 = 4611686018427387904:=by decide
    have el:(as.map V.ref).length = as.length:=List.length_map ..
    refine ⟨_,(zg (zy (i:=2) nd rfl (Or.inl rfl) (qo (zE qe (zf D_take (hr.mono (by first | decide | exact Nat.le_refl _ | omega)) rfl (za (pv 0) (za zc zb))) zc (zx _)) zc zc))
      (zg (vn (i:=3) (j:=4) rfl nd rfl rfl (by decide) rfl rfl (za (zf D_take (hr.mono (by first | decide | exact Nat.le_refl _ | omega)) rfl (za (pv 0) (za (pv 2) zb))) (za (zf D_take (hr.mono (by first | decide | exact Nat.le_refl _ | omega)) rfl (za (pv 0) (za (pv 2) zb))) zb)) (by rfl))
      (zg (qM PassesOwn.never rfl (qm rfl B.range (za (zo zH (zi (zK (K:=K) rfl) rfl B.len boot_len (za (pv 1) zb)) zc) zb)) (zU (i:=5) nd rfl (Or.inl rfl))
      (zk (z9 (zE (Xx hu64) (zw (za (pv 3) (za (pv 4) zb))) (pv 1) (by with_unfolding_all rfl))
        (zk (zy (i:=3) nd rfl (Or.inl rfl) (zo qT (zo zH (pv 3) zc) zc)))
        zM)))
      (zk (zu (zw (za (pv 3) (za (pv 4) zb)))))))),?_⟩
    refine ⟨_,rfl,b,4,n,rfl,B0,by omega,by decide,by decide,fun r H1 r0 r1 B1 S1=>⟨rfl,_,rfl,zW (fun c=>?_) (fun c=>?_)⟩⟩
    all_goals
      refine ⟨_,rfl,_,rfl,b,_,n + 1,rfl,B1,by omega,by decide,by decide,fun x H2 x0 x1 B2 S2=>⟨_,rfl,_,rfl,b,_,n + 1 + 1,rfl,B2,by omega,by decide,by decide,fun y H3 y0 y1 B3 S3=>⟨_,_,rfl,?_⟩⟩⟩
      have S4:=S1.trans (S2.trans S3)
      have ht3:=S4 t _ ht ntb
      refine ⟨_,rfl,t,_,rfl,.inl (SqL.of ht3),_,_,rfl,rfl,_,rfl,(by rw [e62,el];omega),(by rw [e62,el];omega),?_⟩
      refine qA (Ql b t y H n) ⟨_,none,x,rfl,x0,by omega,S4,B3⟩ ?_ ?_
      · rintro i σ H4 _ ⟨v2,v5,x,rfl,x0',x1',S5,B5⟩
        refine ⟨_,rfl,_,rfl,le2,fun p hp=>⟨_,rfl,p,t,_,_,rfl,rfl,SqT.of zd,rfl,SqL.of ((S5.new hp) t _ ht ntb),fun v hv=>?_,fun q=>⟨_,rfl,zW (fun d=>?_) (fun d=>?_)⟩⟩⟩
        · obtain ⟨c,hc,rfl⟩:=List.mem_map.mp hv
          obtain ⟨cx,cy,hcc,_⟩:=(pa c hc).draw B0 (S5.new (o:=.tup [.int x,.int y]) hp)
          exact ⟨c,_,rfl,SqT.of hcc,rfl⟩
        · exact ⟨_,rfl,_,_,rfl,rfl,_,_,rfl,rfl,(by show (0:Int) < 1001;decide),_,_,_,rfl,Int.emod_nonneg _ (by decide),by have:=Int.emod_lt_of_pos (x + 1) (by decide:(0:Int) < 1001);omega,S5.new hp,B5.new hp⟩
        · exact ⟨_,_,x,rfl,x0',x1',S5.new hp,B5.new hp⟩
      · rintro σ H4 ⟨v2,v5,x,rfl,x0',x1',S5,B5⟩
        have B6:BoxAt H4 b (n + 3):=by
          have e:n + 3 = n + 1 + 1 + 1:=by omega
          rw [e];exact B5
        exact ⟨_,rfl,_,rfl,le2,fun p hp=>k p _ (S5.new hp) (B6.new hp) (S5.none hp (B5.nne hp)) ⟨x,y,zd,x0',x1',y0,by omega⟩⟩
inductive vc (vs:List V) (H:Hp) (Q:VK):Prop
  | mk (b:Addr) (m n:Int) (_:vs = [.ref b,.int m]) (_:BoxAt H b n) (_:n < 1000000) (_:0 <= m) (_:m <= 100) (_:∀ (l:Addr) (as:List Addr) H',SameB b H H' -> BoxAt H' b (n + 400) -> l ≠ b -> H l = none -> H' l = some (.lst (as.map V.ref)) -> (∀ a ∈ as,PlA H' a) -> (as.length:Int) = m -> Q (.ref l) H'):vc  vs H Q
def vd:Sp:=fun vs H Q _=>vc  vs H Q
theorem yt:zG ["_law_box_here", "_law_many", "_law_found", "_law_k"] ["_law_box_here", "_law_many"] (zj (zn 20)):=⟨rfl,rfl,rfl,by decide +kernel,rfl,by decide +kernel,by decide +kernel⟩
def Qk (b:_) (m:_) (l:_) (H:_) (n:_):=fun (i:Nat) (σ:St) (H4:Hp)=>(Ex2 fun (as:List Addr) (v3:Option V)=>An6 (σ = [some (.ref b),some (.int m),some (.ref l),v3]) (SameB b H H4) (BoxAt H4 b (n + 3 * i)) (H4 l = some (.lst (as.map V.ref))) ((∀ a ∈ as,PlA H4 a)) (as.length = i):Prop)
theorem QI {f:Addr} {fd:FuncData} (F:Fun K "_law_places" "_law_places" (zn 20) f fd) (B:Blt mg) (D_place:Dfn P w K mg base "_law_place" 2 ["_law_box_here", "_law_taken"] (xm K)):FnOk P w K mg base CX0 3 f fd ["_law_box_here", "_law_many"] vd:=by
  have nd:=yt.nd
  refine F.ok yt (fun vs H Q E h=>?_) (fun cdv A outer s H vs Q E hr h=>?_)
  · obtain ⟨b,m,n,rfl,_⟩:=h
    rfl
  · obtain ⟨b,m,n,rfl,B0,hn,m0,m1,k⟩:=h
    have hbig:100000 < sizeLine:=by rw [sizeLine_eq];decide
    have e62:(2:Int) ^ 62 = 4611686018427387904:=by decide
    refine ⟨_,(zg (zy (i:=2) nd rfl (Or.inl rfl) (zZ zb))
      (zg (qM PassesOwn.never rfl (qm rfl B.range (za (pv 1) zb)) (zU (i:=3) nd rfl (Or.inl rfl))
      (zk (jY (vX PySem.F.plainAttrs_list PySem.F.slot_list_append PySem.F.type_list_append j2 (pv 2) (za (zf D_place (hr.mono (by first | decide | exact Nat.le_refl _ | omega)) rfl (za (pv 0) (za (pv 2) zb))) zb)))))
      (zk (zu (pv 2))))),?_⟩
    refine ⟨le0,fun l hl=>?_⟩
    have nl:=B0.nne hl
    refine ⟨_,rfl,_,rfl,(by rw [e62];omega),(by rw [e62];omega),?_⟩
    refine qA (Qk b m l H n) ⟨[],_,rfl,(SameB.refl b H).new hl,(B0.new hl).mono (by omega),zd,(fun x h=>nomatch h),rfl⟩ ?_ ?_
    · rintro i σ H4 hi ⟨as,v3,rfl,S4,B4,L4,P4,asl⟩
      refine ⟨_,rfl,.inl ⟨rfl,_,SqL.of L4⟩,_,rfl,_,rfl,b,l,_,as,rfl,B4,by omega,nl,L4,by omega,P4,fun p H5 S5 B5 pN pp=>⟨l,_,_,rfl,rfl,S5 l _ L4 nl,by rw [List.length_map,asl];omega,?_⟩⟩
      have L5:=S5 l _ L4 nl
      have keep:∀ {a:Addr},PlA H5 a -> PlA (upd H5 l (.lst (as.map V.ref ++ [.ref p]))) a:=fun {a} h=>by
        obtain ⟨x,y,e,r⟩:=h
        exact ⟨x,y,by rw [zv (JK e L5 (by intro z;cases z))];exact e,r⟩
      refine ⟨as ++ [p],_,rfl,(S4.trans S5).put hl,(B5.other nl).mono (by omega),by rw [zd,List.map_append];rfl,fun a ha=>?_,by rw [List.length_append,asl];rfl⟩
      rcases List.mem_append.mp ha with q | q
      · exact keep ((P4 a q).draw B4 S5)
      · rw [List.mem_singleton.mp q];exact keep pp
    · rintro σ H4 ⟨as,v3,rfl,S4,B4,L4,P4,asl⟩
      exact ⟨_,rfl,k l as H4 S4 (B4.mono (by omega)) nl hl L4 P4 (by omega)⟩
inductive yh (K:PySem.W.Frag) (vs:List V) (H:Hp) (Q:VK):Prop
  | mk (b a:Addr) (n:Int) (xs:List V) (_:vs = [.ref b,.ref a]) (_:BoxAt H b n) (_:n < 1000000) (_:a ≠ b) (_:H a = some (.lst xs)) (_:xs.length <= 1000) (_:∀ (l:Addr) (ys:List V) H',SameB b H H' -> BoxAt H' b (n + xs.length) -> l ≠ b -> H l = none -> H' l = some (.lst ys) -> ys.Perm xs -> Q (.ref l) H'):yh K vs H Q
def vb (K:PySem.W.Frag):Sp:=fun vs H Q _=>yh K vs H Q
theorem Jg:zG ["_law_box_here", "_law_some", "_law_found", "_law_one"] ["_law_box_here", "_law_some"] (zj (zn 21)):=⟨rfl,rfl,rfl,by decide +kernel,rfl,by decide +kernel,by decide +kernel⟩
def Qj (b:_) (a:_) (l:_) (H:_) (n:_) (xs:List V):=fun (i:Nat) (σ:St) (H4:Hp)=>(Ex2 fun (ys:List V) (v3:Option V)=>An6 (σ = [some (.ref b),some (.ref a),some (.ref l),v3]) (SameB b H H4) (BoxAt H4 b (n + i)) (H4 a = some (.lst xs)) (H4 l = some (.lst ys)) (ys.Perm (xs.take i)):Prop)
theorem XE {f:Addr} {fd:FuncData} (F:Fun K "_law_shuffled" "_law_shuffled" (zn 21) f fd) (B:Blt mg) (D_take:Dfn P w K mg base "_law_take" 1 ["_law_box_here", "_law_size"] qz):FnOk P w K mg base CX0 2 f fd ["_law_box_here", "_law_some"] (vb K):=by
  have nd:=Jg.nd
  refine F.ok Jg (fun vs H Q E h=>?_) (fun cdv A outer s H vs Q E hr h=>?_)
  · obtain ⟨b,a,n,xs,rfl,_⟩:=h
    rfl
  · obtain ⟨b,a,n,xs,rfl,B0,hn,nab,ha,hxl,k⟩:=h
    have hbig:100000 < sizeLine:=by rw [sizeLine_eq];decide
    have e62:(2:Int) ^ 62 = 4611686018427387904:=by decide
    refine ⟨_,(zg (zy (i:=2) nd rfl (Or.inl rfl) (zZ zb))
      (zg (qM PassesOwn.never rfl (xp (pv 1)) (zU (i:=3) nd rfl (Or.inl rfl))
      (zk (jY (vX PySem.F.plainAttrs_list PySem.F.slot_list_insert PySem.F.type_list_insert v7 (pv 2) (za (zf D_take (hr.mono (by first | decide | exact Nat.le_refl _ | omega)) rfl (za (pv 0) (za (zo zH (zi (zK (K:=K) rfl) rfl B.len boot_len (za (pv 2) zb)) zc) zb))) (za (pv 3) zb))))))
      (zk (zu (pv 2))))),?_⟩
    refine ⟨le0,fun l hl=>?_⟩
    have nl:=B0.nne hl
    have nal:a ≠ l:=zr ha hl
    refine ⟨_,rfl,a,rfl,⟨_,SqL.of ((ze hl) _ _ ha)⟩,yL (K:=K) (a:=a) (xs:=xs) (Qj b a l H n xs)
      ⟨[],_,rfl,(SameB.refl b H).new hl,(B0.new hl).mono (by omega),(ze hl) _ _ ha,zd,.nil⟩ (fun i σ H4 _ ⟨_,_,_,_,_,h,_,_⟩=>SqL.of h) ?_ ?_⟩
    · rintro i x σ H4 hx ⟨ys,v3,rfl,S4,B4,A4,L4,pm⟩
      have hi:=(List.getElem?_eq_some_iff.mp hx).1
      have yl:ys.length = i:=by rw [pm.length_eq,List.length_take];omega
      refine ⟨_,rfl,.inl ⟨rfl,_,SqL.of L4⟩,_,rfl,_,rfl,l,_,rfl,.inl (SqL.of L4),_,_,rfl,rfl,b,_,_,rfl,B4,by omega,by omega,by omega,fun q H5 q0 q1 B5 S5=>⟨_,rfl,?_⟩⟩
      refine ⟨l,ys,q,x,rfl,rfl,S5 l _ L4 nl,q0,by rw [e62];omega,by omega,?_⟩
      refine ⟨_,_,rfl,(S4.trans S5).put hl,(B5.other nl).mono (by omega),by rw [zv nal];exact S5 a _ A4 nab,zd,?_⟩
      have e1:xs.take (i + 1) = xs.take i ++ [x]:=by
        obtain ⟨h1,h2⟩:=List.getElem?_eq_some_iff.mp hx
        rw [<- h2,List.take_append_getElem]
      rw [e1]
      refine List.perm_middle.trans ?_
      rw [List.take_append_drop]
      exact ((List.Perm.cons x pm).trans (List.perm_append_singleton x _).symm)
    · rintro σ H4 ⟨ys,v3,rfl,S4,B4,A4,L4,pm⟩
      rw [List.take_length] at pm
      exact ⟨_,rfl,k l ys H4 S4 B4 nl hl L4 pm⟩
end
def SameT (H H':Hp):Prop:=∀ a u,H a = some u -> (∀ xs,u ≠ .lst xs) -> H' a = some u
theorem SameT.refl (H:Hp):SameT H H:=fun _ _ e _=>e
theorem SameT.trans {H H1 H2:Hp} (a:SameT H H1) (b:SameT H1 H2):SameT H H2:=fun c u e h=>b c u (a c u e h) h
theorem SameT.of {H H':Hp} (s:Same H H'):SameT H H':=fun a u e _=>s a u e
theorem SameT.draw {H H':Hp} {b:Addr} {n:Int} (B:BoxAt H b n) (s:SameB b H H'):SameT H H':=fun a u e h=>by
  obtain ⟨b0,b1,b2,eb,_⟩:=B
  exact s a u e (fun z=>by rw [z,eb] at e;cases e;exact h _ rfl)
theorem SameT.put {H:Hp} {l:Addr} {xs ys:List V} (h:H l = some (.lst xs)):SameT H (upd H l (.lst ys)):=fun a u e hu=>by
  rw [zv (fun z=>by rw [z,h] at e;cases e;exact hu _ rfl)];exact e
mutual
def Dat.imm:Dat -> Bool
  | .lst _=>false
  | .tup ds=>Dat.imms ds
  | _=>true
def Dat.imms:List Dat -> Bool
  | []=>true
  | d :: ds=>d.imm && Dat.imms ds
end
section
variable {P:Program} {w:World} {K:PySem.W.Frag} {mg:Str -> Option Value} {base:Heap}
theorem SqT.keep {H H':Hp} {a:Addr} {xs:List V} (q:SqT K H a xs) (s:SameT H H'):SqT K H' a xs:=by
  rcases q with (q | ⟨o,q⟩) | q
  · exact .inl (.inl (s a _ q (fun z h=>nomatch h)))
  · exact .inl (.inr ⟨o,s a _ q (fun z h=>nomatch h)⟩)
  · exact .inr q
mutual
theorem Rep.keep {H H':Hp} (s:SameT H H'):∀ {d:Dat} {v:V},d.imm = true -> Rep K H d v -> Rep K H' d v
  | .non,_,_,h=>h
  | .bl _,_,_,h=>h
  | .int _,_,_,h=>h
  | .str _,_,_,h=>h
  | .lst _,_,i,_=>by cases i
  | .tup ds,_,i,h=>by
    obtain ⟨a,xs,e,q,r⟩:=h
    exact ⟨a,xs,e,q.keep s,Reps.keep s (ds:=ds) i r⟩
theorem Reps.keep {H H':Hp} (s:SameT H H'):∀ {ds:List Dat} {xs:List V},Dat.imms ds = true -> Reps K H ds xs -> Reps K H' ds xs
  | [],_,_,h=>h
  | d :: ds,_,i,h=>by
    obtain ⟨x,r,e,h1,h2⟩:=h
    have i':(d.imm && Dat.imms ds) = true:=i
    rw [Bool.and_eq_true] at i'
    exact ⟨x,r,e,Rep.keep s i'.1 h1,Reps.keep s i'.2 h2⟩
end
theorem Reps.snoc {H:Hp} {d:Dat} {v:V} (h:Rep K H d v):∀ {ds:List Dat} {xs:List V},Reps K H ds xs -> Reps K H (ds ++ [d]) (xs ++ [v])
  | [],_,e=>by rw [show _ = _ from e];exact ⟨v,[],rfl,h,rfl⟩
  | _ :: _,_,e=>by
    obtain ⟨x,r,e1,h1,h2⟩:=e
    subst e1
    exact ⟨x,r ++ [v],rfl,h1,Reps.snoc h h2⟩
end
theorem qY {α β:Type} {f:α -> β} {ys ws:List β} (h:ys.Perm ws):∀ {xs:List α},ws = xs.map f -> ∃ zs:List α,zs.Perm xs /\ ys = zs.map f:=by
  induction h with
  | nil=>
    intro xs e
    have:xs = []:=by simpa using e.symm
    exact ⟨[],by rw [this],rfl⟩
  | @cons x l1 l2 p ih=>
    intro xs e
    cases xs with
    | nil=>simp at e
    | cons a as=>
      rw [List.map_cons] at e
      injection e with e1 e2
      obtain ⟨zs,p1,p2⟩:=ih e2
      exact ⟨a :: zs,p1.cons a,by rw [List.map_cons,<- p2,<- e1]⟩
  | swap x y l=>
    intro xs e
    cases xs with
    | nil=>simp at e
    | cons a as=>
      cases as with
      | nil=>simp at e
      | cons c cs=>
        rw [List.map_cons,List.map_cons] at e
        injection e with e1 e2
        injection e2 with e2 e3
        exact ⟨c :: a :: cs,.swap a c cs,by rw [List.map_cons,List.map_cons,<- e1,<- e2,<- e3]⟩
  | trans p q ih1 ih2=>
    intro xs e
    obtain ⟨zs,p1,p2⟩:=ih2 e
    obtain ⟨us,p3,p4⟩:=ih1 p2
    exact ⟨us,p3.trans p1,p4⟩
def qb (p:Nat × Nat):Dat:=.tup [.int p.1,.int p.2]
def wT (as:List (Nat × Nat)):Dat:=.tup (as.map qb)
theorem qv:∀ (as:List (Nat × Nat)),Dat.imms (as.map qb) = true
  | []=>rfl
  | p :: as=>by
    show (Dat.imm (qb p) && Dat.imms (as.map qb)) = true
    rw [qv as];rfl
def Xd (ord:List Nat) (as:List (Nat × Nat)):Prop:=∀ p ∈ as,∃ k l:Nat,k < l /\ ord[k]? = some p.1 /\ ord[l]? = some p.2
section
variable {P:Program} {w:World} {K:PySem.W.Frag} {mg:Str -> Option Value} {base:Heap}
theorem Reps.take {H:Hp}:∀ (n:Nat) {ds:List Dat} {xs:List V},Reps K H ds xs -> Reps K H (ds.take n) (xs.take n)
  | 0,_,_,_=>rfl
  | n + 1,[],_,h=>by rw [show _ = _ from h];exact rfl
  | n + 1,d :: ds,_,h=>by
    obtain ⟨x,r,e,h1,h2⟩:=h
    subst e
    exact ⟨x,r.take n,rfl,h1,Reps.take n h2⟩
theorem Reps.app {H:Hp}:∀ {ds es:List Dat} {xs ys:List V},Reps K H ds xs -> Reps K H es ys -> Reps K H (ds ++ es) (xs ++ ys)
  | [],_,_,_,h,h'=>by rw [show _ = _ from h];exact h'
  | d :: ds,_,_,_,h,h'=>by
    obtain ⟨x,r,e,h1,h2⟩:=h
    subst e
    exact ⟨x,r ++ _,rfl,h1,Reps.app h2 h'⟩
inductive vg (K:PySem.W.Frag) (vs:List V) (H:Hp) (Q:VK):Prop
  | mk (b:Addr) (m n:Int) (_:vs = [.ref b,.int m]) (_:BoxAt H b n) (_:n < 1000000) (_:0 <= m) (_:m <= 100) (_:∀ (p:Addr) (as:List (Nat × Nat)) (ord:List Nat) H',SameB b H H' -> BoxAt H' b (n + 800) -> Rep K H' (wT as) (.ref p) -> ord.Perm (List.range m.toNat) -> Xd ord as -> as.length <= 300 -> Q (.ref p) H'):vg K vs H Q
def vh (K:PySem.W.Frag):Sp:=fun vs H Q _=>vg K vs H Q
theorem yu:zG ["_law_box_here", "_law_many", "_law_order", "_law_found", "_law_turn", "_law_k"] ["_law_box_here", "_law_many"] (zj (zn 23)):=⟨rfl,rfl,rfl,by decide +kernel,rfl,by decide +kernel,by decide +kernel⟩
theorem Wj {m r:Int} (h:0 <= r) (h':r < 4) (m2:2 <= m) (m1:m <= 100):∃ z:Int,atI [V.int 1,V.int 4,V.int 13,V.int (2 * m)] r = some (.int z) /\ 1 <= z /\ z <= 200:=by
  have hc:r = 0 \/ r = 1 \/ r = 2 \/ r = 3:=by omega
  rcases hc with rfl | rfl | rfl | rfl
  · exact ⟨1,rfl,by omega,by omega⟩
  · exact ⟨4,rfl,by omega,by omega⟩
  · exact ⟨13,rfl,by omega,by omega⟩
  · exact ⟨2 * m,rfl,by omega,by omega⟩
theorem Jw {ord:List Nat} {i:Int} (h:0 <= i) (h':i < ord.length):∃ x:Nat,atI (ord.map fun i:Nat=>V.int (i:Int)) i = some (.int (x:Int)) /\ ord[i.toNat]? = some x:=by
  obtain ⟨v,e1,e2⟩:=xh (xs:=ord.map fun i:Nat=>V.int (i:Int)) h (by rw [List.length_map];exact h')
  rw [List.getElem?_map] at e2
  obtain ⟨x,hx,rfl⟩:=Option.map_eq_some_iff.mp e2
  exact ⟨x,e1,hx⟩
def Qi (b:_) (m:_) (o:_) (R:_) (H:_) (n:_) (ord:_) (K:_):=fun (i:Nat) (σ:St) (H5:Hp)=>(Ex4 fun (as:List (Nat × Nat)) (xs:List V) (v4 v5:Option V)=>An8 (σ = [some (.ref b),some (.int m),some (.ref o),some (.ref R),v4,v5]) (SameB b H H5) (BoxAt H5 b (n + 110 + 2 * i)) (H5 o = some (.lst (ord.map fun i:Nat=>V.int (i:Int)))) (H5 R = some (.lst xs)) (Reps K H5 (as.map qb) xs) (Xd ord as) (as.length = i):Prop)
theorem QJ {f:Addr} {fd:FuncData} (F:Fun K "_law_aheads" "_law_aheads" (zn 23) f fd) (B:Blt mg) (D_take:Dfn P w K mg base "_law_take" 1 ["_law_box_here", "_law_size"] qz) (D_shuffled:Dfn P w K mg base "_law_shuffled" 2 ["_law_box_here", "_law_some"] (vb K)):FnOk P w K mg base CX0 3 f fd ["_law_box_here", "_law_many"] (vh K):=by
  have nd:=yu.nd
  refine F.ok yu (fun vs H Q E h=>?_) (fun cdv A outer s H vs Q E hr h=>?_)
  · obtain ⟨b,m,n,rfl,_⟩:=h
    rfl
  · obtain ⟨b,m,n,rfl,B0,hn,m0,m1,k⟩:=h
    have hbig:100000 < sizeLine:=by rw [sizeLine_eq];decide
    have e62:(2:Int) ^ 62 = 4611686018427387904:=by decide
    refine ⟨_,(zg (vn (i:=2) (j:=3) rfl nd rfl rfl (by decide) rfl rfl (za (zf D_shuffled (hr.mono (by first | decide | exact Nat.le_refl _ | omega)) rfl (za (pv 0) (za (xq rfl rfl B.list rfl B.range qx (za (pv 1) zb)) zb))) (za (zZ zb) zb)) (by rfl))
      (zg (z9 (zE Jy (pv 1) zc (zx _))
      (zk (zu (zw zb)))
      zM)
      (zg (qM PassesOwn.never rfl (qm rfl B.range (za (zf D_take (hr.mono (by first | decide | exact Nat.le_refl _ | omega)) rfl (za (pv 0) (za (zP (zY (K:=K) rfl) (zZ (za zc (za zc (za zc (za (zo jd zc (pv 1)) zb))))) (zf D_take (hr.mono (by first | decide | exact Nat.le_refl _ | omega)) rfl (za (pv 0) (za zc zb))) (fun _ _=>rfl)) zb))) zb)) (zU (i:=4) nd rfl (Or.inl rfl))
      (zg (zy (i:=5) nd rfl (Or.inl rfl) (zf D_take (hr.mono (by first | decide | exact Nat.le_refl _ | omega)) rfl (za (pv 0) (za (zo qI (pv 1) zc) zb))))
        (zk (jY (vX PySem.F.plainAttrs_list PySem.F.slot_list_append PySem.F.type_list_append j2 (pv 3) (za (zw (za (zP (zY (K:=K) rfl) (pv 2) (pv 5) (fun _ _=>rfl)) (za (zP (zY (K:=K) rfl) (pv 2) (zo zH (zo zH (pv 5) zc) (zf D_take (hr.mono (by first | decide | exact Nat.le_refl _ | omega)) rfl (za (pv 0) (za (zo qI (zo qI (pv 1) zc) (pv 5)) zb)))) (fun _ _=>rfl)) zb))) zb))))))
      (zk (zu (zV (jg (K:=K) rfl) rfl B.tuple zJ (za (zo je (pv 3) (zC (vj (K:=K) rfl) (pv 3) zT (zD (zV wj rfl B.int jS (za (qc qe (zf D_take (hr.mono (by first | decide | exact Nat.le_refl _ | omega)) rfl (za (pv 0) (za zc zb))) zc (zx _)) zb))))) zb))))))),?_⟩
    refine ⟨_,rfl,_,rfl,m,rfl,m0,by omega,fun l0 h0=>?_⟩
    have len0:((List.range m.toNat).map fun i:Nat=>V.int (i:Int)).length = m.toNat:=by rw [List.length_map,List.length_range]
    refine ⟨b,l0,n,_,rfl,B0.new h0,by omega,B0.nne h0,zd,by rw [len0];omega,fun o ys H1 S1 B1 no oN ho pm=>⟨le0,fun R hR=>⟨_,_,rfl,?_⟩⟩⟩
    obtain ⟨ord,op,rfl⟩:=qY pm rfl
    have ol:ord.length = m.toNat:=by rw [op.length_eq,List.length_range]
    rw [len0] at B1
    have nR:=B1.nne hR
    have oR:o ≠ R:=zr ho hR
    have S1':=((SameB.refl b H).new h0).trans S1
    have RH:H R = none:=S1'.none hR nR
    have S2:=S1'.new (o:=.lst []) hR
    have B2:=B1.new (o:=.lst []) hR
    have O2:=(ze (o:=.lst []) hR) _ _ ho
    have R2:upd H1 R (.lst []) R = some (.lst []):=zd
    generalize upd H1 R (.lst []) = H2 at S2 B2 O2 R2
    refine ⟨_,rfl,_,_,rfl,rfl,_,rfl,zW (fun c=>?_) (fun c=>?_)⟩
    · exact ⟨le0,fun p hp=>k p [] ord _ (S2.new hp) ((B2.new hp).mono (by omega)) ⟨p,[],rfl,SqT.of zd,rfl⟩ op (fun p h=>nomatch h) (Nat.zero_le _)⟩
    have m2:2 <= m:=by
      have:¬ m < 2:=fun z=>c (decide_eq_true z)
      omega
    refine ⟨_,rfl,_,rfl,_,_,rfl,rfl,.inl ⟨by decide,by decide⟩,le4,fun l1 h1=>⟨_,rfl,b,4,_,rfl,B2.new h1,by omega,by decide,by decide,fun r H3 r0 r1 B3 S3=>?_⟩⟩
    have L3:=S3 l1 _ zd (B2.nne h1)
    obtain ⟨z,ez,z0,z1⟩:=Wj r0 r1 m2 m1
    refine ⟨l1,_,_,_,rfl,rfl,SqL.of L3,ez,b,z,_,rfl,B3,by omega,by omega,by omega,fun cnt H4 c0 c1 B4 S4=>⟨_,rfl,(by rw [e62];omega),(by rw [e62];omega),?_⟩⟩
    have U4:=((SameB.refl b H2).new h1).trans (S3.trans S4)
    have S4':=S2.trans U4
    have O4:=U4 _ _ O2 no
    have R4:=U4 _ _ R2 nR
    clear S2 B2 O2 R2 S3 S4 U4 L3 h1 B3
    refine qA (Qi b m o R H n ord K)
      ⟨[],[],_,_,rfl,S4',B4.mono (by omega),O4,R4,rfl,(fun p h=>nomatch h),rfl⟩ ?_ ?_
    · rintro i σ H5 hi ⟨as,xs,v4,v5,rfl,S5,B5,O5,R5,rp,bo,asl⟩
      have xl:xs.length = i:=by rw [rp.len,List.length_map,asl]
      refine ⟨_,rfl,_,rfl,_,_,rfl,rfl,b,_,_,rfl,B5,by omega,by omega,by omega,fun kk H6 k0 k1 B6 S6=>?_⟩
      have O6:=S6 _ _ O5 no
      obtain ⟨x1,ex1,ox1⟩:=Jw (ord:=ord) k0 (by omega)
      refine ⟨_,rfl,.inl ⟨rfl,_,SqL.of (S6 _ _ R5 nR)⟩,_,rfl,_,rfl,o,_,_,_,rfl,rfl,SqL.of O6,ex1,?_⟩
      refine ⟨_,rfl,_,rfl,_,_,rfl,rfl,_,rfl,_,rfl,_,_,rfl,rfl,_,rfl,_,_,rfl,rfl,b,_,_,rfl,B6,by omega,by omega,by omega,fun q H7 q0 q1 B7 S7=>⟨_,_,rfl,rfl,?_⟩⟩
      have O7:=S7 _ _ O6 no
      have R7:=S7 _ _ (S6 _ _ R5 nR) nR
      obtain ⟨x2,ex2,ox2⟩:=Jw (ord:=ord) (i:=kk + 1 + q) (by omega) (by omega)
      refine ⟨o,_,_,_,rfl,rfl,SqL.of O7,ex2,le2,fun T hT=>⟨R,xs,.ref T,rfl,rfl,(ze hT) _ _ R7,by omega,?_⟩⟩
      have R8:=(ze (o:=.tup [.int (x1:Int),.int (x2:Int)]) hT) _ _ R7
      have st:SameT H5 (upd (upd H7 T (.tup [.int (x1:Int),.int (x2:Int)])) R (.lst (xs ++ [.ref T]))):=((SameT.draw B5 (S6.trans S7)).trans (.of (ze hT))).trans (.put R8)
      refine ⟨as ++ [(x1,x2)],_,_,_,rfl,(((S5.trans S6).trans S7).new hT).put RH,((B7.new hT).other nR).mono (by omega),by rw [zv oR];exact (ze hT) _ _ O7,zd,?_,fun pq hpq=>?_,by rw [List.length_append,asl];rfl⟩
      · rw [List.map_append]
        refine Reps.snoc ?_ (Reps.keep st (qv as) rp)
        refine ⟨T,_,rfl,SqT.of ?_,_,_,rfl,rfl,_,_,rfl,rfl,rfl⟩
        rw [zv (fun zz=>by rw [zz,R7] at hT;cases hT)]
        exact zd
      · rcases List.mem_append.mp hpq with w1 | w1
        · exact bo pq w1
        · rw [List.mem_singleton.mp w1]
          exact ⟨kk.toNat,(kk + 1 + q).toNat,by omega,ox1,ox2⟩
    · rintro σ H5 ⟨as,xs,v4,v5,rfl,S5,B5,O5,R5,rp,bo,asl⟩
      have xl:xs.length = as.length:=by rw [rp.len,List.length_map]
      refine ⟨_,rfl,_,rfl,_,rfl,b,4,_,rfl,B5,by omega,by decide,by decide,fun r9 H6 r90 r91 B6 S6=>⟨rfl,.inr ⟨_,rfl,_,rfl,R,xs,rfl,SqL.of (S6 _ _ R5 nR),fun s1 hs1=>?_⟩⟩⟩
      have R6:=S6 _ _ R5 nR
      obtain ⟨t,et⟩:∃ t:Nat,qg xs none (some (if decide (V.int r9 = V.int 0) = true then (1:Int) else 0)) = xs.take t /\ t <= 1:=by
        unfold qg
        by_cases hd:decide (V.int r9 = V.int 0) = true
        · rw [if_pos hd,show (some (1:Int)) = some ((1:Nat):Int) from rfl,HT.sIx_nat,HT.sIx_none]
          refine ⟨min 1 xs.length,by simp,by omega⟩
        · rw [if_neg hd,show (some (0:Int)) = some ((0:Nat):Int) from rfl,HT.sIx_nat,HT.sIx_none]
          refine ⟨0,by simp,by omega⟩
      rw [et.1]
      have st:SameT H5 H6:=.draw B5 S6
      have rp6:=Reps.keep st (qv as) rp
      have tl:(xs.take t).length <= 1:=by rw [List.length_take];omega
      refine ⟨R,s1,_,_,rfl,rfl,(ze hs1) _ _ R6,zd,by omega,fun c1 hc1=>⟨c1,_,rfl,.inl ⟨SqL.of zd,fun p hp=>?_⟩⟩⟩
      have sm:=((ze (o:=.lst (xs.take t)) hs1).trans (ze (o:=.lst (xs ++ xs.take t)) hc1)).trans (ze (o:=.tup (xs ++ xs.take t)) hp)
      refine k p (as ++ as.take t) ord _ ((((S5.trans S6).new hs1).new hc1).new hp) ((((B6.new hs1).new hc1).new hp).mono (by omega)) ⟨p,_,rfl,SqT.of zd,?_⟩ op (fun pq hpq=>?_) (by rw [List.length_append,List.length_take];omega)
      · have rp7:=Reps.keep (SameT.of sm) (qv as) rp6
        have rt:=Reps.take t rp7
        rw [<- List.map_take] at rt
        have:=Reps.app rp7 rt
        rw [<- List.map_append] at this
        exact this
      · rcases List.mem_append.mp hpq with w1 | w1
        · exact bo pq w1
        · exact bo pq (List.mem_of_mem_take w1)
end
structure Xa where
  k:Str
  x:Int
  y:Int
structure Xb where
  k:Str
  x:Int
  y:Int
  m:Int
def jJ (p:Xa):Dat:=.tup [.str p.k,.tup [.int p.x,.int p.y]]
def xJ (p:Xb):Dat:=.tup [.str p.k,.tup [.int p.x,.int p.y],.int p.m]
theorem jt:∀ (as:List Xb),Dat.imms (as.map xJ) = true
  | []=>rfl
  | p :: as=>by
    show (Dat.imm (xJ p) && Dat.imms (as.map xJ)) = true
    rw [jt as];rfl
theorem qO:∀ (as:List Xa),Dat.imms (as.map jJ) = true
  | []=>rfl
  | p :: as=>by
    show (Dat.imm (jJ p) && Dat.imms (as.map jJ)) = true
    rw [qO as];rfl
def inP (x y:Int):Prop:=0 <= x /\ x <= 1000 /\ 0 <= y /\ y <= 1000
section
variable {P:Program} {w:World} {K:PySem.W.Frag} {mg:Str -> Option Value} {base:Heap}
inductive yp (K:PySem.W.Frag) (vs:List V) (H:Hp) (Q:VK):Prop
  | mk (b ks ps:Addr) (pl:Bool) (n:Int) (kinds:List Str) (parts:List Xa) (_:vs = [.ref b,.ref ks,.ref ps,.bl pl]) (_:BoxAt H b n) (_:n < 900000) (_:ks ≠ b) (_:Row H ks kinds) (_:1 <= kinds.length) (_:kinds.length <= 12) (_:Rep K H (.tup (parts.map jJ)) (.ref ps)) (_:parts.length <= 100) (_:∀ (p:Addr) (fs:List Xb) (es:List Str) H',SameB b H H' -> BoxAt H' b (n + 400) -> Rep K H' (.tup (fs.map xJ)) (.ref p) -> (fs.map (·.k)).Perm (kinds ++ es) -> (∀ e ∈ es,e ∈ kinds) -> fs.length <= 40 -> (∀ f ∈ fs,Nm f.k /\ inP f.x f.y /\ 0 <= f.m /\ f.m <= 400) -> Q (.ref p) H'):yp K vs H Q
def Zg (K:PySem.W.Frag):Sp:=fun vs H Q _=>yp K vs H Q
theorem Jn:zG ["_law_box_here", "_law_kinds", "_law_parts", "_law_plenty", "_law_great", "_law_more", "_law_some", "_law_found", "_law_kind", "_law_need", "_law_many"] ["_law_box_here", "_law_kinds", "_law_parts", "_law_plenty"] (zj (zn 22)):=⟨rfl,rfl,rfl,by decide +kernel,rfl,by decide +kernel,by decide +kernel⟩
theorem Q8 {ns:List Str} {i:Int} (h:0 <= i) (h':i < ns.length):∃ x,atI (ns.map V.str) i = some (.str x) /\ x ∈ ns:=by
  obtain ⟨v,e1,e2⟩:=xh (xs:=ns.map V.str) h (by rw [List.length_map];exact h')
  rw [List.getElem?_map] at e2
  obtain ⟨x,hx,rfl⟩:=Option.map_eq_some_iff.mp e2
  exact ⟨x,e1,List.mem_of_getElem? hx⟩
theorem Wi {a c r:Int} (h:0 <= r) (h':r < 3) (a0:0 <= a) (a1:a <= 400) (c0:0 <= c) (c1:c <= 400):∃ z:Int,atI [V.int a,V.int c,V.int 400] r = some (.int z) /\ 0 <= z /\ z <= 400:=by
  have hc:r = 0 \/ r = 1 \/ r = 2:=by omega
  rcases hc with rfl | rfl | rfl
  · exact ⟨a,rfl,a0,a1⟩
  · exact ⟨c,rfl,c0,c1⟩
  · exact ⟨400,rfl,by omega,by omega⟩
def Qh (b:_) (ks:_) (ps:_) (pl:_) (r:_) (H:_) (n:_):=fun (σ':St) (H':Hp)=>(Ex1 fun (more:Int)=>An5 (σ' = [some (.ref b),some (.ref ks),some (.ref ps),some (.bl pl),some (.bl (decide (V.int r = V.int 0))),some (.int more),none,none,none,none,none]) (0 <= more) (more <= 20) (SameB b H H') (BoxAt H' b (n + 2)):Prop)
theorem XL {f:Addr} {fd:FuncData} (F:Fun K "_law_feeders" "_law_feeders" (zn 22) f fd) (B:Blt mg) (D_take:Dfn P w K mg base "_law_take" 1 ["_law_box_here", "_law_size"] qz) (D_shuffled:Dfn P w K mg base "_law_shuffled" 2 ["_law_box_here", "_law_some"] (vb K)) (D_place:Dfn P w K mg base "_law_place" 2 ["_law_box_here", "_law_taken"] (xm K)):FnOk P w K mg base CX0 3 f fd ["_law_box_here", "_law_kinds", "_law_parts", "_law_plenty"] (Zg K):=by
  have nd:=Jn.nd
  refine F.ok Jn (fun vs H Q E h=>?_) (fun cdv A outer s H vs Q E hr h=>?_)
  · obtain ⟨b,ks,ps,pl,n,kinds,parts,rfl,_⟩:=h
    rfl
  · obtain ⟨b,ks,ps,pl,n,kinds,parts,rfl,B0,hn,nk,Rk,k0,k1,hp,lp,k⟩:=h
    have hbig:100000 < sizeLine:=by rw [sizeLine_eq];decide
    have e62:(2:Int) ^ 62 = 4611686018427387904:=by decide
    have ek:(kinds.map V.str).length = kinds.length:=List.length_map ..
    refine ⟨_,(zg (zy (i:=4) nd rfl (Or.inl rfl) (qc qe (zf D_take (hr.mono (by first | decide | exact Nat.le_refl _ | omega)) rfl (za (pv 0) (za zc zb))) zc (zx _)))
      (zg (jx (zy (i:=5) nd rfl (Or.inl rfl) (zf D_take (hr.mono (by first | decide | exact Nat.le_refl _ | omega)) rfl (za (pv 0) (za (qo (z7 (pv 4)) (zo qI zc (zi (zK (K:=K) rfl) rfl B.len boot_len (za (pv 1) zb))) zc) zb)))))
      (zg (zy (i:=6) nd rfl (Or.inl rfl) (zo je (pv 1) (jq ["_law_kinds", "_law_box_here"] [1,0] rfl rfl (by kernel_rfl) (qm rfl B.range (za (pv 5) zb)) (fun C0 s0 H0 ex0=>qN) (fun C0 s0 H0 ex0=>(zP (zY (K:=K) rfl) (pv 1) (zf D_take (hr.mono (by first | decide | exact Nat.le_refl _ | omega)) rfl (za (pv 2) (za (zi (zK (K:=K) rfl) rfl B.len boot_len (za (pv 1) zb)) zb))) (fun _ _=>rfl))))))
      (zg (zy (i:=7) nd rfl (Or.inl rfl) (zZ zb))
      (zg (qM PassesOwn.never rfl (xp (zf D_shuffled (hr.mono (by first | decide | exact Nat.le_refl _ | omega)) rfl (za (pv 0) (za (pv 6) zb)))) (zU (i:=8) nd rfl (Or.inr rfl))
      (zg (zy (i:=9) nd rfl (Or.inl rfl) (zi (zK (K:=K) rfl) rfl B.len boot_len (za (jq ["_law_kind"] [8] rfl rfl (by kernel_rfl) (jy (pv 2)) (fun C0 s0 H0 ex0=>(VA (zE qe (zP (xY (K:=K) rfl) (pv 0) zc (fun _ _=>rfl)) (pv 1) (zx _)))) (fun C0 s0 H0 ex0=>(pv 0))) zb)))
        (zg (jx (zy (i:=10) nd rfl (Or.inl rfl) (qo (z7 (pv 3)) (zP (zY (K:=K) rfl) (zZ (za (pv 9) (za (zo zH (pv 9) (zf D_take (hr.mono (by first | decide | exact Nat.le_refl _ | omega)) rfl (za (pv 0) (za zc zb)))) (za zc zb)))) (zf D_take (hr.mono (by first | decide | exact Nat.le_refl _ | omega)) rfl (za (pv 0) (za zc zb))) (fun _ _=>rfl)) (zf D_take (hr.mono (by first | decide | exact Nat.le_refl _ | omega)) rfl (za (pv 0) (za zc zb))))))
        (zk (jY (vX PySem.F.plainAttrs_list PySem.F.slot_list_append PySem.F.type_list_append j2 (pv 7) (za (zw (za (pv 8) (za (zf D_place (hr.mono (by first | decide | exact Nat.le_refl _ | omega)) rfl (za (pv 0) (za (zZ zb) zb))) (za (pv 10) zb)))) zb)))))))
      (zk (zu (zV (jg (K:=K) rfl) rfl B.tuple zJ (za (pv 7) zb))))))))),?_⟩
    refine ⟨_,rfl,b,8,n,rfl,B0,by omega,by decide,by decide,fun r H1 r0 r1 B1 S1=>⟨rfl,?_⟩⟩
    have Rk1:=Rk.draw S1 nk
    refine ⟨Qh b ks ps pl r H n,?_,?_⟩
    · refine ⟨_,rfl,_,rfl,_,rfl,zW (fun c=>?_) (fun c=>?_)⟩
      · exact ⟨_,rfl,ks,_,rfl,.inl (SqL.of Rk1.1),_,_,rfl,rfl,b,_,_,rfl,B1,by omega,by omega,by omega,fun more H2 a0 a1 B2 S2=>⟨_,rfl,a0,by omega,S1.trans S2,B2.mono (by omega)⟩⟩
      · exact ⟨b,4,_,rfl,B1,by omega,by decide,by decide,fun more H2 a0 a1 B2 S2=>⟨_,rfl,a0,by omega,S1.trans S2,B2.mono (by omega)⟩⟩
    rintro σ' H2 ⟨more,rfl,mo0,mo1,S2,B2⟩
    clear S1 B1 Rk1
    have Rk2:=Rk.draw S2 nk
    refine ⟨_,rfl,_,rfl,_,rfl,(by rw [e62];omega),(by rw [e62];omega),yH (fun j zs H3=>Ex1 fun (es:List Str)=>An5 (zs = es.map V.str) (es.length = j) ((∀ x ∈ es,x ∈ kinds)) (SameB b H2 H3) (BoxAt H3 b (n + 2 + j))) ⟨[],rfl,rfl,(fun x h=>nomatch h),SameB.refl _ _,B2.mono (by omega)⟩ ?_ ?_⟩
    · rintro j zs H3 hj ⟨es,rfl,el,ee,S3,B3⟩
      refine ⟨rfl,⟨_,rfl,_,rfl,_,rfl,ks,_,rfl,.inl (SqL.of (Rk2.draw S3 nk).1),b,_,_,rfl,B3,by omega,by omega,by omega,fun q H4 q0 q1 B4 S4=>?_⟩⟩
      obtain ⟨y,ey,my⟩:=Q8 (ns:=kinds) q0 (by omega)
      refine ⟨ks,_,_,_,rfl,rfl,SqL.of (Rk2.draw (S3.trans S4) nk).1,ey,by rw [List.length_map,el];omega,es ++ [y],by rw [List.map_append];rfl,by rw [List.length_append,el];rfl,fun x hx=>?_,S3.trans S4,B4.mono (by omega)⟩
      rcases List.mem_append.mp hx with pq | pq
      · exact ee x pq
      · rw [List.mem_singleton.mp pq];exact my
    rintro zs H3 ⟨es,rfl,el,ee,S3,B3⟩
    refine ⟨by rw [List.length_map,el];omega,fun D hD=>?_⟩
    have S3':=(S2.trans S3).new (o:=.lst (es.map V.str)) hD
    have Rk3:=(Rk2.draw S3 nk).same (ze (o:=.lst (es.map V.str)) hD)
    refine ⟨ks,D,_,_,rfl,rfl,Rk3.1,zd,by rw [ek,List.length_map,el];omega,fun sm hs=>?_⟩
    have B4:=(B3.new (o:=.lst (es.map V.str)) hD).new (o:=.lst (kinds.map V.str ++ es.map V.str)) hs
    have S4:=S3'.new (o:=.lst (kinds.map V.str ++ es.map V.str)) hs
    have ns:=(B3.new (o:=.lst (es.map V.str)) hD).nne hs
    have M4:upd (upd H3 D (.lst (es.map V.str))) sm (.lst (kinds.map V.str ++ es.map V.str)) sm = some (.lst ((kinds ++ es).map V.str)):=by rw [zd,List.map_append]
    generalize upd (upd H3 D (.lst (es.map V.str))) sm (.lst (kinds.map V.str ++ es.map V.str)) = H4 at B4 S4 M4
    clear S2 S3 S3' Rk2 Rk3 B2 B3 hD hs
    refine ⟨le0,fun R hR=>?_⟩
    have nR:=B4.nne hR
    have RH:H R = none:=S4.none hR nR
    have lenk:((kinds ++ es).map V.str).length <= 32:=by rw [List.length_map,List.length_append,el];omega
    refine ⟨_,rfl,_,rfl,b,sm,_,_,rfl,B4.new hR,by omega,ns,(ze hR) _ _ M4,by omega,fun l ys H5 S5 B5 nl lN hl pm=>?_⟩
    obtain ⟨sh,shp,rfl⟩:=qY pm rfl
    have S5':=(S4.new (o:=.lst []) hR).trans S5
    have R5:H5 R = some (.lst []):=S5 _ _ zd nR
    have lR:l ≠ R:=fun z=>by rw [z,zd] at lN;cases lN
    have shl:sh.length <= 32:=by rw [shp.length_eq];rw [List.length_map] at lenk;exact lenk
    have shn:∀ x ∈ sh,Nm x:=fun x hx=>by
      rcases List.mem_append.mp (shp.mem_iff.mp hx) with q | q
      · exact Rk.2 x q
      · exact Rk.2 x (ee x q)
    clear pm M4 S4 S5 B4 hR
    refine ⟨l,rfl,⟨_,SqL.of hl⟩,yL (K:=K) (a:=l) (xs:=sh.map V.str) (fun i σ H6=>Ex6 fun (fs:List Xb) (xs:List V) (v6 v8 v9 v10:Option V)=>An8 (σ = [some (.ref b),some (.ref ks),some (.ref ps),some (.bl pl),some (.bl (decide (V.int r = V.int 0))),some (.int more),v6,some (.ref R),v8,v9,v10]) (SameB b H H6) (BoxAt H6 b (n + 60 + 6 * i)) (H6 l = some (.lst (sh.map V.str))) (H6 R = some (.lst xs)) (Reps K H6 (fs.map xJ) xs) (fs.map (·.k) = sh.take i) (∀ f ∈ fs,Nm f.k /\ inP f.x f.y /\ 0 <= f.m /\ f.m <= 400))
      ⟨[],[],_,_,_,_,rfl,S5',B5.mono (by omega),hl,R5,rfl,rfl,(fun f h=>nomatch h)⟩ (fun i σ H6 _ ⟨_,_,_,_,_,_,_,_,_,h,_,_,_,_⟩=>SqL.of h) ?_ ?_⟩
    · rintro i x σ H6 hx ⟨fs,xs,v6,v8,v9,v10,rfl,S6,B6,L6,R6,rp,fk,fa⟩
      rw [List.getElem?_map] at hx
      obtain ⟨kd,hkd,rfl⟩:=Option.map_eq_some_iff.mp hx
      have hi:=(List.getElem?_eq_some_iff.mp hkd).1
      have fl:fs.length = i:=by
        have:=congrArg List.length fk
        rw [List.length_map,List.length_take] at this
        omega
      have xl:xs.length = i:=by rw [rp.len,List.length_map,fl]
      have hp6:=Rep.keep (d:=.tup (parts.map jJ)) (SameT.draw B0 S6) (qO parts) hp
      obtain ⟨_,pxs,ep,hq,hps⟩:=hp6
      cases ep
      have pl':pxs.length = parts.length:=by rw [hps.len,List.length_map]
      refine ⟨_,rfl,ps,rfl,⟨_,hq⟩,xg (K:=K) (a:=ps) (xs:=pxs) (fun j zs H7=>zs.length <= j /\ Same H6 H7) ⟨Nat.le_refl _,Same.refl _⟩ (fun j zs H7 ⟨_,s7⟩=>s7.sqT hq) ?_ ?_⟩
      · rintro j v zs H7 hv ⟨zl,s7⟩
        have hj:=(List.getElem?_eq_some_iff.mp hv).1
        obtain ⟨d,hd,rd⟩:=hps.get hv
        rw [List.getElem?_map] at hd
        obtain ⟨pt,_,rfl⟩:=Option.map_eq_some_iff.mp hd
        obtain ⟨c,cxs,rfl,hc,u1,r1',e1,e2,e3⟩:=rd
        subst e1
        cases (show u1 = .str pt.k from e2)
        refine ⟨rfl,⟨_,rfl,c,_,_,.str pt.k,rfl,rfl,s7.sqT hc,jH (j:=0) rfl,_,rfl,rfl,_,rfl,zW (fun dd=>⟨_,rfl,by omega,by rw [List.length_append];simp;omega,s7⟩) (fun dd=>⟨by omega,s7⟩)⟩⟩
      rintro zs H7 ⟨zl,s7⟩
      refine ⟨by omega,fun D2 hD2=>⟨D2,zs,rfl,.inl (SqL.of zd),?_⟩⟩
      have s8:=s7.trans (ze (o:=.lst zs) hD2)
      have B8:=B6.same s8
      generalize upd H7 D2 (.lst zs) = H8 at s8 B8
      refine ⟨fun σ' H'=>Ex1 fun (many:Int)=>An5 (σ' = [some (.ref b),some (.ref ks),some (.ref ps),some (.bl pl),some (.bl (decide (V.int r = V.int 0))),some (.int more),v6,some (.ref R),some (.str kd),some (.int (zs.length:Int)),some (.int many)]) (0 <= many) (many <= 400) (SameB b H8 H') (BoxAt H' b (n + 60 + 6 * i + 2)),?_,?_⟩
      · refine ⟨_,rfl,_,rfl,zW (fun c=>?_) (fun c=>?_)⟩
        · refine ⟨_,rfl,_,rfl,_,rfl,b,9,_,rfl,B8,by omega,by decide,by decide,fun q9 H9 a0 a1 B9 S9=>⟨_,_,rfl,rfl,le3,fun l3 h3=>⟨_,rfl,b,3,_,rfl,B9.new h3,by omega,by decide,by decide,fun q3 H10 c0 c1 B10 S10=>?_⟩⟩⟩
          have L10:=S10 l3 _ zd (B9.nne h3)
          obtain ⟨z,ez,z0,z1⟩:=Wi (a:=(zs.length:Int)) (c:=(zs.length:Int) + q9) c0 c1 (by omega) (by omega) (by omega) (by omega)
          exact ⟨l3,_,_,_,rfl,rfl,SqL.of L10,ez,z,rfl,z0,z1,(S9.new h3).trans S10,B10.mono (by omega)⟩
        · exact ⟨_,rfl,b,4,_,rfl,B8,by omega,by decide,by decide,fun q9 H9 a0 a1 B9 S9=>⟨q9,rfl,a0,by omega,S9,B9.mono (by omega)⟩⟩
      rintro σ' H9 ⟨many,rfl,y0,y1,S9,B9⟩
      have S9':=(SameB.of (b:=b) s8).trans S9
      have R9:=S9' _ _ R6 nR
      refine ⟨_,rfl,.inl ⟨rfl,_,SqL.of R9⟩,_,rfl,_,rfl,le0,fun e he=>⟨b,e,_,[],rfl,B9.new he,by omega,B9.nne he,zd,Nat.zero_le _,(fun a h=>nomatch h),fun pp H10 S10 B10 ppN pa=>⟨_,rfl,le3,fun T hT=>?_⟩⟩⟩
      obtain ⟨px,py,hpp,b1,b2,b3,b4⟩:=pa
      have R10:=S10 _ _ ((ze he) _ _ R9) nR
      have R11:=(ze (o:=.tup [.str kd,.ref pp,.int many]) hT) _ _ R10
      refine ⟨R,xs,.ref T,rfl,rfl,R11,by omega,?_⟩
      have S11:=(S9'.new he).trans (S10.new (o:=.tup [.str kd,.ref pp,.int many]) hT)
      have st:SameT H6 (upd (upd H10 T (.tup [.str kd,.ref pp,.int many])) R (.lst (xs ++ [.ref T]))):=(SameT.draw B6 S11).trans (.put R11)
      have TR:T ≠ R:=fun z=>by rw [z,R10] at hT;cases hT
      have ppR:pp ≠ R:=fun z=>by rw [z,R10] at hpp;cases hpp
      have ppT:pp ≠ T:=fun z=>by rw [z,hT] at hpp;cases hpp
      refine ⟨fs ++ [⟨kd,px,py,many⟩],_,_,_,_,_,rfl,(S6.trans S11).put RH,((B10.new hT).other nR).mono (by omega),by rw [zv lR];exact S11 _ _ L6 nl,zd,?_,?_,fun g hgm=>?_⟩
      · rw [List.map_append]
        refine Reps.snoc ?_ (Reps.keep st (jt fs) rp)
        refine ⟨T,_,rfl,SqT.of (by rw [zv TR];exact zd),_,_,rfl,rfl,_,_,rfl,⟨pp,_,rfl,SqT.of (by rw [zv ppR,zv ppT];exact hpp),_,_,rfl,rfl,_,_,rfl,rfl,rfl⟩,_,_,rfl,rfl,rfl⟩
      · rw [List.map_append,fk]
        obtain ⟨h1,h2⟩:=List.getElem?_eq_some_iff.mp hkd
        rw [<- List.take_append_getElem h1,h2]
        rfl
      · rcases List.mem_append.mp hgm with q | q
        · exact fa g q
        · rw [List.mem_singleton.mp q]
          exact ⟨shn kd (List.mem_of_getElem? hkd),⟨b1,b2,b3,b4⟩,y0,y1⟩
    · rintro σ H6 ⟨fs,xs,v6,v8,v9,v10,rfl,S6,B6,L6,R6,rp,fk,fa⟩
      rw [List.length_map,List.take_length] at fk
      have fl:fs.length <= 32:=by
        have:=congrArg List.length fk
        rw [List.length_map] at this
        omega
      refine ⟨_,rfl,R,xs,rfl,.inl ⟨SqL.of R6,fun p hp'=>?_⟩⟩
      refine k p fs es _ (S6.new hp') ((B6.new hp').mono (by rw [List.length_map] at *;omega)) ⟨p,_,rfl,SqT.of zd,Reps.keep (SameT.of (ze hp')) (jt fs) rp⟩ (by rw [fk];exact shp) ee (by omega) fa
end
structure Job where
  gx:Int
  gy:Int
  hd:Int
  fs:List Xb
  ps:List Xa
  as:List (Nat × Nat)
def wM (J:Job):Dat:=.tup [.tup [.int J.gx,.int J.gy],.int J.hd,.tup (J.fs.map xJ),.tup (J.ps.map jJ),wT J.as]
theorem qR (J:Job):(wM J).imm = true:=by
  show (true && (true && (Dat.imms (J.fs.map xJ) && (Dat.imms (J.ps.map jJ) && (Dat.imms (J.as.map qb) && true))))) = true
  rw [jt,qO,qv];rfl
structure WA (J:Job) (ord:List Nat):Prop where
  gate:inP J.gx J.gy
  hd0:1 <= J.hd
  hd1:J.hd <= 4
  fl:J.fs.length <= 40
  fa:∀ f ∈ J.fs,Nm f.k /\ inP f.x f.y /\ 0 <= f.m /\ f.m <= 400
  pl:J.ps.length <= 60
  pa:∀ p ∈ J.ps,Nm p.k /\ inP p.x p.y /\ ∃ f ∈ J.fs,f.k = p.k
  op:ord.Perm (List.range J.ps.length)
  bo:Xd ord J.as
  al:J.as.length <= 300
  f0:1 <= J.fs.length
theorem Xr {r:Int} (h0:0 <= r) (h1:r < 4):∃ z:Int,atI [V.int 3,V.int 3,V.int 3,V.int 12] r = some (.int z) /\ 3 <= z /\ z <= 12:=by
  have hc:r = 0 \/ r = 1 \/ r = 2 \/ r = 3:=by omega
  rcases hc with rfl | rfl | rfl | rfl
  · exact ⟨3,rfl,by decide,by decide⟩
  · exact ⟨3,rfl,by decide,by decide⟩
  · exact ⟨3,rfl,by decide,by decide⟩
  · exact ⟨12,rfl,by decide,by decide⟩
section
variable {P:Program} {w:World} {K:PySem.W.Frag} {mg:Str -> Option Value} {base:Heap}
inductive ZE (K:PySem.W.Frag) (vs:List V) (H:Hp) (Q:VK):Prop
  | mk (b:Addr) (few most n:Int) (pl:Bool) (_:vs = [.ref b,.int few,.int most,.bl pl]) (_:BoxAt H b n) (_:n < 500000) (_:0 <= few) (_:few <= 60) (_:0 <= most) (_:most <= 60) (_:∀ (p:Addr) (J:Job) (ord:List Nat) H',SameB b H H' -> BoxAt H' b (n + 3000) -> Rep K H' (wM J) (.ref p) -> WA J ord -> Q (.ref p) H'):ZE K vs H Q
def ZF (K:PySem.W.Frag):Sp:=fun vs H Q _=>ZE K vs H Q
theorem Vb:zG ["_law_box_here", "_law_few", "_law_most", "_law_plenty", "_law_many", "_law_kinds", "_law_parts", "_law_feeders_here"] ["_law_box_here", "_law_few", "_law_most", "_law_plenty"] (zj (zn 24)):=⟨rfl,rfl,rfl,by decide +kernel,rfl,by decide +kernel,by decide +kernel⟩
def Qg (b:_) (few:_) (most:_) (pl:_) (H:_) (n:_):=fun (σ':St) (H':Hp)=>(Ex1 fun (m:Int)=>An5 (σ' = [some (.ref b),some (.int few),some (.int most),some (.bl pl),some (.int m),none,none,none]) (0 <= m) (m <= 60) (SameB b H H') (BoxAt H' b (n + 2)):Prop)
theorem VH {f:Addr} {fd:FuncData} (F:Fun K "_law_job" "_law_job" (zn 24) f fd) (B:Blt mg) (D_take:Dfn P w K mg base "_law_take" 1 ["_law_box_here", "_law_size"] qz) (D_names:Dfn P w K mg base "_law_names" 3 ["_law_box_here", "_law_many"] wE) (D_place:Dfn P w K mg base "_law_place" 2 ["_law_box_here", "_law_taken"] (xm K)) (D_places:Dfn P w K mg base "_law_places" 3 ["_law_box_here", "_law_many"] vd)
    (D_feeders:Dfn P w K mg base "_law_feeders" 3 ["_law_box_here", "_law_kinds", "_law_parts", "_law_plenty"] (Zg K)) (D_aheads:Dfn P w K mg base "_law_aheads" 3 ["_law_box_here", "_law_many"] (vh K)):FnOk P w K mg base CX0 4 f fd ["_law_box_here", "_law_few", "_law_most", "_law_plenty"] (ZF K):=by
  have nd:=Vb.nd
  refine F.ok Vb (fun vs H Q E h=>?_) (fun cdv A outer s H vs Q E hr h=>?_)
  · obtain ⟨b,few,most,n,pl,rfl,_⟩:=h
    rfl
  · obtain ⟨b,few,most,n,pl,rfl,B0,hn,f0,f1,mo0,mo1,k⟩:=h
    have hbig:100000 < sizeLine:=by rw [sizeLine_eq];decide
    refine ⟨_,(zg (jx (zy (i:=4) nd rfl (Or.inl rfl) (zf D_take (hr.mono (by first | decide | exact Nat.le_refl _ | omega)) rfl (za (pv 0) (za (zo zH (qo (zE JB (zf D_take (hr.mono (by first | decide | exact Nat.le_refl _ | omega)) rfl (za (pv 0) (za zc zb))) zc (zx _)) (pv 1) (pv 2)) zc) zb)))))
      (zg (zy (i:=5) nd rfl (Or.inr rfl) (zf D_names (hr.mono (by first | decide | exact Nat.le_refl _ | omega)) rfl (za (pv 0) (za (zo zH zc (zf D_take (hr.mono (by first | decide | exact Nat.le_refl _ | omega)) rfl (za (pv 0) (za (zP (zY (K:=K) rfl) (zZ (za zc (za zc (za zc (za zc zb))))) (zf D_take (hr.mono (by first | decide | exact Nat.le_refl _ | omega)) rfl (za (pv 0) (za zc zb))) (fun _ _=>rfl)) zb)))) zb))))
      (zg (zy (i:=6) nd rfl (Or.inl rfl) (zV (jg (K:=K) rfl) rfl B.tuple zJ (za (jq ["_law_kinds", "_law_box_here"] [5,0] rfl rfl (by kernel_rfl) (xp (zf D_places (hr.mono (by first | decide | exact Nat.le_refl _ | omega)) rfl (za (pv 0) (za (pv 4) zb)))) (fun C0 s0 H0 ex0=>qN) (fun C0 s0 H0 ex0=>(zw (za (zP (zY (K:=K) rfl) (pv 1) (zf D_take (hr.mono (by first | decide | exact Nat.le_refl _ | omega)) rfl (za (pv 2) (za (zi (zK (K:=K) rfl) rfl B.len boot_len (za (pv 1) zb)) zb))) (fun _ _=>rfl)) (za (pv 0) zb))))) zb)))
      (zg (zy (i:=7) nd rfl (Or.inl rfl) (zf D_feeders (hr.mono (by first | decide | exact Nat.le_refl _ | omega)) rfl (za (pv 0) (za (pv 5) (za (pv 6) (za (pv 3) zb))))))
      (zk (zu (zw (pa5 (zf D_place (hr.mono (by first | decide | exact Nat.le_refl _ | omega)) rfl (za (pv 0) (za (zZ zb) zb))) (zo zH zc (zf D_take (hr.mono (by first | decide | exact Nat.le_refl _ | omega)) rfl (za (pv 0) (za zc zb)))) (pv 7) (pv 6) (zf D_aheads (hr.mono (by first | decide | exact Nat.le_refl _ | omega)) rfl (za (pv 0) (za (pv 4) zb))))))))))),?_⟩
    refine ⟨Qg b few most pl H n,?_,?_⟩
    · refine ⟨_,rfl,_,rfl,b,8,n,rfl,B0,by omega,by decide,by decide,fun r H1 r0 r1 B1 S1=>⟨_,_,rfl,rfl,_,rfl,zW (fun c=>⟨_,rfl,_,_,rfl,rfl,?_⟩) (fun c=>⟨_,rfl,_,_,rfl,rfl,?_⟩)⟩⟩
      · exact ⟨b,_,_,rfl,B1,by omega,by omega,by omega,fun m H2 a0 a1 B2 S2=>⟨m,rfl,a0,by omega,S1.trans S2,B2.mono (by omega)⟩⟩
      · exact ⟨b,_,_,rfl,B1,by omega,by omega,by omega,fun m H2 a0 a1 B2 S2=>⟨m,rfl,a0,by omega,S1.trans S2,B2.mono (by omega)⟩⟩
    rintro σ' H2 ⟨m,rfl,m0,m1,S2,B2⟩
    refine ⟨_,rfl,_,rfl,le4,fun l1 h1=>⟨_,rfl,b,4,_,rfl,B2.new h1,by omega,by decide,by decide,fun r H3 r0 r1 B3 S3=>?_⟩⟩
    have L3:=S3 l1 _ zd (B2.nne h1)
    obtain ⟨z,ez,z0,z1⟩:=Xr r0 r1
    refine ⟨l1,_,_,_,rfl,rfl,SqL.of L3,ez,b,z,_,rfl,B3,by omega,by omega,by omega,fun q H4 q0 q1 B4 S4=>⟨_,_,rfl,rfl,b,1 + q,_,rfl,B4,by omega,by omega,by omega,fun ks kinds H5 S5 B5 nk kN Rk kl=>?_⟩⟩
    have S5':=(((S2.new h1).trans S3).trans S4).trans S5
    have ek:(kinds.map V.str).length = kinds.length:=List.length_map ..
    clear S2 S3 S4 S5 B2 B3 B4 L3 h1
    refine ⟨_,rfl,_,rfl,b,m,_,rfl,B5,by omega,m0,by omega,fun l as H6 S6 B6 nl lN hl pa al=>?_⟩
    have Rk6:=Rk.draw S6 nk
    refine ⟨l,rfl,⟨_,SqL.of hl⟩,wL (K:=K) (a:=l) (xs:=as.map V.ref) (fun j zs H7=>Ex1 fun (qs:List Xa)=>An5 (Reps K H7 (qs.map jJ) zs) (qs.length = j) ((∀ q ∈ qs,q.k ∈ kinds /\ inP q.x q.y)) (SameB b H6 H7) (BoxAt H7 b (n + 700 + j))) ⟨[],rfl,rfl,(fun x h=>nomatch h),SameB.refl _ _,B6.mono (by omega)⟩ (fun j zs H7 ⟨_,_,_,_,s7,_⟩=>SqL.of (s7 _ _ hl nl)) ?_ ?_⟩
    · rintro j x zs H7 hx ⟨qs,rq,ql,qa,S7,B7⟩
      rw [List.getElem?_map] at hx
      obtain ⟨a,ha,rfl⟩:=Option.map_eq_some_iff.mp hx
      have hj:=(List.getElem?_eq_some_iff.mp ha).1
      have zl:zs.length = j:=by rw [rq.len,List.length_map,ql]
      refine ⟨rfl,⟨_,rfl,_,rfl,_,rfl,ks,_,rfl,.inl (SqL.of (Rk6.draw S7 nk).1),b,_,_,rfl,B7,by omega,by omega,by omega,fun q H8 c0 c1 B8 S8=>?_⟩⟩
      obtain ⟨y,ey,my⟩:=Q8 (ns:=kinds) c0 (by omega)
      obtain ⟨px,py,hpp,b1,b2,b3,b4⟩:=(pa a (List.mem_of_getElem? ha)).draw B6 (S7.trans S8)
      refine ⟨ks,_,_,_,rfl,rfl,SqL.of (Rk6.draw (S7.trans S8) nk).1,ey,_,rfl,le2,fun T hT=>⟨by omega,qs ++ [⟨y,px,py⟩],?_,by rw [List.length_append,ql];rfl,fun q hq=>?_,(S7.trans S8).new hT,(B8.new hT).mono (by omega)⟩⟩
      · rw [List.map_append]
        have rT:Rep K (upd H8 T (.tup [.str y,.ref a])) (jJ ⟨y,px,py⟩) (.ref T):=⟨T,_,rfl,SqT.of zd,_,_,rfl,rfl,_,_,rfl,⟨a,_,rfl,SqT.of ((ze hT) _ _ hpp),_,_,rfl,rfl,_,_,rfl,rfl,rfl⟩,rfl⟩
        exact Reps.snoc rT (Reps.keep ((SameT.draw B7 S8).trans (.of (ze hT))) (qO qs) rq)
      · rcases List.mem_append.mp hq with w1 | w1
        · exact qa q w1
        · rw [List.mem_singleton.mp w1];exact ⟨my,b1,b2,b3,b4⟩
    rintro zs H7 ⟨qs,rq,ql,qa,S7,B7⟩
    rw [List.length_map] at ql
    have B7:BoxAt H7 b (n + 800):=B7.mono (by rw [List.length_map];omega)
    have zl:zs.length = as.length:=by rw [rq.len,List.length_map,ql]
    refine ⟨by omega,fun D hD=>⟨D,zs,rfl,.inl ⟨SqL.of zd,fun ps hps=>?_⟩⟩⟩
    have sm:=(ze (o:=.lst zs) hD).trans (ze (o:=.tup zs) hps)
    have S8:=(S5'.trans S6).trans (S7.trans (SameB.of (b:=b) sm))
    have B8:=B7.same sm
    have Rk8:=(Rk6.draw S7 nk).same sm
    have P8:Rep K (upd (upd H7 D (.lst zs)) ps (.tup zs)) (.tup (qs.map jJ)) (.ref ps):=⟨ps,_,rfl,SqT.of zd,Reps.keep (.of sm) (qO qs) rq⟩
    generalize upd (upd H7 D (.lst zs)) ps (.tup zs) = H8 at sm S8 B8 Rk8 P8
    clear S5' S6 S7 B5 B6 B7 Rk Rk6 rq hD hps pa hl
    refine ⟨_,rfl,_,rfl,_,rfl,_,rfl,b,ks,ps,pl,_,kinds,qs,rfl,B8,by omega,nk,Rk8,by omega,by omega,P8,by omega,fun fp fs es H9 S9 B9 F9 fperm ee fl fa=>?_⟩
    have P9:=Rep.keep (d:=.tup (qs.map jJ)) (SameT.draw B8 S9) (qO qs) P8
    refine ⟨_,rfl,le0,fun t ht=>⟨b,t,_,[],rfl,B9.new ht,by omega,B9.nne ht,zd,Nat.zero_le _,(fun a h=>nomatch h),fun gp H10 S10 B10 gN ga=>?_⟩⟩
    obtain ⟨gx,gy,hgp,g1,g2,g3,g4⟩:=ga
    refine ⟨_,rfl,b,4,_,rfl,B10,by omega,by decide,by decide,fun hd H11 d0 d1 B11 S11=>⟨_,_,rfl,rfl,_,rfl,_,rfl,_,rfl,_,rfl,b,m,_,rfl,B11,by omega,m0,by omega,fun ap aas ord H12 S12 B12 A12 op bo al2=>⟨leN (by show 5 <= 1000;decide),fun p hp=>?_⟩⟩⟩
    have t9:SameT H9 H12:=((SameT.of (ze ht)).trans (.draw (B9.new ht) S10)).trans ((SameT.draw B10 S11).trans (.draw B11 S12))
    have t10:SameT H10 H12:=(SameT.draw B10 S11).trans (.draw B11 S12)
    have up:Same H12 (upd H12 p (.tup [.ref gp,.int (1 + hd),.ref fp,.ref ps,.ref ap])):=ze hp
    have F12:=Rep.keep (d:=.tup (fs.map xJ)) (t9.trans (.of up)) (jt fs) F9
    have P12:=Rep.keep (d:=.tup (qs.map jJ)) (t9.trans (.of up)) (qO qs) P9
    have A13:=Rep.keep (d:=wT aas) (.of up) (qv aas) A12
    have G12:=(t10.trans (.of up)) gp _ hgp (fun xs h=>nomatch h)
    have qlm:qs.length = m.toNat:=by omega
    have fk:∀ kd ∈ kinds,∃ f ∈ fs,f.k = kd:=fun kd hkd=>by
      have:=fperm.mem_iff.mpr (List.mem_append_left es hkd)
      obtain ⟨f,hf,e⟩:=List.mem_map.mp this
      exact ⟨f,hf,e⟩
    refine k p ⟨gx,gy,1 + hd,fs,qs,aas⟩ ord _ (((S8.trans S9).trans ((SameB.of (ze ht)).trans S10)).trans ((S11.trans S12).new hp)) ((B12.new hp).mono (by omega)) ?_ ?_
    · exact ⟨p,_,rfl,SqT.of zd,_,_,rfl,⟨gp,_,rfl,SqT.of G12,_,_,rfl,rfl,_,_,rfl,rfl,rfl⟩,_,_,rfl,rfl,_,_,rfl,F12,_,_,rfl,P12,_,_,rfl,A13,rfl⟩
    · refine ⟨⟨g1,g2,g3,g4⟩,by show 1 <= 1 + hd;omega,by show 1 + hd <= 4;omega,fl,fa,by show qs.length <= 60;omega,fun q hq=>?_,by show ord.Perm (List.range qs.length);rw [qlm];exact op,bo,al2,?_⟩
      · obtain ⟨hk,hi⟩:=qa q hq
        exact ⟨Rk8.2 q.k hk,hi,fk q.k hk⟩
      · have:=fperm.length_eq
        rw [List.length_map,List.length_append] at this
        show 1 <= fs.length
        omega
end
mutual
def Dat.gd (k:Nat):Dat -> Bool
  | .int i=>decide (i.natAbs <= 10000000000 + k)
  | .str x=>x.cps.toList.all fun c=>decide (c < 1000000)
  | .lst ds=>Dat.gds k ds
  | .tup ds=>Dat.gds k ds
  | _=>true
def Dat.gds (k:Nat):List Dat -> Bool
  | []=>true
  | d :: ds=>d.gd k && Dat.gds k ds
end
mutual
theorem Dat.gd_up {k m:Nat} (h:k <= m):∀ {d:Dat},d.gd k = true -> d.gd m = true
  | .int i,e=>decide_eq_true (by have:=of_decide_eq_true (p:=i.natAbs <= 10000000000 + k) e;omega)
  | .str _,e=>e
  | .lst ds,e=>Dat.gds_up h (ds:=ds) e
  | .tup ds,e=>Dat.gds_up h (ds:=ds) e
  | .non,_=>rfl
  | .bl _,_=>rfl
theorem Dat.gds_up {k m:Nat} (h:k <= m):∀ {ds:List Dat},Dat.gds k ds = true -> Dat.gds m ds = true
  | [],_=>rfl
  | d :: ds,e=>by
    have e':(d.gd k && Dat.gds k ds) = true:=e
    rw [Bool.and_eq_true] at e'
    show (d.gd m && Dat.gds m ds) = true
    rw [Dat.gd_up h e'.1,Dat.gds_up h e'.2];rfl
end
mutual
theorem Dat.gd_shw {k:Nat} (h:k <= 1000):∀ {d:Dat},d.gd k = true -> d.shw = true
  | .int i,e=>decide_eq_true (by have:=of_decide_eq_true (p:=i.natAbs <= 10000000000 + k) e;omega)
  | .str _,e=>e
  | .lst ds,e=>Dat.gds_shw h (ds:=ds) e
  | .tup ds,e=>Dat.gds_shw h (ds:=ds) e
  | .non,_=>rfl
  | .bl _,_=>rfl
theorem Dat.gds_shw {k:Nat} (h:k <= 1000):∀ {ds:List Dat},Dat.gds k ds = true -> Dat.shws ds = true
  | [],_=>rfl
  | d :: ds,e=>by
    have e':(d.gd k && Dat.gds k ds) = true:=e
    rw [Bool.and_eq_true] at e'
    show (d.shw && Dat.shws ds) = true
    rw [Dat.gd_shw h e'.1,Dat.gds_shw h e'.2];rfl
end
structure GdD (k z D:Nat) (d:Dat):Prop where
  g:d.gd k = true
  b:d.blk <= z
  p:d.py.depth <= D
theorem GdD.up {k z D k' z' D':Nat} {d:Dat} (h:GdD k z D d) (h1:k <= k') (h2:z <= z') (h3:D <= D'):GdD k' z' D' d:=⟨Dat.gd_up h1 h.g,Nat.le_trans h.b h2,Nat.le_trans h.p h3⟩
section
variable {P:Program} {w:World} {K:PySem.W.Frag} {mg:Str -> Option Value} {base:Heap}
def DS (K:PySem.W.Frag) (F:Hp) (k z D:Nat) (v:V):Prop:=∃ d,Rep K F d v /\ GdD k z D d
theorem DS.up {F F':Hp} {k z D k' z' D':Nat} {v:V} (h:DS K F k z D v) (s:Same F F') (h1:k <= k') (h2:z <= z') (h3:D <= D'):DS K F' k' z' D' v:=let ⟨d,r,g⟩:=h;⟨d,r.same s,g.up h1 h2 h3⟩
theorem xo {F:Hp} {k z D:Nat}:∀ {xs:List V},(∀ x ∈ xs,DS K F k z D x) -> ∃ ds,Reps K F ds xs /\ Dat.gds k ds = true /\ Dat.blks ds <= (z + 1) * xs.length /\ PyData.depthAll (Dat.pys ds) <= D
  | [],_=>⟨[],rfl,rfl,Nat.zero_le _,Nat.zero_le _⟩
  | x :: xs,h=>by
    obtain ⟨d,r,g⟩:=h x (by simp)
    obtain ⟨ds,r',g',b',p'⟩:=xo (xs:=xs) fun y hy=>h y (List.mem_cons_of_mem _ hy)
    refine ⟨d :: ds,⟨x,xs,rfl,r,r'⟩,?_,?_,?_⟩
    · show (d.gd k && Dat.gds k ds) = true
      rw [g.g,g'];rfl
    · show d.blk + 1 + Dat.blks ds <= _
      have:=g.b
      rw [List.length_cons,Nat.mul_succ]
      omega
    · show max d.py.depth (PyData.depthAll (Dat.pys ds)) <= D
      have:=g.p
      omega
theorem DS.lst {F:Hp} {k z D z':Nat} {a:Addr} {xs:List V} (h:SqL K F a xs) (all:∀ x ∈ xs,DS K F k z D x) (hz:(z + 1) * xs.length <= z'):DS K F k z' (D + 1) (.ref a):=by
  obtain ⟨ds,r,g,b,p⟩:=xo all
  refine ⟨.lst ds,⟨a,xs,rfl,h,r⟩,g,Nat.le_trans b hz,?_⟩
  show PyData.depth (.list (Dat.pys ds)) <= _
  simp only [PyData.depth]
  omega
theorem DS.tup {F:Hp} {k z D z':Nat} {a:Addr} {xs:List V} (h:SqT K F a xs) (all:∀ x ∈ xs,DS K F k z D x) (hz:(z + 1) * xs.length <= z'):DS K F k z' (D + 1) (.ref a):=by
  obtain ⟨ds,r,g,b,p⟩:=xo all
  refine ⟨.tup ds,⟨a,xs,rfl,h,r⟩,g,Nat.le_trans b hz,?_⟩
  show PyData.depth (.tuple (Dat.pys ds)) <= _
  simp only [PyData.depth]
  omega
theorem vH {F:Hp} {k z D:Nat}:∀ {ds:List Dat} {xs:List V},Reps K F ds xs -> Dat.gds k ds = true -> Dat.blks ds <= z -> PyData.depthAll (Dat.pys ds) <= D -> xs.length <= z /\ ∀ x ∈ xs,DS K F k (z - 1) D x
  | [],_,h,_,_,_=>by rw [show _ = _ from h];exact ⟨Nat.zero_le _,fun x hx=>nomatch hx⟩
  | d :: ds,_,h,g,b,p=>by
    obtain ⟨v,r,e,h1,h2⟩:=h
    subst e
    have g':(d.gd k && Dat.gds k ds) = true:=g
    rw [Bool.and_eq_true] at g'
    have b':d.blk + 1 + Dat.blks ds <= z:=b
    have p':max d.py.depth (PyData.depthAll (Dat.pys ds)) <= D:=p
    obtain ⟨l,al⟩:=vH (z:=z - 1) (k:=k) (D:=D) h2 g'.2 (by omega) (by omega)
    refine ⟨by rw [List.length_cons];omega,fun x hx=>?_⟩
    rcases List.mem_cons.mp hx with q | q
    · rw [q];exact ⟨d,h1,g'.1,by omega,by omega⟩
    · exact (al x q).up (Same.refl _) (Nat.le_refl _) (by omega) (Nat.le_refl _)
theorem SqQ.same {H H':Hp} {t:Bool} {a:Addr} {xs:List V} (h:SqQ K H t a xs) (s:Same H H'):SqQ K H' t a xs:=by
  cases t with
  | true=>exact s.sqT h
  | false=>exact s.seq h
theorem SqQ.or {H:Hp} {t:Bool} {a:Addr} {xs:List V} (h:SqQ K H t a xs):SqL K H a xs \/ SqT K H a xs:=by
  cases t with
  | true=>exact .inr h
  | false=>exact .inl h
def tyQ (t:Bool):String:=if t = true then "tuple" else "list"
theorem SqQ.ty {H:Hp} {t:Bool} {a:Addr} {xs:List V} (h:SqQ K H t a xs):TyN K H (.ref a) (tyQ t):=by
  cases t with
  | true=>exact .inr ⟨rfl,xs,h⟩
  | false=>exact .inl ⟨rfl,xs,h⟩
theorem DS.split {F:Hp} {k z D:Nat} {v:V} (h:DS K F k z D v):v = .non \/ (∃ c,v = .bl c) \/ (∃ i:Int,v = .int i /\ i.natAbs <= 10000000000 + k) \/ (∃ x:Str,v = .str x) \/ ∃ (a:Addr) (t:Bool) (xs:List V),v = .ref a /\ SqQ K F t a xs /\ xs.length <= z /\ 1 <= D /\ ∀ x ∈ xs,DS K F k (z - 1) (D - 1) x:=by
  obtain ⟨d,r,g,b,p⟩:=h
  cases d with
  | non=>exact .inl r
  | bl c=>exact .inr (.inl ⟨c,r⟩)
  | int i=>exact .inr (.inr (.inl ⟨i,r,of_decide_eq_true g⟩))
  | str x=>exact .inr (.inr (.inr (.inl ⟨x,r⟩)))
  | lst ds=>
    obtain ⟨a,xs,e,q,rs⟩:=r
    have p':PyData.depth (.list (Dat.pys ds)) <= D:=p
    simp only [PyData.depth] at p'
    obtain ⟨l,al⟩:=vH (z:=z) (D:=D - 1) rs g b (by omega)
    exact .inr (.inr (.inr (.inr ⟨a,false,xs,e,q,l,by omega,al⟩)))
  | tup ds=>
    obtain ⟨a,xs,e,q,rs⟩:=r
    have p':PyData.depth (.tuple (Dat.pys ds)) <= D:=p
    simp only [PyData.depth] at p'
    obtain ⟨l,al⟩:=vH (z:=z) (D:=D - 1) rs g b (by omega)
    exact .inr (.inr (.inr (.inr ⟨a,true,xs,e,q,l,by omega,al⟩)))
theorem VV {k:Nat} {i:Int} (h:i.natAbs <= 10000000000 + k) (z D:Nat):GdD k z D (.int i):=⟨decide_eq_true h,Nat.zero_le _,by show PyData.depth (.int i) <= _;simp [PyData.depth]⟩
theorem DS.non {F:Hp} {k z D:Nat}:DS K F k z D .non:=⟨.non,rfl,rfl,Nat.zero_le _,by show PyData.depth .none <= _;simp [PyData.depth]⟩
theorem DS.bl {F:Hp} {k z D:Nat} (b:Bool):DS K F k z D (.bl b):=⟨.bl b,rfl,rfl,Nat.zero_le _,by show PyData.depth (.bool b) <= _;simp [PyData.depth]⟩
theorem DS.int {F:Hp} {k z D:Nat} {i:Int} (h:i.natAbs <= 10000000000 + k):DS K F k z D (.int i):=⟨.int i,rfl,VV h z D⟩
theorem DS.str {F:Hp} {k z D:Nat} {x:Str} (h:x.length <= z) (hc:∀ c ∈ x.cps.toList,c < 1000000):DS K F k z D (.str x):=⟨.str x,rfl,List.all_eq_true.mpr fun c hc'=>decide_eq_true (hc c hc'),h,by show PyData.depth (.str x) <= _;simp [PyData.depth]⟩
theorem DS.istr {F:Hp} {k z D:Nat} {i:Int} (h:i.natAbs < 1000000000000) (hz:13 <= z):DS K F k z D (.str (toString i)):=by
  refine DS.str (Nat.le_trans (Zn h) hz) fun c hc=>?_
  have e:(Str.ofString (toString i)).cps.toList = (toString i).toList.map Char.toNat:=by rw [Str.ofString_eq_toList]
  have hc':c ∈ (Str.ofString (toString i)).cps.toList:=hc
  rw [e] at hc'
  obtain ⟨ch,h1,rfl⟩:=List.mem_map.mp hc'
  have:=int_ascii i ch h1
  omega
theorem Wx (xs:List V) (a b:Nat):(qg xs (some (a:Int)) (some (b:Int))).length <= b - a /\ (qg xs (some (a:Int)) (some (b:Int))).length <= xs.length - a:=by
  unfold qg
  rw [HT.sIx_nat,HT.sIx_nat]
  rw [List.length_take,List.length_drop]
  omega
end
structure Ex (H:Hp) (b:Addr) (ex:List Addr):Prop where
  mem:b ∈ ex
  al:∀ e ∈ ex,∃ o,H e = some o
theorem Ex.next {H H':Hp} {b:Addr} {ex:List Addr} {m:Int} (h:Ex H b ex) (s:SameB b H H') (B:BoxAt H' b m):Ex H' b ex:=⟨h.mem,fun e he=>by
  by_cases z:e = b
  · rw [z];exact B.some
  · obtain ⟨o,q⟩:=h.al e he
    exact ⟨o,s e o q z⟩⟩
theorem Ex.same {H H':Hp} {b:Addr} {ex:List Addr} (h:Ex H b ex) (s:Same H H'):Ex H' b ex:=⟨h.mem,fun e he=>let ⟨o,q⟩:=h.al e he;⟨o,s e o q⟩⟩
theorem Ex.out {H:Hp} {b p:Addr} {ex:List Addr} (h:Ex H b ex) (hp:H p = none):p ∉ ex:=fun z=>by
  obtain ⟨o,q⟩:=h.al p z
  rw [hp] at q;cases q
theorem Ex.cons {H:Hp} {b m:Addr} {o:HO} {ex:List Addr} (h:Ex H b ex) (hm:H m = some o):Ex H b (m :: ex):=⟨List.mem_cons_of_mem _ h.mem,fun e he=>(List.mem_cons.mp he).elim (fun z=>⟨o,by rw [z];exact hm⟩) (h.al e)⟩
theorem Ex.put {H:Hp} {b m:Addr} {o:HO} {ex:List Addr} (h:Ex H b ex):Ex (upd H m o) b ex:=⟨h.mem,fun e he=>by
  by_cases z:e = m
  · rw [z];exact ⟨o,zd⟩
  · rw [zv z];exact h.al e he⟩
theorem WX.draw {ex:List Addr} {H H':Hp} {b:Addr} (h:b ∈ ex) (s:SameB b H H'):Same (WX ex H) (WX ex H'):=fun c u e=>by
  unfold WX at e ⊢
  split at e
  · cases e
  · rename_i hc
    rw [if_neg hc]
    exact s c u e (fun z=>hc (by rw [z];exact h))
theorem VU {n:Nat} {i:Int} (h:0 <= i) (h':i < n):ixN n i = some i.toNat:=by
  unfold ixN
  rw [if_pos h,if_pos h']
section
variable {P:Program} {w:World} {K:PySem.W.Frag} {mg:Str -> Option Value} {base:Heap}
end
theorem Z1 {k:Nat}:∀ {ds:List Dat} {i:Nat} {d:Dat},Dat.gds k ds = true -> d.gd k = true -> Dat.gds k (ds.set i d) = true
  | [],_,_,h,_=>h
  | a :: ds,0,d,h,h'=>by
    have e:(a.gd k && Dat.gds k ds) = true:=h
    rw [Bool.and_eq_true] at e
    show (d.gd k && Dat.gds k ds) = true
    rw [h',e.2];rfl
  | a :: ds,i + 1,d,h,h'=>by
    have e:(a.gd k && Dat.gds k ds) = true:=h
    rw [Bool.and_eq_true] at e
    show (a.gd k && Dat.gds k (ds.set i d)) = true
    rw [e.1,Z1 e.2 h'];rfl
theorem yS:∀ {ds:List Dat} {i:Nat} {d:Dat},Dat.blks (ds.set i d) <= Dat.blks ds + d.blk
  | [],_,_=>Nat.zero_le _
  | a :: ds,0,d=>by
    show d.blk + 1 + Dat.blks ds <= a.blk + 1 + Dat.blks ds + d.blk
    omega
  | a :: ds,i + 1,d=>by
    show a.blk + 1 + Dat.blks (ds.set i d) <= a.blk + 1 + Dat.blks ds + d.blk
    have:=yS (ds:=ds) (i:=i) (d:=d)
    omega
theorem yM:∀ {ds:List Dat} {i:Nat} {d:Dat},PyData.depthAll (Dat.pys (ds.set i d)) <= max (PyData.depthAll (Dat.pys ds)) d.py.depth
  | [],_,_=>Nat.zero_le _
  | a :: ds,0,d=>Nat.max_le.mpr ⟨Nat.le_max_right _ _,Nat.le_trans (Nat.le_max_right _ _) (Nat.le_max_left _ _)⟩
  | a :: ds,i + 1,d=>Nat.max_le.mpr ⟨Nat.le_trans (Nat.le_max_left _ _) (Nat.le_max_left _ _),Nat.le_trans (yM (ds:=ds) (i:=i) (d:=d)) (Nat.max_le.mpr ⟨Nat.le_trans (Nat.le_max_right _ _) (Nat.le_max_left _ _),Nat.le_max_right _ _⟩)⟩
section
variable {P:Program} {w:World} {K:PySem.W.Frag} {mg:Str -> Option Value} {base:Heap}
theorem Reps.set {H:Hp}:∀ {ds:List Dat} {xs:List V} {i:Nat} {d:Dat} {v:V},Reps K H ds xs -> Rep K H d v -> Reps K H (ds.set i d) (xs.set i v)
  | [],_,_,_,_,h,_=>by rw [show _ = _ from h];exact rfl
  | a :: ds,_,0,d,v,h,h'=>by
    obtain ⟨x,r,e,_,h2⟩:=h
    subst e
    exact ⟨v,r,rfl,h',h2⟩
  | a :: ds,_,i + 1,d,v,h,h'=>by
    obtain ⟨x,r,e,h1,h2⟩:=h
    subst e
    exact ⟨x,r.set i v,rfl,h1,Reps.set h2 h'⟩
end
theorem vD:∀ a b:List Dat,Dat.blks (a ++ b) = Dat.blks a + Dat.blks b
  | [],b=>by show Dat.blks b = 0 + Dat.blks b;omega
  | d :: a,b=>by
    have:=vD a b
    show d.blk + 1 + Dat.blks (a ++ b) = d.blk + 1 + Dat.blks a + Dat.blks b
    omega
theorem Z2 {k:Nat}:∀ {a b:List Dat},Dat.gds k a = true -> Dat.gds k b = true -> Dat.gds k (a ++ b) = true
  | [],_,_,h=>h
  | d :: a,b,h,h'=>by
    have e:(d.gd k && Dat.gds k a) = true:=h
    rw [Bool.and_eq_true] at e
    show (d.gd k && Dat.gds k (a ++ b)) = true
    rw [e.1,Z2 e.2 h'];rfl
theorem wb {k:Nat}:∀ {a b:List Dat},Dat.gds k (a ++ b) = true -> Dat.gds k a = true /\ Dat.gds k b = true
  | [],_,h=>⟨rfl,h⟩
  | d :: a,b,h=>by
    have e:(d.gd k && Dat.gds k (a ++ b)) = true:=h
    rw [Bool.and_eq_true] at e
    obtain ⟨h1,h2⟩:=wb e.2
    refine ⟨?_,h2⟩
    show (d.gd k && Dat.gds k a) = true
    rw [e.1,h1];rfl
theorem vC:∀ a b:List Dat,PyData.depthAll (Dat.pys (a ++ b)) = max (PyData.depthAll (Dat.pys a)) (PyData.depthAll (Dat.pys b))
  | [],b=>by show PyData.depthAll (Dat.pys b) = max 0 (PyData.depthAll (Dat.pys b));omega
  | d :: a,b=>by
    have:=vC a b
    show max d.py.depth (PyData.depthAll (Dat.pys (a ++ b))) = max (max d.py.depth (PyData.depthAll (Dat.pys a))) (PyData.depthAll (Dat.pys b))
    omega
section
variable {P:Program} {w:World} {K:PySem.W.Frag} {mg:Str -> Option Value} {base:Heap}
def GL (K:PySem.W.Frag) (F:Hp) (k z D:Nat) (xs:List V):Prop:=∃ ds,Reps K F ds xs /\ Dat.gds k ds = true /\ Dat.blks ds <= z /\ PyData.depthAll (Dat.pys ds) <= D
theorem GL.up {F F':Hp} {k z D k' z' D':Nat} {xs:List V} (h:GL K F k z D xs) (s:Same F F') (h1:k <= k') (h2:z <= z') (h3:D <= D'):GL K F' k' z' D' xs:=let ⟨ds,r,g,b,p⟩:=h;⟨ds,r.same s,Dat.gds_up h1 g,Nat.le_trans b h2,Nat.le_trans p h3⟩
theorem Reps.parts {H:Hp}:∀ {ds:List Dat} {xs ys:List V},Reps K H ds (xs ++ ys) -> ∃ d1 d2,ds = d1 ++ d2 /\ Reps K H d1 xs /\ Reps K H d2 ys
  | ds,[],ys,h=>⟨[],ds,rfl,rfl,h⟩
  | [],x :: xs,ys,h=>by cases (show x :: (xs ++ ys) = [] from h)
  | d :: ds,x :: xs,ys,h=>by
    obtain ⟨v,r,e,h1,h2⟩:=h
    cases e
    obtain ⟨d1,d2,rfl,r1,r2⟩:=Reps.parts (xs:=xs) (ys:=ys) h2
    exact ⟨d :: d1,d2,rfl,⟨_,_,rfl,h1,r1⟩,r2⟩
theorem GL.parts {F:Hp} {k z D:Nat} {xs ys:List V} (h:GL K F k z D (xs ++ ys)):∃ z1 z2,z1 + z2 = z /\ GL K F k z1 D xs /\ GL K F k z2 D ys:=by
  obtain ⟨ds,r,g,b,p⟩:=h
  obtain ⟨d1,d2,rfl,r1,r2⟩:=Reps.parts r
  obtain ⟨g1,g2⟩:=wb g
  rw [vD] at b
  rw [vC] at p
  exact ⟨Dat.blks d1,z - Dat.blks d1,by omega,⟨d1,r1,g1,Nat.le_refl _,by omega⟩,⟨d2,r2,g2,by omega,by omega⟩⟩
theorem GL.app {F:Hp} {k z1 z2 D:Nat} {xs ys:List V} (h:GL K F k z1 D xs) (h':GL K F k z2 D ys):GL K F k (z1 + z2) D (xs ++ ys):=by
  obtain ⟨d1,r1,g1,b1,p1⟩:=h
  obtain ⟨d2,r2,g2,b2,p2⟩:=h'
  exact ⟨d1 ++ d2,Reps.app r1 r2,Z2 g1 g2,by rw [vD];omega,by rw [vC];omega⟩
theorem GL.one {F:Hp} {k z D:Nat} {v:V} (h:DS K F k z D v):GL K F k (z + 1) D [v]:=by
  obtain ⟨d,r,g,b,p⟩:=h
  refine ⟨[d],⟨v,[],rfl,r,rfl⟩,?_,?_,?_⟩
  · show (d.gd k && true) = true
    rw [g];rfl
  · show d.blk + 1 + 0 <= _
    omega
  · show max d.py.depth 0 <= D
    omega
theorem GL.nil {F:Hp} {k z D:Nat}:GL K F k z D []:=⟨[],rfl,rfl,Nat.zero_le _,Nat.zero_le _⟩
theorem GL.take {F:Hp} {k z D:Nat} {xs:List V} (n:Nat) (h:GL K F k z D xs):GL K F k z D (xs.take n):=by
  rw [<- List.take_append_drop n xs] at h
  obtain ⟨z1,z2,e,h1,_⟩:=h.parts
  exact h1.up (Same.refl _) (Nat.le_refl _) (by omega) (Nat.le_refl _)
theorem GL.drop {F:Hp} {k z D:Nat} {xs:List V} (n:Nat) (h:GL K F k z D xs):GL K F k z D (xs.drop n):=by
  rw [<- List.take_append_drop n xs] at h
  obtain ⟨z1,z2,e,_,h2⟩:=h.parts
  exact h2.up (Same.refl _) (Nat.le_refl _) (by omega) (Nat.le_refl _)
theorem GL.cut {F:Hp} {k z D:Nat} {xs:List V} (lo hi:Option Int) (h:GL K F k z D xs):GL K F k z D (qg xs lo hi):=by
  unfold qg
  first | exact (h.drop _).take _ | exact (h.take _).drop _
theorem GL.lst {F:Hp} {k z D:Nat} {a:Addr} {xs:List V} (q:SqL K F a xs) (h:GL K F k z D xs):DS K F k z (D + 1) (.ref a):=by
  obtain ⟨ds,r,g,b,p⟩:=h
  refine ⟨.lst ds,⟨a,xs,rfl,q,r⟩,g,b,?_⟩
  show PyData.depth (.list (Dat.pys ds)) <= _
  simp only [PyData.depth]
  omega
theorem GL.tup {F:Hp} {k z D:Nat} {a:Addr} {xs:List V} (q:SqT K F a xs) (h:GL K F k z D xs):DS K F k z (D + 1) (.ref a):=by
  obtain ⟨ds,r,g,b,p⟩:=h
  refine ⟨.tup ds,⟨a,xs,rfl,q,r⟩,g,b,?_⟩
  show PyData.depth (.tuple (Dat.pys ds)) <= _
  simp only [PyData.depth]
  omega
theorem GL.all {F:Hp} {k z D:Nat} {xs:List V} (h:GL K F k z D xs):xs.length <= z /\ ∀ x ∈ xs,DS K F k z D x:=by
  obtain ⟨ds,r,g,b,p⟩:=h
  obtain ⟨l,al⟩:=vH r g b p
  exact ⟨l,fun x hx=>(al x hx).up (Same.refl _) (Nat.le_refl _) (by omega) (Nat.le_refl _)⟩
theorem GL.some {F:Hp} {k z D:Nat} {xs zs:List V} (h:GL K F k z D xs) (m:∀ y ∈ zs,y ∈ xs):GL K F k ((z + 1) * zs.length) D zs:=xo fun y hy=>h.all.2 y (m y hy)
end
def jR:Dat -> Bool
  | .int _=>true
  | _=>false
def yJ:Dat -> Bool
  | .bl _=>true
  | _=>false
def iD:Dat -> Int
  | .int i=>i
  | _=>0
def wZ (k:Nat):Dat -> Bool
  | .tup ds=>decide (ds.length = k)
  | _=>false
theorem Zx (d:Dat):qL d.tyN "int" = (jR d || yJ d):=by
  cases d with
  | non=>exact (by decide:qL "NoneType" "int" = false)
  | bl _=>exact (by decide:qL "bool" "int" = true)
  | int _=>exact (by decide:qL "int" "int" = true)
  | str _=>exact (by decide:qL "str" "int" = false)
  | lst _=>exact (by decide:qL "list" "int" = false)
  | tup _=>exact (by decide:qL "tuple" "int" = false)
theorem wY (d:Dat):qL d.tyN "bool" = yJ d:=by
  cases d with
  | non=>exact (by decide:qL "NoneType" "bool" = false)
  | bl _=>exact (by decide:qL "bool" "bool" = true)
  | int _=>exact (by decide:qL "int" "bool" = false)
  | str _=>exact (by decide:qL "str" "bool" = false)
  | lst _=>exact (by decide:qL "list" "bool" = false)
  | tup _=>exact (by decide:qL "tuple" "bool" = false)
def jf:Dat -> Bool
  | .tup _=>true
  | _=>false
theorem xj (d:Dat):qL d.tyN "tuple" = jf d:=by
  cases d with
  | non=>exact (by decide:qL "NoneType" "tuple" = false)
  | bl _=>exact (by decide:qL "bool" "tuple" = false)
  | int _=>exact (by decide:qL "int" "tuple" = false)
  | str _=>exact (by decide:qL "str" "tuple" = false)
  | lst _=>exact (by decide:qL "list" "tuple" = false)
  | tup _=>exact (by decide:qL "tuple" "tuple" = true)
theorem VM (d:Dat):(if (jR d || yJ d) = true then !yJ d else (jR d || yJ d)) = jR d:=by cases d <;> rfl
def zt (lo hi:Int):Dat -> Bool
  | .int i=>decide (lo <= i) && decide (i <= hi)
  | _=>false
def Q3 (m:Int):Dat -> Bool
  | .tup ds=>decide ((ds.length:Int) <= m)
  | _=>false
section
variable {P:Program} {w:World} {K:PySem.W.Frag} {mg:Str -> Option Value} {base:Heap}
inductive ZA (K:PySem.W.Frag) (vs:List V) (H:Hp) (Q:VK):Prop
  | mk (v:V) (d:Dat) (_:vs = [v]) (_:Rep K H d v) (_:Q (.bl (jR d)) H):ZA K vs H Q
def Q9 (K:PySem.W.Frag):Sp:=fun vs H Q _=>ZA K vs H Q
theorem Vc:zG ["thing"] ["thing"] (zj (zn 1)):=⟨rfl,rfl,rfl,by decide +kernel,rfl,by decide +kernel,by decide +kernel⟩
theorem VI {f:Addr} {fd:FuncData} (F:Fun K "is_number" "is_number" (zn 1) f fd) (B:Blt mg):FnOk P w K mg base CX0 1 f fd ["thing"] (Q9 K):=by
  have nd:=Vc.nd
  refine F.ok Vc (fun vs H Q E h=>?_) (fun cdv A outer s H vs Q E hr h=>?_)
  · obtain ⟨v,d,rfl,_⟩:=h
    rfl
  · obtain ⟨v,d,rfl,rd,k⟩:=h
    refine ⟨_,(zk (zu (qH (zi qi rfl B.isinstance boot_isinstance (za (pv 0) (za (zN (v:=.ty "int") rfl B.int jS rfl) zb))) (qS (Zi (zi qi rfl B.isinstance boot_isinstance (za (pv 0) (za (zN (v:=.ty "bool") rfl B.bool ju rfl) zb)))))))),?_⟩
    refine ⟨_,rfl,v,d.tyN, "int",rfl,rd.ty,(by decide),?_⟩
    rw [Zx]
    rw [<- VM d] at k
    refine ⟨_,rfl,zW (fun c=>?_) (fun c=>?_)⟩
    · rw [if_pos c] at k
      refine ⟨_,rfl,v,d.tyN, "bool",rfl,rd.ty,(by decide),?_⟩
      rw [wY]
      exact ⟨_,rfl,k⟩
    · rw [if_neg c,(Bool.not_eq_true _).mp c] at k
      exact k
inductive ya (K:PySem.W.Frag) (vs:List V) (H:Hp) (Q:VK):Prop
  | mk (v:V) (d:Dat) (lo hi:Int) (_:vs = [v,.int lo,.int hi]) (_:Rep K H d v) (_:Q (.bl (zt lo hi d)) H):ya K vs H Q
def xb (K:PySem.W.Frag):Sp:=fun vs H Q _=>ya K vs H Q
theorem V9:zG ["thing", "least", "most"] ["thing", "least", "most"] (zj (zn 2)):=⟨rfl,rfl,rfl,by decide +kernel,rfl,by decide +kernel,by decide +kernel⟩
theorem Wo {f:Addr} {fd:FuncData} (F:Fun K "is_number_within" "is_number_within" (zn 2) f fd) (B:Blt mg) (Dis_number:Dfn P w K mg base "is_number" 1 ["thing"] (Q9 K)):FnOk P w K mg base CX0 2 f fd ["thing", "least", "most"] (xb K):=by
  have nd:=V9.nd
  refine F.ok V9 (fun vs H Q E h=>?_) (fun cdv A outer s H vs Q E hr h=>?_)
  · obtain ⟨v,d,lo,hi,rfl,_⟩:=h
    rfl
  · obtain ⟨v,d,lo,hi,rfl,rd,k⟩:=h
    refine ⟨_,(zk (zu (qH (zf Dis_number (hr.mono (by first | decide | exact Nat.le_refl _ | omega)) rfl (za (pv 0) zb)) (qS (yw vY vY (pv 1) (pv 0) (pv 2)))))),?_⟩
    refine ⟨_,rfl,v,d,rfl,rd,_,rfl,zW (fun c1=>?_) (fun c1=>?_)⟩
    · obtain ⟨i,rfl⟩:∃ i,d = .int i:=by cases d <;> first | exact ⟨_,rfl⟩ | cases c1
      cases (show v = .int i from rd)
      refine ⟨_,rfl,_,rfl,_,_,rfl,rfl,_,rfl,zW (fun c2=>⟨_,rfl,_,_,rfl,rfl,?_⟩) (fun c2=>?_)⟩
      · rw [show zt lo hi (.int i) = decide (i <= hi) by
          show (decide (lo <= i) && decide (i <= hi)) = _
          rw [c2];rfl] at k
        exact k
      · rw [show zt lo hi (.int i) = false by
          show (decide (lo <= i) && decide (i <= hi)) = _
          rw [(Bool.not_eq_true _).mp c2];rfl] at k
        exact k
    · rw [show zt lo hi d = false by cases d <;> first | rfl | exact absurd rfl c1] at k
      exact k
theorem X9:zG ["_law_thing", "_law_least", "_law_most"] ["_law_thing", "_law_least", "_law_most"] (zj (zn 25)):=⟨rfl,rfl,rfl,by decide +kernel,rfl,by decide +kernel,by decide +kernel⟩
theorem VF {f:Addr} {fd:FuncData} (F:Fun K "_law_is_number" "_law_is_number" (zn 25) f fd) (B:Blt mg):FnOk P w K mg base CX0 1 f fd ["_law_thing", "_law_least", "_law_most"] (xb K):=by
  have nd:=X9.nd
  refine F.ok X9 (fun vs H Q E h=>?_) (fun cdv A outer s H vs Q E hr h=>?_)
  · obtain ⟨v,d,lo,hi,rfl,_⟩:=h
    rfl
  · obtain ⟨v,d,lo,hi,rfl,rd,k⟩:=h
    have no:jR d = false -> zt lo hi d = false:=fun z=>by cases d <;> first | rfl | cases z
    refine ⟨_,(zk (zu (qH (zi qi rfl B.isinstance boot_isinstance (za (pv 0) (za (zN (v:=.ty "int") rfl B.int jS rfl) zb))) (qH (Zi (zi qi rfl B.isinstance boot_isinstance (za (pv 0) (za (zN (v:=.ty "bool") rfl B.bool ju rfl) zb)))) (qS (yw vY vY (pv 1) (pv 0) (pv 2))))))),?_⟩
    refine ⟨_,rfl,v,d.tyN, "int",rfl,rd.ty,(by decide),?_⟩
    rw [Zx]
    refine ⟨_,rfl,zW (fun c=>?_) (fun c=>?_)⟩
    · refine ⟨_,rfl,v,d.tyN, "bool",rfl,rd.ty,(by decide),?_⟩
      rw [wY]
      refine ⟨_,rfl,_,rfl,zW (fun c1=>?_) (fun c1=>?_)⟩
      · obtain ⟨i,rfl⟩:∃ i,d = .int i:=by cases d <;> first | exact ⟨_,rfl⟩ | exact Bool.noConfusion (show false = true from c1) | exact Bool.noConfusion (show false = true from c)
        cases (show v = .int i from rd)
        refine ⟨_,rfl,_,rfl,_,_,rfl,rfl,_,rfl,zW (fun c2=>⟨_,rfl,_,_,rfl,rfl,?_⟩) (fun c2=>?_)⟩
        · rw [show zt lo hi (.int i) = decide (i <= hi) by
            show (decide (lo <= i) && decide (i <= hi)) = _
            rw [c2];rfl] at k
          exact k
        · rw [show zt lo hi (.int i) = false by
            show (decide (lo <= i) && decide (i <= hi)) = _
            rw [(Bool.not_eq_true _).mp c2];rfl] at k
          exact k
      · rw [no (by cases d <;> first | rfl | exact absurd rfl c1)] at k
        exact k
    · rw [no (by cases d <;> first | rfl | exact absurd rfl c)] at k
      exact k
inductive Zy (K:PySem.W.Frag) (vs:List V) (H:Hp) (Q:VK):Prop
  | mk (v:V) (d:Dat) (n:Nat) (_:vs = [v,.int (n:Int)]) (_:Rep K H d v) (_:Q (.bl (wZ n d)) H):Zy K vs H Q
def yd (K:PySem.W.Frag):Sp:=fun vs H Q _=>Zy K vs H Q
theorem Wb:zG ["thing", "many"] ["thing", "many"] (zj (zn 4)):=⟨rfl,rfl,rfl,by decide +kernel,rfl,by decide +kernel,by decide +kernel⟩
theorem Wq {f:Addr} {fd:FuncData} (F:Fun K "is_tuple_of" "is_tuple_of" (zn 4) f fd) (B:Blt mg):FnOk P w K mg base CX0 1 f fd ["thing", "many"] (yd K):=by
  have nd:=Wb.nd
  refine F.ok Wb (fun vs H Q E h=>?_) (fun cdv A outer s H vs Q E hr h=>?_)
  · obtain ⟨v,d,n,rfl,_⟩:=h
    rfl
  · obtain ⟨v,d,n,rfl,rd,k⟩:=h
    refine ⟨_,(zk (zu (qH (zi qi rfl B.isinstance boot_isinstance (za (pv 0) (za (zN (v:=.ty "tuple") rfl B.tuple zJ rfl) zb))) (qS (qc qe (zi zq rfl B.len boot_len (za (pv 0) zb)) (pv 1) (zx _)))))),?_⟩
    refine ⟨_,rfl,v,d.tyN, "tuple",rfl,rd.ty,(by decide),?_⟩
    rw [xj]
    refine ⟨_,rfl,zW (fun c=>?_) (fun c=>?_)⟩
    · cases d with
      | tup ds=>
        obtain ⟨a,xs,rfl,hq,rx⟩:=rd
        have lds:=rx.len
        refine ⟨_,rfl,a,xs,rfl,.inr hq,_,rfl,?_⟩
        rw [show wZ n (.tup ds) = decide (V.int (xs.length:Int) = V.int (n:Int)) by
          show decide (ds.length = n) = _
          rw [lds]
          refine decide_eq_decide.mpr ⟨fun h=>by rw [h],fun h=>?_⟩
          cases h
          rfl] at k
        exact ⟨rfl,k⟩
      | _=>cases c
    · rw [show wZ n d = false by cases d <;> first | rfl | exact absurd rfl c] at k
      exact k
inductive yc (K:PySem.W.Frag) (vs:List V) (H:Hp) (Q:VK):Prop
  | mk (v:V) (d:Dat) (m:Int) (_:vs = [v,.int m]) (_:Rep K H d v) (_:Q (.bl (Q3 m d)) H):yc K vs H Q
def Zb (K:PySem.W.Frag):Sp:=fun vs H Q _=>yc K vs H Q
theorem Wa:zG ["thing", "most"] ["thing", "most"] (zj (zn 5)):=⟨rfl,rfl,rfl,by decide +kernel,rfl,by decide +kernel,by decide +kernel⟩
theorem Wp {f:Addr} {fd:FuncData} (F:Fun K "is_tuple_upto" "is_tuple_upto" (zn 5) f fd) (B:Blt mg):FnOk P w K mg base CX0 1 f fd ["thing", "most"] (Zb K):=by
  have nd:=Wa.nd
  refine F.ok Wa (fun vs H Q E h=>?_) (fun cdv A outer s H vs Q E hr h=>?_)
  · obtain ⟨v,d,m,rfl,_⟩:=h
    rfl
  · obtain ⟨v,d,m,rfl,rd,k⟩:=h
    refine ⟨_,(zk (zu (qH (zi qi rfl B.isinstance boot_isinstance (za (pv 0) (za (zN (v:=.ty "tuple") rfl B.tuple zJ rfl) zb))) (qS (qc vY (zi zq rfl B.len boot_len (za (pv 0) zb)) (pv 1) (zx _)))))),?_⟩
    refine ⟨_,rfl,v,d.tyN, "tuple",rfl,rd.ty,(by decide),?_⟩
    rw [xj]
    refine ⟨_,rfl,zW (fun c=>?_) (fun c=>?_)⟩
    · cases d with
      | tup ds=>
        obtain ⟨a,xs,rfl,hq,rx⟩:=rd
        refine ⟨_,rfl,a,xs,rfl,.inr hq,_,rfl,_,_,rfl,rfl,?_⟩
        rw [show Q3 m (.tup ds) = decide ((xs.length:Int) <= m) by rw [rx.len];rfl] at k
        exact k
      | _=>cases c
    · rw [show Q3 m d = false by cases d <;> first | rfl | exact absurd rfl c] at k
      exact k
end
def qd (np nf:Int):Dat -> Bool
  | .tup [p,f]=>zt 0 (np - 1) p && zt 0 (nf - 1) f
  | _=>false
def WT:Dat -> Dat
  | .tup (p :: _)=>p
  | d=>d
def zF (d:Dat):Int:=iD (WT d)
def jB (us:List Int):Bool:=decide ((jb [] (us.map Sum.inl:List Key)).length = us.length)
def wI:Dat -> List Int
  | .tup ds=>ds.map zF
  | _=>[]
def jc (np nf hd:Int):Dat -> Bool
  | .tup ds=>decide ((ds.length:Int) <= hd) && (!decide (ds.length = 0) && (ds.all (qd np nf) && jB (ds.map zF)))
  | _=>false
def xH (np:Int) (us:List Int):Dat -> Bool
  | .tup ds=>decide (ds.length = us.length) && (ds.all (zt 0 (np - 1)) && (ds.map iD).isPerm us)
  | _=>false
def jk (np nf hd:Int):Dat -> Bool
  | .tup [p,l]=>jc np nf hd p && xH np (wI p) l
  | _=>false
theorem Xu {a b:List Int} (h:a.Perm b) (ha:a.Pairwise (· <= ·)) (hb:b.Pairwise (· <= ·)):a = b:=by
  induction a generalizing b with
  | nil=>exact (List.Perm.nil_eq h)
  | cons x a ih=>
    cases b with
    | nil=>exact absurd h.length_eq (by simp)
    | cons y b=>
      rw [List.pairwise_cons] at ha hb
      have xy:x = y:=by
        have h1:y ∈ x :: a:=h.mem_iff.mpr List.mem_cons_self
        have h2:x ∈ y :: b:=h.mem_iff.mp List.mem_cons_self
        rcases List.mem_cons.mp h1 with z | z
        · exact z.symm
        · rcases List.mem_cons.mp h2 with u | u
          · exact u
          · have:=ha.1 y z
            have:=hb.1 x u
            omega
      subst xy
      rw [ih (List.Perm.cons_inv h) ha.2 hb.2]
theorem ZJ {ms ns us vs:List Int} (h1:ms.Perm us) (s1:ms.Pairwise (· <= ·)) (h2:ns.Perm vs) (s2:ns.Pairwise (· <= ·)):decide (ms = ns) = us.isPerm vs:=by
  rw [Bool.eq_iff_iff,decide_eq_true_iff,List.isPerm_iff]
  exact ⟨fun e=>(h1.symm.trans (e ▸ .refl _)).trans h2,fun p=>Xu ((h1.trans p).trans h2.symm) s1 s2⟩
theorem at2 {x y z:V} {r:List V}:atI (x :: y :: z :: r) 2 = some z:=jH (j:=2) rfl
theorem at3 {x y z u:V} {r:List V}:atI (x :: y :: z :: u :: r) 3 = some u:=jH (j:=3) rfl
theorem xW {d:Dat} (h:wZ 2 d = true):∃ d0 d1,d = .tup [d0,d1]:=by
  match d,h with
  | .tup [a,b],_=>exact ⟨a,b,rfl⟩
  | .tup [],h=>exact Bool.noConfusion (show false = true from h)
  | .tup [_],h=>exact Bool.noConfusion (show false = true from h)
  | .tup (x :: y :: z :: l),h=>exact absurd (of_decide_eq_true (p:=(x :: y :: z :: l).length = 2) h) (by simp)
section
variable {P:Program} {w:World} {K:PySem.W.Frag} {mg:Str -> Option Value} {base:Heap}
theorem qK {H:Hp} {J:Job} {jp:Addr} (h:Rep K H (wM J) (.ref jp)):∃ (g fs ps as:Addr) (fv pv:List V),SqT K H jp [.ref g,.int J.hd,.ref fs,.ref ps,.ref as] /\ SqT K H fs fv /\ fv.length = J.fs.length /\ SqT K H ps pv /\ pv.length = J.ps.length:=by
  obtain ⟨a,xs,e,q,x0,r0,e0,h0,x1,r1,e1,h1,x2,r2,e2,h2,x3,r3,e3,h3,x4,r4,e4,h4,e5⟩:=h
  cases e
  subst e0 e1 e2 e3 e4
  have e5':r4 = []:=e5
  subst e5'
  have h1':x1 = .int J.hd:=h1
  subst h1'
  obtain ⟨g,gx,rfl,gq⟩:=h0
  obtain ⟨fs,fx,rfl,fq,fr⟩:=h2
  obtain ⟨ps,px,rfl,pq,pr⟩:=h3
  obtain ⟨as,ax,rfl,aq⟩:=h4
  have lf:=fr.len
  have lp:=pr.len
  rw [List.length_map] at lf lp
  exact ⟨g,fs,ps,as,fx,px,q,fq,lf,pq,lp⟩
inductive yi (K:PySem.W.Frag) (vs:List V) (H:Hp) (Q:VK):Prop
  | mk (jp:Addr) (J:Job) (v:V) (d:Dat) (_:vs = [.ref jp,v]) (_:Rep K H (wM J) (.ref jp)) (_:Rep K H d v) (_:Q (.bl (qd J.ps.length J.fs.length d)) H):yi K vs H Q
def Zc (K:PySem.W.Frag):Sp:=fun vs H Q _=>yi K vs H Q
theorem Ji:zG ["job", "thing", "part", "feeder"] ["job", "thing"] (zj (zn 7)):=⟨rfl,rfl,rfl,by decide +kernel,rfl,by decide +kernel,by decide +kernel⟩
theorem XF {f:Addr} {fd:FuncData} (F:Fun K "is_pick" "is_pick" (zn 7) f fd) (B:Blt mg) (Dis_tuple_of:Dfn P w K mg base "is_tuple_of" 1 ["thing", "many"] (yd K)) (Dis_number_within:Dfn P w K mg base "is_number_within" 2 ["thing", "least", "most"] (xb K)):FnOk P w K mg base CX0 3 f fd ["job", "thing"] (Zc K):=by
  have nd:=Ji.nd
  refine F.ok Ji (fun vs H Q E h=>?_) (fun cdv A outer s H vs Q E hr h=>?_)
  · obtain ⟨jp,J,v,d,rfl,_⟩:=h
    rfl
  · obtain ⟨jp,J,v,d,rfl,rj,rd,k⟩:=h
    obtain ⟨g,fs,ps,as,fv,px,qj,qf,lf,qp,lp⟩:=qK rj
    refine ⟨_,(zg (z9 (qC (z7 (zf Dis_tuple_of (hr.mono (by first | decide | exact Nat.le_refl _ | omega)) rfl (za (pv 1) (za zc zb)))))
      (zk (zu qD))
      zM)
      (zg (jP (pv 1) (jz rfl (zX (zU (i:=2) nd rfl (Or.inl rfl)) (zX (zU (i:=3) nd rfl (Or.inl rfl)) qX))))
      (zk (zu (qH (zf Dis_number_within (hr.mono (by first | decide | exact Nat.le_refl _ | omega)) rfl (za (pv 2) (za zc (za (zo qI (zi zq rfl B.len boot_len (za (zP qy (pv 0) zc (fun _ _=>rfl)) zb)) zc) zb)))) (qS (zf Dis_number_within (hr.mono (by first | decide | exact Nat.le_refl _ | omega)) rfl (za (pv 3) (za zc (za (zo qI (zi zq rfl B.len boot_len (za (zP qy (pv 0) zc (fun _ _=>rfl)) zb)) zc) zb)))))))))),?_⟩
    refine ⟨_,rfl,v,d,2,rfl,rd,_,rfl,zW (fun c=>?_) (fun c=>?_)⟩
    · rw [show qd J.ps.length J.fs.length d = false by
        match d,c with
        | .tup [],_=>rfl
        | .tup [_],_=>rfl
        | .tup (_ :: _ :: _ :: _),_=>rfl
        | .non,_=>rfl
        | .bl _,_=>rfl
        | .int _,_=>rfl
        | .str _,_=>rfl
        | .lst _,_=>rfl] at k
      exact k
    · obtain ⟨d0,d1,rfl⟩:∃ d0 d1,d = .tup [d0,d1]:=xW (by simpa using c)
      obtain ⟨a,xs,rfl,qa,x0,r0,e0,h0,x1,r1,e1,h1,e2⟩:=rd
      subst e0 e1
      cases (show r1 = [] from e2)
      refine ⟨_,rfl,a,_,rfl,qa,rfl,_,_,rfl,_,_,rfl,rfl,?_⟩
      refine ⟨_,rfl,_,rfl,jp,_,_,_,rfl,rfl,qj,at3,ps,_,rfl,.inr qp,_,_,rfl,rfl,x0,d0,_,_,rfl,h0,?_⟩
      rw [lp]
      have k':Q (.bl (zt 0 ((J.ps.length:Int) - 1) d0 && zt 0 ((J.fs.length:Int) - 1) d1)) H:=k
      refine ⟨_,rfl,zW (fun c1=>?_) (fun c1=>?_)⟩
      · refine ⟨_,rfl,_,rfl,jp,_,_,_,rfl,rfl,qj,at2,fs,_,rfl,.inr qf,_,_,rfl,rfl,x1,d1,_,_,rfl,h1,?_⟩
        rw [c1,Bool.true_and] at k'
        rw [lf]
        exact k'
      · rw [(Bool.not_eq_true _).mp c1,Bool.false_and] at k'
        exact k'
end
theorem at1 {x y:V} {r:List V}:atI (x :: y :: r) 1 = some y:=jH (j:=1) rfl
theorem qW {α:Type} {l:List α} {i:Nat} {x:α} (h:l[i]? = some x):l.take (i + 1) = l.take i ++ [x]:=by
  obtain ⟨h1,h2⟩:=List.getElem?_eq_some_iff.mp h
  rw [<- h2,List.take_append_getElem]
theorem Qs {κ:Type} [DecidableEq κ] (ks js:List κ) (k:κ):jb ks (js ++ [k]) = qV (jb ks js) k:=by unfold jb;rw [List.foldl_append];rfl
theorem vo {np nf:Int} {d:Dat} (h:qd np nf d = true):∃ (p:Int) (f:Dat),d = .tup [.int p,f]:=by
  match d,h with
  | .tup [.int p,f],_=>exact ⟨p,f,rfl⟩
  | .tup [.non,f],h=>exact Bool.noConfusion (show false = true from h)
  | .tup [.bl _,f],h=>exact Bool.noConfusion (show false = true from h)
  | .tup [.str _,f],h=>exact Bool.noConfusion (show false = true from h)
  | .tup [.lst _,f],h=>exact Bool.noConfusion (show false = true from h)
  | .tup [.tup _,f],h=>exact Bool.noConfusion (show false = true from h)
  | .tup [],h=>exact Bool.noConfusion (show false = true from h)
  | .tup [_],h=>exact Bool.noConfusion (show false = true from h)
  | .tup (_ :: _ :: _ :: _),h=>exact Bool.noConfusion (show false = true from h)
section
variable {P:Program} {w:World} {K:PySem.W.Frag} {mg:Str -> Option Value} {base:Heap}
inductive vV (K:PySem.W.Frag) (vs:List V) (H:Hp) (Q:VK):Prop
  | mk (jp:Addr) (J:Job) (v:V) (d:Dat) (_:vs = [.ref jp,v]) (_:Rep K H (wM J) (.ref jp)) (_:Rep K H d v) (_:J.hd <= 4) (_:∀ H',Same H H' -> Q (.bl (jc J.ps.length J.fs.length J.hd d)) H'):vV K vs H Q
def wC (K:PySem.W.Frag):Sp:=fun vs H Q _=>vV K vs H Q
theorem ZN:zG ["job", "thing"] ["job", "thing"] (zj (zn 8)):=⟨rfl,rfl,rfl,by decide +kernel,rfl,by decide +kernel,by decide +kernel⟩
theorem JG {f:Addr} {fd:FuncData} (F:Fun K "are_picks" "are_picks" (zn 8) f fd) (B:Blt mg) (Dis_tuple_upto:Dfn P w K mg base "is_tuple_upto" 1 ["thing", "most"] (Zb K)) (Dis_pick:Dfn P w K mg base "is_pick" 3 ["job", "thing"] (Zc K)):FnOk P w K mg base CX0 4 f fd ["job", "thing"] (wC K):=by
  have nd:=ZN.nd
  refine F.ok ZN (fun vs H Q E h=>?_) (fun cdv A outer s H vs Q E hr h=>?_)
  · obtain ⟨jp,J,v,d,rfl,_⟩:=h
    rfl
  · obtain ⟨jp,J,v,d,rfl,rj,rd,hd4,k⟩:=h
    obtain ⟨g,fs,ps,as,fv,px,qj,qf,lf,qp,lp⟩:=qK rj
    have hbig:1000000 < sizeLine:=by rw [sizeLine_eq];decide
    refine ⟨_,(zg (z9 (PW.pt (jr (qC (z7 (zf Dis_tuple_upto (hr.mono (by first | decide | exact Nat.le_refl _ | omega)) rfl (za (pv 1) (za (zP qy (pv 0) zc (fun _ _=>rfl)) zb))))) (jw (zE qe (zi zq rfl B.len boot_len (za (pv 1) zb)) zc (zx _)))))
      (zk (zu qD))
      zM)
      (zg (z9 (qC (z7 (zi (qZ rfl) rfl B.all boot_all (za (jq ["job"] [0] rfl rfl (by kernel_rfl) (jy (pv 1)) (fun C0 s0 H0 ex0=>qN) (fun C0 s0 H0 ex0=>(zf Dis_pick (hr.mono (by first | decide | exact Nat.le_refl _ | omega)) rfl (za (pv 1) (za (pv 0) zb))))) zb))))
      (zk (zu qD))
      zM)
      (zk (zu (qc qe (zi wg rfl B.len boot_len (za (VC [] [] rfl rfl (by kernel_rfl) (jy (pv 1)) (fun C0 s0 H0 ex0=>qN) (fun C0 s0 H0 ex0=>(pv 0))) zb)) (zi zq rfl B.len boot_len (za (pv 1) zb)) (zx _)))))),?_⟩
    refine ⟨_,rfl,_,rfl,jp,_,_,_,rfl,rfl,qj,at1,v,d,_,rfl,rd,_,rfl,zW (fun c=>?_) (fun c=>?_)⟩
    · have k':=k H (Same.refl _)
      rw [show jc J.ps.length J.fs.length J.hd d = false by
        cases d with
        | tup ds=>
          have c':decide ((ds.length:Int) <= J.hd) = false:=by simpa [Q3] using c
          show (decide ((ds.length:Int) <= J.hd) && _) = false
          rw [c'];rfl
        | _=>rfl] at k'
      exact k'
    · have c':Q3 J.hd d = true:=by simpa using c
      obtain ⟨ds,rfl⟩:∃ ds,d = .tup ds:=by cases d <;> first | exact ⟨_,rfl⟩ | cases c'
      obtain ⟨a,xs,rfl,qa,rx⟩:=rd
      have lx:=rx.len
      have dl:(ds.length:Int) <= J.hd:=of_decide_eq_true c'
      have kk:∀ H',Same H H' -> Q (.bl (!decide (ds.length = 0) && (ds.all (qd J.ps.length J.fs.length) && jB (ds.map zF)))) H':=fun H' s'=>by
        have:=k H' s'
        rw [show jc J.ps.length J.fs.length J.hd (.tup ds) = (decide ((ds.length:Int) <= J.hd) && (!decide (ds.length = 0) && (ds.all (qd J.ps.length J.fs.length) && jB (ds.map zF)))) from rfl,decide_eq_true dl,Bool.true_and] at this
        exact this
      clear k
      refine ⟨_,rfl,a,xs,rfl,.inr qa,rfl,_,rfl,zW (fun c1=>?_) (fun c1=>?_)⟩
      · have e0:ds.length = 0:=by rw [<- lx];exact Int.ofNat.inj (V.int.inj (of_decide_eq_true c1))
        have k':=kk H (Same.refl _)
        rw [decide_eq_true e0] at k'
        exact k'
      · have e0:¬ ds.length = 0:=fun z=>c1 (decide_eq_true (by rw [lx,z];rfl))
        have kk':∀ H',Same H H' -> Q (.bl (ds.all (qd J.ps.length J.fs.length) && jB (ds.map zF))) H':=fun H' s'=>by
          have:=kk H' s'
          rw [decide_eq_false e0] at this
          exact this
        clear kk c1 c c'
        refine ⟨_,rfl,a,rfl,⟨_,qa⟩,xg (K:=K) (a:=a) (xs:=xs) (fun i zs H1=>zs = ((ds.take i).map (qd J.ps.length J.fs.length)).map V.bl /\ Same H H1) ⟨rfl,Same.refl _⟩ (fun i zs H1 ⟨_,s1⟩=>s1.sqT qa) ?_ ?_⟩
        · rintro i x zs H1 hx ⟨rfl,s1⟩
          obtain ⟨d,ed,rd⟩:=(rx.same s1).get hx
          have il:=(List.getElem?_eq_some_iff.mp ed).1
          refine ⟨rfl,_,rfl,_,rfl,jp,J,x,d,rfl,rj.same s1,rd,?_,?_,s1⟩
          · rw [List.length_map,List.length_map,List.length_take];omega
          · rw [qW ed,List.map_append,List.map_append];rfl
        rintro zs H1 ⟨rfl,s1⟩
        rw [lx,List.take_length]
        refine ⟨by rw [List.length_map,List.length_map];omega,fun D hD=>⟨D,_,rfl,SqL.of zd,?_⟩⟩
        have s2:=s1.trans (ze (H:=H1) (o:=.lst ((ds.map (qd J.ps.length J.fs.length)).map V.bl)) hD)
        generalize upd H1 D (.lst ((ds.map (qd J.ps.length J.fs.length)).map V.bl)) = H2 at s2
        have ea:(ds.map (qd J.ps.length J.fs.length)).all id = ds.all (qd J.ps.length J.fs.length):=by rw [List.all_map];rfl
        rw [ea]
        refine ⟨_,rfl,zW (fun c=>?_) (fun c=>?_)⟩
        · have c':ds.all (qd J.ps.length J.fs.length) = false:=by simpa using c
          have k':=kk' H2 s2
          rw [c'] at k'
          exact k'
        have c':ds.all (qd J.ps.length J.fs.length) = true:=by simpa using c
        have all:=List.all_eq_true.mp c'
        refine ⟨_,rfl,a,rfl,⟨_,s2.sqT qa⟩,Vq (K:=K) (a:=a) (xs:=xs) (fun i ks H3=>ks = jb [] (((ds.take i).map zF).map Sum.inl:List Key) /\ Same H2 H3) ⟨rfl,Same.refl _⟩ (fun i ks H3 ⟨_,s3⟩=>(s2.trans s3).sqT qa) ?_ ?_⟩
        · rintro i x ks H3 hx ⟨rfl,s3⟩
          obtain ⟨d,ed,rd⟩:=(rx.same (s2.trans s3)).get hx
          have il:=(List.getElem?_eq_some_iff.mp ed).1
          obtain ⟨p,fd,rfl⟩:=vo (all d (List.mem_of_getElem? ed))
          obtain ⟨u,ys,rfl,qu,x0,r0,e0,h0,x1,r1,e1,h1,e2⟩:=rd
          subst e0 e1
          cases (show r1 = [] from e2)
          cases (show x0 = _ from h0)
          refine ⟨u,_,rfl,qu,rfl,_,_,rfl,_,_,rfl,rfl,rfl,?_⟩
          have:=wX (((ds.take i).map zF).map Sum.inl:List Key) []
          rw [List.length_map,List.length_map,List.length_take,List.length_nil] at this
          refine ⟨_,rfl,Sum.inl p,rfl,by omega,?_,s3⟩
          rw [qW ed,List.map_append,List.map_append]
          exact (Qs _ _ _).symm
        rintro ks H3 ⟨rfl,s3⟩
        rw [lx,List.take_length]
        intro D2 hD2
        refine ⟨D2,_,rfl,zd,?_⟩
        have s4:=(s2.trans s3).trans (ze (H:=H3) (o:=vm P w D2 (jb [] ((ds.map zF).map Sum.inl:List Key))) hD2)
        have k':=kk' _ s4
        rw [c',Bool.true_and] at k'
        refine ⟨_,rfl,a,xs,rfl,.inr (s4.sqT qa),rfl,?_⟩
        rw [show jB (ds.map zF) = decide (V.int (((jb [] ((ds.map zF).map Sum.inl:List Key)).length:Nat):Int) = V.int (xs.length:Int)) by
          unfold jB
          rw [lx,List.length_map]
          exact decide_eq_decide.mpr ⟨fun h=>by rw [h],fun h=>Int.ofNat.inj (V.int.inj h)⟩] at k'
        exact k'
end
theorem vZ {ds:List Dat} (h:ds.all jR = true):ds = (ds.map iD).map Dat.int:=by
  induction ds with
  | nil=>rfl
  | cons d ds ih=>
    rw [List.all_cons,Bool.and_eq_true] at h
    rw [List.map_cons,List.map_cons,<- ih h.2]
    cases d with
    | int i=>rfl
    | _=>cases h.1
theorem xx {K:PySem.W.Frag} {H:Hp}:∀ {us:List Int} {xs:List V},Reps K H (us.map Dat.int) xs -> xs = us.map V.int
  | [],_,h=>h
  | u :: us,_,⟨x,r,e,h1,h2⟩=>by
    rw [e,show x = V.int u from h1,xx h2]
    rfl
theorem xZ {lo hi:Int} {d:Dat} (h:zt lo hi d = true):jR d = true:=by
  cases d with
  | int i=>rfl
  | _=>cases h
section
variable {P:Program} {w:World} {K:PySem.W.Frag} {mg:Str -> Option Value} {base:Heap}
inductive yn (K:PySem.W.Frag) (vs:List V) (H:Hp) (Q:VK):Prop
  | mk (jp pk:Addr) (J:Job) (v:V) (d:Dat) (ds:List Dat) (_:vs = [.ref jp,v,.ref pk]) (_:Rep K H (wM J) (.ref jp)) (_:Rep K H d v) (_:Rep K H (.tup ds) (.ref pk)) (_:ds.all (qd J.ps.length J.fs.length) = true) (_:ds.length <= 4) (_:∀ H',Same H H' -> Q (.bl (xH J.ps.length (ds.map zF) d)) H'):yn K vs H Q
def Ze (K:PySem.W.Frag):Sp:=fun vs H Q _=>yn K vs H Q
theorem Jl:zG ["job", "thing", "picks"] ["job", "thing", "picks"] (zj (zn 9)):=⟨rfl,rfl,rfl,by decide +kernel,rfl,by decide +kernel,by decide +kernel⟩
theorem XI {f:Addr} {fd:FuncData} (F:Fun K "are_lays" "are_lays" (zn 9) f fd) (B:Blt mg) (Dis_tuple_of:Dfn P w K mg base "is_tuple_of" 1 ["thing", "many"] (yd K)) (Dis_number_within:Dfn P w K mg base "is_number_within" 2 ["thing", "least", "most"] (xb K)):FnOk P w K mg base CX0 4 f fd ["job", "thing", "picks"] (Ze K):=by
  have nd:=Jl.nd
  refine F.ok Jl (fun vs H Q E h=>?_) (fun cdv A outer s H vs Q E hr h=>?_)
  · obtain ⟨jp,pk,J,v,d,ds,rfl,_⟩:=h
    rfl
  · obtain ⟨jp,pk,J,v,d,ds,rfl,rj,rd,⟨pk',pxs,epk,qpk,rpx⟩,pall,d4,k⟩:=h
    cases epk
    have all:=List.all_eq_true.mp pall
    have pl:=rpx.len
    obtain ⟨g,fs,ps,as,fv,px,qj,qf,lf,qp,lp⟩:=qK rj
    have hbig:1000000 < sizeLine:=by rw [sizeLine_eq];decide
    have hu:=hr.units0
    refine ⟨_,(zg (z9 (qC (z7 (zf Dis_tuple_of (hr.mono (by first | decide | exact Nat.le_refl _ | omega)) rfl (za (pv 1) (za (zi zq rfl B.len boot_len (za (pv 2) zb)) zb)))))
      (zk (zu qD))
      zM)
      (zg (z9 (qC (z7 (zi (qZ rfl) rfl B.all boot_all (za (jq ["job"] [0] rfl rfl (by kernel_rfl) (jy (pv 1)) (fun C0 s0 H0 ex0=>qN) (fun C0 s0 H0 ex0=>(zf Dis_number_within (hr.mono (by first | decide | exact Nat.le_refl _ | omega)) rfl (za (pv 0) (za zc (za (zo qI (zi (zK (K:=K) rfl) rfl B.len boot_len (za (zP (xY (K:=K) rfl) (pv 1) zc (fun _ _=>rfl)) zb)) zc) zb)))))) zb))))
      (zk (zu qD))
      zM)
      (zk (zu (qc (ZT hu) (zi j7 rfl B.sorted jn (za (pv 1) zb)) (zi xv rfl B.sorted jn (za (Jv [] [] rfl rfl (by kernel_rfl) (jy (pv 2)) (fun C0 s0 H0 ex0=>qN) (fun C0 s0 H0 ex0=>(pv 0))) zb)) (zx _)))))),?_⟩
    refine ⟨_,rfl,_,rfl,pk,pxs,rfl,.inr qpk,v,d,pxs.length,rfl,rd,_,rfl,zW (fun c=>?_) (fun c=>?_)⟩
    · have k':=k H (Same.refl _)
      rw [show xH J.ps.length (ds.map zF) d = false by
        cases d with
        | tup es=>
          have c':¬ es.length = pxs.length:=by simpa [wZ] using c
          show (decide (es.length = (ds.map zF).length) && _) = false
          rw [List.length_map,<- pl,decide_eq_false c'];rfl
        | _=>rfl] at k'
      exact k'
    · have c':wZ pxs.length d = true:=by simpa using c
      obtain ⟨es,rfl⟩:∃ es,d = .tup es:=by cases d <;> first | exact ⟨_,rfl⟩ | cases c'
      obtain ⟨a,xs,rfl,qa,rx⟩:=rd
      have lx:=rx.len
      have el:es.length = pxs.length:=of_decide_eq_true c'
      have kk:∀ H',Same H H' -> Q (.bl (es.all (zt 0 ((J.ps.length:Int) - 1)) && (es.map iD).isPerm (ds.map zF))) H':=fun H' s'=>by
        have:=k H' s'
        rw [show xH J.ps.length (ds.map zF) (.tup es) = (decide (es.length = (ds.map zF).length) && (es.all (zt 0 ((J.ps.length:Int) - 1)) && (es.map iD).isPerm (ds.map zF))) from rfl,decide_eq_true (by rw [List.length_map,<- pl,el]),Bool.true_and] at this
        exact this
      clear k c c'
      refine ⟨_,rfl,a,rfl,⟨_,qa⟩,xg (K:=K) (a:=a) (xs:=xs) (fun i zs H1=>zs = ((es.take i).map (zt 0 ((J.ps.length:Int) - 1))).map V.bl /\ Same H H1) ⟨rfl,Same.refl _⟩ (fun i zs H1 ⟨_,s1⟩=>s1.sqT qa) ?_ ?_⟩
      · rintro i x zs H1 hx ⟨rfl,s1⟩
        obtain ⟨d,ed,rd⟩:=(rx.same s1).get hx
        have il:=(List.getElem?_eq_some_iff.mp ed).1
        refine ⟨rfl,_,rfl,_,rfl,jp,_,_,_,rfl,rfl,s1.sqT qj,at3,ps,_,rfl,.inr (s1.sqT qp),_,_,rfl,rfl,x,d,0,_,rfl,rd,?_,?_,s1⟩
        · rw [List.length_map,List.length_map,List.length_take];omega
        · rw [qW ed,List.map_append,List.map_append,lp];rfl
      rintro zs H1 ⟨rfl,s1⟩
      rw [lx,List.take_length]
      refine ⟨by rw [List.length_map,List.length_map];omega,fun D hD=>⟨D,_,rfl,SqL.of zd,?_⟩⟩
      have s2:=s1.trans (ze (H:=H1) (o:=.lst ((es.map (zt 0 ((J.ps.length:Int) - 1))).map V.bl)) hD)
      generalize upd H1 D (.lst ((es.map (zt 0 ((J.ps.length:Int) - 1))).map V.bl)) = H2 at s2
      have ea:(es.map (zt 0 ((J.ps.length:Int) - 1))).all id = es.all (zt 0 ((J.ps.length:Int) - 1)):=by rw [List.all_map];rfl
      rw [ea]
      refine ⟨_,rfl,zW (fun c=>?_) (fun c=>?_)⟩
      · have c':es.all (zt 0 ((J.ps.length:Int) - 1)) = false:=by simpa using c
        have k':=kk H2 s2
        rw [c'] at k'
        exact k'
      have c':es.all (zt 0 ((J.ps.length:Int) - 1)) = true:=by simpa using c
      have en:=vZ (ds:=es) (List.all_eq_true.mpr fun d hd=>xZ (List.all_eq_true.mp c' d hd))
      rw [en] at rx
      have ex:=xx rx
      rw [ex] at qa
      refine ⟨_,rfl,a,es.map iD,rfl,s2.sqT qa,by rw [List.length_map];omega,fun p1 ms h1 m1 m2=>?_⟩
      have s3:=s2.trans (ze (H:=H2) (o:=.lst (ms.map V.int)) h1)
      have P3:=zd (H:=H2) (a:=p1) (o:=.lst (ms.map V.int))
      generalize upd H2 p1 (.lst (ms.map V.int)) = H3 at s3 P3
      refine ⟨_,rfl,pk,rfl,⟨_,s3.sqT qpk⟩,xg (K:=K) (a:=pk) (xs:=pxs) (fun i zs H4=>zs = ((ds.take i).map zF).map V.int /\ Same H3 H4) ⟨rfl,Same.refl _⟩ (fun i zs H4 ⟨_,s4⟩=>(s3.trans s4).sqT qpk) ?_ ?_⟩
      · rintro i x zs H4 hx ⟨rfl,s4⟩
        obtain ⟨d,ed,rd⟩:=(rpx.same (s3.trans s4)).get hx
        have il:=(List.getElem?_eq_some_iff.mp ed).1
        obtain ⟨p,fd,rfl⟩:=vo (all d (List.mem_of_getElem? ed))
        obtain ⟨u,ys,rfl,qu,x0,r0,e0,h0,x1,r1,e1,h1,e2⟩:=rd
        subst e0 e1
        cases (show r1 = [] from e2)
        cases (show x0 = _ from h0)
        refine ⟨u,_,rfl,qu,rfl,_,_,rfl,_,_,rfl,rfl,rfl,?_⟩
        refine ⟨_,rfl,?_,?_,s4⟩
        · rw [List.length_map,List.length_map,List.length_take];omega
        · rw [qW ed,List.map_append,List.map_append];rfl
      rintro zs H4 ⟨rfl,s4⟩
      rw [pl,List.take_length]
      refine ⟨by rw [List.length_map,List.length_map];omega,fun D2 hD2=>?_⟩
      refine ⟨D2,ds.map zF,rfl,SqL.of zd,by rw [List.length_map];omega,fun p2 ns h2 n1 n2=>?_⟩
      have s5:=(s4.trans (ze (H:=H4) (o:=.lst ((ds.map zF).map V.int)) hD2)).trans (ze (o:=.lst (ns.map V.int)) h2)
      refine ⟨p1,p2,ms,ns,rfl,rfl,SqL.of (s5 _ _ P3),SqL.of zd,?_⟩
      have k':=kk _ (s3.trans s5)
      rw [c',Bool.true_and,<- ZJ m1 m2 n1 n2] at k'
      exact k'
end
theorem Jr {np nf hd:Int} {d:Dat} (h:jc np nf hd d = true):∃ ds,d = .tup ds /\ (ds.length:Int) <= hd /\ ds.all (qd np nf) = true:=by
  cases d with
  | tup ds=>
    have h':(decide ((ds.length:Int) <= hd) && (!decide (ds.length = 0) && (ds.all (qd np nf) && jB (ds.map zF)))) = true:=h
    rw [Bool.and_eq_true,Bool.and_eq_true,Bool.and_eq_true] at h'
    exact ⟨ds,rfl,of_decide_eq_true h'.1,h'.2.2.1⟩
  | _=>cases h
section
variable {P:Program} {w:World} {K:PySem.W.Frag} {mg:Str -> Option Value} {base:Heap}
inductive ye (K:PySem.W.Frag) (vs:List V) (H:Hp) (Q:VK):Prop
  | mk (jp:Addr) (J:Job) (v:V) (d:Dat) (_:vs = [.ref jp,v]) (_:Rep K H (wM J) (.ref jp)) (_:Rep K H d v) (_:J.hd <= 4) (_:∀ H',Same H H' -> Q (.bl (jk J.ps.length J.fs.length J.hd d)) H'):ye K vs H Q
def jN (K:PySem.W.Frag):Sp:=fun vs H Q _=>ye K vs H Q
theorem Je:zG ["job", "thing", "picks", "lays"] ["job", "thing"] (zj (zn 10)):=⟨rfl,rfl,rfl,by decide +kernel,rfl,by decide +kernel,by decide +kernel⟩
theorem XC {f:Addr} {fd:FuncData} (F:Fun K "is_trip" "is_trip" (zn 10) f fd) (B:Blt mg) (Dis_tuple_of:Dfn P w K mg base "is_tuple_of" 1 ["thing", "many"] (yd K)) (Dare_picks:Dfn P w K mg base "are_picks" 4 ["job", "thing"] (wC K)) (Dare_lays:Dfn P w K mg base "are_lays" 4 ["job", "thing", "picks"] (Ze K)):FnOk P w K mg base CX0 5 f fd ["job", "thing"] (jN K):=by
  have nd:=Je.nd
  refine F.ok Je (fun vs H Q E h=>?_) (fun cdv A outer s H vs Q E hr h=>?_)
  · obtain ⟨jp,J,v,d,rfl,_⟩:=h
    rfl
  · obtain ⟨jp,J,v,d,rfl,rj,rd,hd4,k⟩:=h
    refine ⟨_,(zg (z9 (qC (z7 (zf Dis_tuple_of (hr.mono (by first | decide | exact Nat.le_refl _ | omega)) rfl (za (pv 1) (za zc zb)))))
      (zk (zu qD))
      zM)
      (zg (jP (pv 1) (jz rfl (zX (zU (i:=2) nd rfl (Or.inl rfl)) (zX (zU (i:=3) nd rfl (Or.inl rfl)) qX))))
      (zk (zu (qH (zf Dare_picks (hr.mono (by first | decide | exact Nat.le_refl _ | omega)) rfl (za (pv 0) (za (pv 2) zb))) (qS (zf Dare_lays (hr.mono (by first | decide | exact Nat.le_refl _ | omega)) rfl (za (pv 0) (za (pv 3) (za (pv 2) zb)))))))))),?_⟩
    refine ⟨_,rfl,v,d,2,rfl,rd,_,rfl,zW (fun c=>?_) (fun c=>?_)⟩
    · have k':=k H (Same.refl _)
      rw [show jk J.ps.length J.fs.length J.hd d = false by
        match d,c with
        | .tup [],_=>rfl
        | .tup [_],_=>rfl
        | .tup (_ :: _ :: _ :: _),_=>rfl
        | .non,_=>rfl
        | .bl _,_=>rfl
        | .int _,_=>rfl
        | .str _,_=>rfl
        | .lst _,_=>rfl] at k'
      exact k'
    · obtain ⟨d0,d1,rfl⟩:∃ d0 d1,d = .tup [d0,d1]:=xW (by simpa using c)
      obtain ⟨a,xs,rfl,qa,x0,r0,e0,h0,x1,r1,e1,h1,e2⟩:=rd
      subst e0 e1
      cases (show r1 = [] from e2)
      refine ⟨_,rfl,a,_,rfl,qa,rfl,_,_,rfl,_,_,rfl,rfl,?_⟩
      refine ⟨_,rfl,_,rfl,jp,J,x0,d0,rfl,rj,h0,hd4,fun H1 s1=>?_⟩
      have kk:∀ H',Same H H' -> Q (.bl (jc J.ps.length J.fs.length J.hd d0 && xH J.ps.length (wI d0) d1)) H':=k
      refine ⟨_,rfl,zW (fun c1=>?_) (fun c1=>?_)⟩
      · obtain ⟨ds,rfl,dl,da⟩:=Jr c1
        have h0':=h0
        obtain ⟨pk,ys,rfl,_⟩:=h0'
        refine ⟨_,rfl,_,rfl,_,rfl,jp,pk,J,x1,d1,ds,rfl,rj.same s1,h1.same s1,h0.same s1,da,by omega,fun H2 s2=>?_⟩
        have k':=kk H2 (s1.trans s2)
        rw [c1,Bool.true_and] at k'
        exact k'
      · have k':=kk H1 s1
        rw [(Bool.not_eq_true _).mp c1,Bool.false_and] at k'
        exact k'
end
theorem xr {d:Dat} (h:jf d = true):∃ ds,d = .tup ds:=by cases d <;> first | exact ⟨_,rfl⟩ | cases h
theorem w9 {np nf hd:Int} {d:Dat} (h:wZ 2 d = false):jk np nf hd d = false:=by
  match d,h with
  | .tup [_,_],h=>exact Bool.noConfusion (show true = false from h)
  | .tup [],_=>rfl
  | .tup [_],_=>rfl
  | .tup (_ :: _ :: _ :: _),_=>rfl
  | .non,_=>rfl
  | .bl _,_=>rfl
  | .int _,_=>rfl
  | .str _,_=>rfl
  | .lst _,_=>rfl
theorem Q4 {np nf hd:Int} {d0 d1:Dat} (h:jf d0 = false \/ jf d1 = false):jk np nf hd (.tup [d0,d1]) = false:=by
  show (jc np nf hd d0 && xH np (wI d0) d1) = false
  rcases h with h | h
  · rw [show jc np nf hd d0 = false by
      cases d0 <;> first | rfl | cases h]
    rfl
  · rw [show xH np (wI d0) d1 = false by
      cases d1 <;> first | rfl | cases h]
    rw [Bool.and_false]
def Zl (np nf hd:Int) (ds es:List Dat):Bool:=ds.all (qd np nf) && (es.all (zt 0 (np - 1)) && (jB (ds.map zF) && (ds.map zF).isPerm (es.map iD)))
theorem Qw {np nf hd:Int} {ds es:List Dat} (h0:¬ ds.length = 0) (h1:(ds.length:Int) <= hd) (h2:es.length = ds.length):jk np nf hd (.tup [.tup ds,.tup es]) = Zl np nf hd ds es:=by
  show ((decide ((ds.length:Int) <= hd) && (!decide (ds.length = 0) && (ds.all (qd np nf) && jB (ds.map zF)))) && (decide (es.length = (ds.map zF).length) && (es.all (zt 0 (np - 1)) && (es.map iD).isPerm (ds.map zF)))) = Zl np nf hd ds es
  rw [decide_eq_true h1,decide_eq_false h0,List.length_map,decide_eq_true h2]
  unfold Zl
  rw [show (es.map iD).isPerm (ds.map zF) = (ds.map zF).isPerm (es.map iD) by
    rw [Bool.eq_iff_iff,List.isPerm_iff,List.isPerm_iff]
    exact ⟨List.Perm.symm,List.Perm.symm⟩]
  cases ds.all (qd np nf) <;> cases jB (ds.map zF) <;> cases es.all (zt 0 (np - 1)) <;> cases (ds.map zF).isPerm (es.map iD) <;> rfl
theorem Q5 {np nf hd:Int} {ds es:List Dat} (h:ds.length = 0 \/ ¬ (ds.length:Int) <= hd \/ ¬ es.length = ds.length):jk np nf hd (.tup [.tup ds,.tup es]) = false:=by
  show ((decide ((ds.length:Int) <= hd) && (!decide (ds.length = 0) && (ds.all (qd np nf) && jB (ds.map zF)))) && (decide (es.length = (ds.map zF).length) && (es.all (zt 0 (np - 1)) && (es.map iD).isPerm (ds.map zF)))) = false
  rcases h with h | h | h
  · rw [decide_eq_true h];simp
  · rw [decide_eq_false h];rfl
  · rw [List.length_map,decide_eq_false h];simp
section
variable {P:Program} {w:World} {K:PySem.W.Frag} {mg:Str -> Option Value} {base:Heap}
theorem ZP:zG ["_law_job_here", "_law_thing", "_law_picks", "_law_lays", "_law_pick", "_law_parts"] ["_law_job_here", "_law_thing"] (zj (zn 26)):=⟨rfl,rfl,rfl,by decide +kernel,rfl,by decide +kernel,by decide +kernel⟩
theorem JI {f:Addr} {fd:FuncData} (F:Fun K "_law_is_trip" "_law_is_trip" (zn 26) f fd) (B:Blt mg) (D_is_number:Dfn P w K mg base "_law_is_number" 1 ["_law_thing", "_law_least", "_law_most"] (xb K)):FnOk P w K mg base CX0 2 f fd ["_law_job_here", "_law_thing"] (jN K):=by
  have nd:=ZP.nd
  refine F.ok ZP (fun vs H Q E h=>?_) (fun cdv A outer s H vs Q E hr h=>?_)
  · obtain ⟨jp,J,v,d,rfl,_⟩:=h
    rfl
  · obtain ⟨jp,J,v,d,rfl,rj,rd,hd4,k⟩:=h
    obtain ⟨g,fs,ps,as,fv,px,qj,qf,lf,qp,lp⟩:=qK rj
    have hbig:1000000 < sizeLine:=by rw [sizeLine_eq];decide
    have hu:=hr.units0
    refine ⟨_,(zg (z9 (PW.pt (jr (qC (z7 (zi qi rfl B.isinstance boot_isinstance (za (pv 1) (za (zN (v:=.ty "tuple") rfl B.tuple zJ rfl) zb))))) (jr (zE yy (zi zq rfl B.len boot_len (za (pv 1) zb)) zc (zx _)) (jw (qC (z7 (zi (qZ rfl) rfl B.all boot_all (za (jq [] [] rfl rfl (by kernel_rfl) (jy (pv 1)) (fun C0 s0 H0 ex0=>qN) (fun C0 s0 H0 ex0=>(zi (qB (K:=K) rfl) rfl B.isinstance boot_isinstance (za (pv 0) (za (zN (v:=.ty "tuple") rfl B.tuple zJ rfl) zb))))) zb))))))))
      (zk (zu qD))
      zM)
      (zg (jP (pv 1) (jz rfl (zX (zU (i:=2) nd rfl (Or.inl rfl)) (zX (zU (i:=3) nd rfl (Or.inl rfl)) qX))))
      (zg (z9 (PW.pt (jr (zE Jy (zi zq rfl B.len boot_len (za (pv 2) zb)) zc (zx _)) (jr (zE JB (zi zq rfl B.len boot_len (za (pv 2) zb)) (zP qy (pv 0) zc (fun _ _=>rfl)) (zx _)) (jw (zE yy (zi zq rfl B.len boot_len (za (pv 3) zb)) (zi zq rfl B.len boot_len (za (pv 2) zb)) (zx _))))))
      (zk (zu qD))
      zM)
      (zg (qM PassesOwn.never rfl (jy (pv 2)) (zU (i:=4) nd rfl (Or.inl rfl))
      (zg (z9 (PW.pt (jr (qC (z7 (zi qi rfl B.isinstance boot_isinstance (za (pv 4) (za (zN (v:=.ty "tuple") rfl B.tuple zJ rfl) zb))))) (jr (zE yy (zi zq rfl B.len boot_len (za (pv 4) zb)) zc (zx _)) (jw (qC (z7 (zf D_is_number (hr.mono (by first | decide | exact Nat.le_refl _ | omega)) rfl (za (zP qy (pv 4) zc (fun _ _=>rfl)) (za zc (za (zo qI (zi zq rfl B.len boot_len (za (zP qy (pv 0) zc (fun _ _=>rfl)) zb)) zc) zb))))))))))
        (zk (zu qD))
        zM)
        (zk (z9 (qC (z7 (zf D_is_number (hr.mono (by first | decide | exact Nat.le_refl _ | omega)) rfl (za (zP qy (pv 4) zc (fun _ _=>rfl)) (za zc (za (zo qI (zi zq rfl B.len boot_len (za (zP qy (pv 0) zc (fun _ _=>rfl)) zb)) zc) zb))))))
        (zk (zu qD))
        zM))))
      (zg (z9 (qC (z7 (zi (qZ rfl) rfl B.all boot_all (za (jq ["_law_job_here"] [0] rfl rfl (by kernel_rfl) (jy (pv 3)) (fun C0 s0 H0 ex0=>qN) (fun C0 s0 H0 ex0=>(zf D_is_number (hr.mono (by first | decide | exact Nat.le_refl _ | omega)) rfl (za (pv 0) (za zc (za (zo qI (zi (zK (K:=K) rfl) rfl B.len boot_len (za (zP (xY (K:=K) rfl) (pv 1) zc (fun _ _=>rfl)) zb)) zc) zb)))))) zb))))
      (zk (zu qD))
      zM)
      (zg (Vx [] [] rfl rfl (by kernel_rfl) (jy (pv 2)) (fun C0 s0 H0 ex0=>qN) (fun C0 s0 H0 ex0=>(pv 0)) (zU (i:=5) nd rfl (Or.inl rfl)))
      (zk (zu (qH (qc qe (zi wg rfl B.len boot_len (za (zV (QR hr.hd) rfl B.set boot_set (za (pv 5) zb)) zb)) (zi zq rfl B.len boot_len (za (pv 5) zb)) (zx _)) (qS (qc (ZT hu) (zi xv rfl B.sorted jn (za (pv 5) zb)) (zi j7 rfl B.sorted jn (za (pv 3) zb)) (zx _)))))))))))),?_⟩
    refine ⟨_,rfl,v,d.tyN, "tuple",rfl,rd.ty,(by decide),?_⟩
    rw [xj]
    refine ⟨_,rfl,zW (fun c=>?_) (fun c=>?_)⟩
    · have k':=k H (Same.refl _)
      rw [w9 (by cases d <;> first | rfl | cases c)] at k'
      exact k'
    obtain ⟨xs0,rfl⟩:=xr (d:=d) (by simpa using c)
    obtain ⟨a,xs,rfl,qa,rx⟩:=rd
    have lx:=rx.len
    refine ⟨_,rfl,a,xs,rfl,.inr qa,rfl,_,rfl,zW (fun c1=>?_) (fun c1=>?_)⟩
    · have k':=k H (Same.refl _)
      have c1':¬ xs0.length = 2:=fun z=>by
        rw [lx,z] at c1
        exact absurd c1 (by decide)
      rw [w9 (show wZ 2 (.tup xs0) = false from decide_eq_false c1')] at k'
      exact k'
    obtain ⟨d0,d1,e01⟩:=xW (d:=.tup xs0) (decide_eq_true (by
      rw [<- lx]
      by_cases z:xs.length = 2
      · exact z
      · exact absurd (by simpa using fun y:(xs.length:Int) = 2=>z (by omega)) c1))
    cases e01
    obtain ⟨x0,r0,e0,h0,x1,r1,e1,h1,e2⟩:=rx
    subst e0 e1
    cases (show r1 = [] from e2)
    refine ⟨_,rfl,a,rfl,⟨_,qa⟩,xg (K:=K) (a:=a) (xs:=[x0,x1]) (fun i zs H1=>zs = (([d0,d1].take i).map jf).map V.bl /\ Same H H1) ⟨rfl,Same.refl _⟩ (fun i zs H1 ⟨_,s1⟩=>s1.sqT qa) ?_ ?_⟩
    · rintro i x zs H1 hx ⟨rfl,s1⟩
      have rx:Reps K H [d0,d1] [x0,x1]:=⟨_,_,rfl,h0,_,_,rfl,h1,rfl⟩
      obtain ⟨d,ed,rd⟩:=(rx.same s1).get hx
      refine ⟨rfl,_,rfl,x,d.tyN, "tuple",rfl,rd.ty,(by decide),?_,?_,s1⟩
      · rw [List.length_map,List.length_map,List.length_take];show min i 2 < _;omega
      · rw [qW ed,List.map_append,List.map_append,xj];rfl
    rintro zs H1 ⟨rfl,s1⟩
    refine ⟨by show 2 <= _;omega,fun D hD=>⟨D,[jf d0,jf d1],rfl,SqL.of zd,?_⟩⟩
    have s2:=s1.trans (ze (H:=H1) (o:=.lst ((([d0,d1].take [x0,x1].length).map jf).map V.bl)) hD)
    generalize upd H1 D (.lst ((([d0,d1].take [x0,x1].length).map jf).map V.bl)) = H2 at s2
    refine ⟨_,rfl,zW (fun c2=>?_) (fun c2=>?_)⟩
    · have k':=k H2 s2
      rw [Q4 (by
        cases e0:jf d0 with
        | false=>exact .inl rfl
        | true=>
          cases e1:jf d1 with
          | false=>exact .inr rfl
          | true=>rw [e0,e1] at c2;exact Bool.noConfusion (show false = true from c2))] at k'
      exact k'
    have c2':jf d0 = true /\ jf d1 = true:=by
      cases e0:jf d0 with
      | false=>exact absurd (by rw [e0];rfl) c2
      | true=>
        cases e1:jf d1 with
        | false=>exact absurd (by rw [e0,e1];rfl) c2
        | true=>exact ⟨rfl,rfl⟩
    obtain ⟨ds,rfl⟩:=xr c2'.1
    obtain ⟨es,rfl⟩:=xr c2'.2
    clear c2 c2' c c1 lx
    obtain ⟨a0,ys,rfl,q0,ry⟩:=h0
    obtain ⟨a1,us,rfl,q1,ru⟩:=h1
    have ly:=ry.len
    have lu:=ru.len
    refine ⟨_,rfl,a,_,rfl,s2.sqT qa,rfl,_,_,rfl,_,_,rfl,rfl,?_⟩
    have no3:(ds.length = 0 \/ ¬ (ds.length:Int) <= J.hd \/ ¬ es.length = ds.length) -> Q (.bl false) H2:=fun z=>by
      have k':=k H2 s2
      rw [Q5 z] at k'
      exact k'
    refine ⟨_,rfl,a0,ys,rfl,.inr (s2.sqT q0),_,_,rfl,rfl,_,rfl,zW (fun c=>no3 (.inl ?_)) (fun c=>⟨_,rfl,a0,ys,rfl,.inr (s2.sqT q0),_,rfl,jp,_,_,_,rfl,rfl,s2.sqT qj,at1,_,_,rfl,rfl,_,rfl,zW (fun c1=>no3 (.inr (.inl ?_))) (fun c1=>⟨_,rfl,a1,us,rfl,.inr (s2.sqT q1),_,rfl,a0,ys,rfl,.inr (s2.sqT q0),rfl,_,rfl,zW (fun c3=>no3 (.inr (.inr ?_))) (fun c3=>?_)⟩)⟩)⟩
    · have:=of_decide_eq_true c;omega
    · have:=of_decide_eq_true c1;omega
    · intro z
      rw [lu,ly,z] at c3
      simp at c3
    have n0:¬ ds.length = 0:=fun z=>c (decide_eq_true (by rw [ly,z];decide))
    have n1:(ds.length:Int) <= J.hd:=by
      have:¬ ((ys.length:Int) > J.hd):=fun z=>c1 (decide_eq_true z)
      omega
    have n2:es.length = ds.length:=by
      rw [<- lu,<- ly]
      by_cases z:us.length = ys.length
      · exact z
      · exact absurd (by simpa using fun y:(us.length:Int) = ys.length=>z (by omega)) c3
    have kk:∀ H',Same H H' -> Q (.bl (Zl J.ps.length J.fs.length J.hd ds es)) H':=fun H' s'=>by
      have k':=k H' s'
      rw [Qw n0 n1 n2] at k'
      exact k'
    clear k no3 c c1 c3
    have dl4:ds.length <= 4:=by omega
    refine ⟨_,rfl,a0,rfl,⟨_,s2.sqT q0⟩,XY (K:=K) (a:=a0) (xs:=ys) (fun i σ H'=>Ex1 fun (v4:Option V)=>An3 (σ = [some (.ref jp),some (.ref a),some (.ref a0),some (.ref a1),v4,none]) (Same H2 H') ((ds.take i).all (qd J.ps.length J.fs.length) = true)) ⟨_,rfl,Same.refl _,rfl⟩ (fun i σ H' _ ⟨_,_,s',_⟩=>(s2.trans s').sqT q0) ?_ ?_⟩
    · rintro i x σ H3 hx ⟨v4,rfl,s3,al⟩
      obtain ⟨d,ed,rd⟩:=(ry.same (s2.trans s3)).get hx
      have no:qd J.ps.length J.fs.length d = false -> Q (.bl false) H3:=fun z=>by
        have k':=kk H3 (s2.trans s3)
        rw [show Zl J.ps.length J.fs.length J.hd ds es = false by
          unfold Zl
          rw [show ds.all (qd J.ps.length J.fs.length) = false from List.all_eq_false.mpr ⟨d,List.mem_of_getElem? ed,by rw [z];exact Bool.false_ne_true⟩,Bool.false_and]] at k'
        exact k'
      have t3:=s2.trans s3
      refine ⟨_,rfl,x,d.tyN, "tuple",rfl,rd.ty,(by decide),?_⟩
      rw [xj]
      refine ⟨_,rfl,zW (fun c=>no ?_) (fun c=>?_)⟩
      · cases d <;> first | rfl | cases c
      obtain ⟨zs,rfl⟩:=xr (d:=d) (by simpa using c)
      obtain ⟨u,vs,rfl,qu,rv⟩:=rd
      have lv:=rv.len
      refine ⟨_,rfl,u,vs,rfl,.inr qu,rfl,_,rfl,zW (fun c1=>no ?_) (fun c1=>?_)⟩
      · have n2:¬ zs.length = 2:=fun z=>by
          rw [lv,z] at c1
          exact absurd c1 (by decide)
        match zs,n2 with
        | [],_=>rfl
        | [_],_=>rfl
        | [_,_],n2=>exact absurd rfl n2
        | _ :: _ :: _ :: _,_=>rfl
      obtain ⟨e0,e1,ez⟩:=xW (d:=.tup zs) (decide_eq_true (by
        rw [<- lv]
        by_cases z:vs.length = 2
        · exact z
        · exact absurd (by simpa using fun y:(vs.length:Int) = 2=>z (by omega)) c1))
      cases ez
      obtain ⟨w0,r0,f0,g0,w1,r1,f1,g1,f2⟩:=rv
      subst f0 f1
      cases (show r1 = [] from f2)
      refine ⟨_,rfl,u,_,_,_,rfl,rfl,qu,rfl,_,rfl,jp,_,_,_,rfl,rfl,t3.sqT qj,at3,ps,_,rfl,.inr (t3.sqT qp),_,_,rfl,rfl,w0,e0,0,_,rfl,g0,?_⟩
      rw [lp]
      refine ⟨_,rfl,zW (fun c2=>no ?_) (fun c2=>?_)⟩
      · have c2':zt 0 ((J.ps.length:Int) - 1) e0 = false:=by simpa using c2
        show (zt 0 ((J.ps.length:Int) - 1) e0 && _) = false
        rw [c2',Bool.false_and]
      have c2':zt 0 ((J.ps.length:Int) - 1) e0 = true:=by simpa using c2
      refine ⟨_,rfl,u,_,_,_,rfl,rfl,qu,rfl,_,rfl,jp,_,_,_,rfl,rfl,t3.sqT qj,at2,fs,_,rfl,.inr (t3.sqT qf),_,_,rfl,rfl,w1,e1,0,_,rfl,g1,?_⟩
      rw [lf]
      refine ⟨_,rfl,zW (fun c3=>no ?_) (fun c3=>?_)⟩
      · have c3':zt 0 ((J.fs.length:Int) - 1) e1 = false:=by simpa using c3
        show (_ && zt 0 ((J.fs.length:Int) - 1) e1) = false
        rw [c3',Bool.and_false]
      have c3':zt 0 ((J.fs.length:Int) - 1) e1 = true:=by simpa using c3
      refine ⟨_,rfl,s3,?_⟩
      rw [qW ed,List.all_append,al]
      show (true && (qd _ _ (.tup [e0,e1]) && true)) = true
      rw [show qd J.ps.length J.fs.length (.tup [e0,e1]) = (zt 0 ((J.ps.length:Int) - 1) e0 && zt 0 ((J.fs.length:Int) - 1) e1) from rfl,c2',c3']
      rfl
    rintro σ H3 ⟨v4,rfl,s3,al⟩
    rw [ly,List.take_length] at al
    have pall:=List.all_eq_true.mp al
    have t3:=s2.trans s3
    have kk':∀ H',Same H3 H' -> Q (.bl (es.all (zt 0 ((J.ps.length:Int) - 1)) && (jB (ds.map zF) && (ds.map zF).isPerm (es.map iD)))) H':=fun H' s'=>by
      have k':=kk H' (t3.trans s')
      unfold Zl at k'
      rw [al,Bool.true_and] at k'
      exact k'
    clear kk s2 s3
    refine ⟨_,rfl,a1,rfl,⟨_,t3.sqT q1⟩,xg (K:=K) (a:=a1) (xs:=us) (fun i zs H4=>zs = ((es.take i).map (zt 0 ((J.ps.length:Int) - 1))).map V.bl /\ Same H3 H4) ⟨rfl,Same.refl _⟩ (fun i zs H4 ⟨_,s4⟩=>(t3.trans s4).sqT q1) ?_ ?_⟩
    · rintro i x zs H4 hx ⟨rfl,s4⟩
      obtain ⟨d,ed,rd⟩:=(ru.same (t3.trans s4)).get hx
      have il:=(List.getElem?_eq_some_iff.mp ed).1
      refine ⟨rfl,_,rfl,_,rfl,jp,_,_,_,rfl,rfl,(t3.trans s4).sqT qj,at3,ps,_,rfl,.inr ((t3.trans s4).sqT qp),_,_,rfl,rfl,x,d,0,_,rfl,rd,?_,?_,s4⟩
      · rw [List.length_map,List.length_map,List.length_take];omega
      · rw [qW ed,List.map_append,List.map_append,lp];rfl
    rintro zs H4 ⟨rfl,s4⟩
    rw [lu,List.take_length]
    refine ⟨by rw [List.length_map,List.length_map];omega,fun D hD=>⟨D,_,rfl,SqL.of zd,?_⟩⟩
    have s5:=s4.trans (ze (H:=H4) (o:=.lst ((es.map (zt 0 ((J.ps.length:Int) - 1))).map V.bl)) hD)
    generalize upd H4 D (.lst ((es.map (zt 0 ((J.ps.length:Int) - 1))).map V.bl)) = H5 at s5
    have ea:(es.map (zt 0 ((J.ps.length:Int) - 1))).all id = es.all (zt 0 ((J.ps.length:Int) - 1)):=by rw [List.all_map];rfl
    rw [ea]
    refine ⟨_,rfl,zW (fun c=>?_) (fun c=>?_)⟩
    · have c':es.all (zt 0 ((J.ps.length:Int) - 1)) = false:=by simpa using c
      have k':=kk' H5 s5
      rw [c'] at k'
      exact k'
    have c':es.all (zt 0 ((J.ps.length:Int) - 1)) = true:=by simpa using c
    have en:=vZ (ds:=es) (List.all_eq_true.mpr fun d hd=>xZ (List.all_eq_true.mp c' d hd))
    rw [en] at ru
    have ex:=xx ru
    rw [ex] at q1
    have kk:∀ H',Same H5 H' -> Q (.bl (jB (ds.map zF) && (ds.map zF).isPerm (es.map iD))) H':=fun H' s'=>by
      have k':=kk' H' (s5.trans s')
      rw [c',Bool.true_and] at k'
      exact k'
    have t5:=t3.trans s5
    clear kk' c c' s4 s5 t3 ea en
    refine ⟨_,rfl,a0,rfl,⟨_,t5.sqT q0⟩,xg (K:=K) (a:=a0) (xs:=ys) (fun i zs H6=>zs = ((ds.take i).map zF).map V.int /\ Same H5 H6) ⟨rfl,Same.refl _⟩ (fun i zs H6 ⟨_,s6⟩=>(t5.trans s6).sqT q0) ?_ ?_⟩
    · rintro i x zs H6 hx ⟨rfl,s6⟩
      obtain ⟨d,ed,rd⟩:=(ry.same (t5.trans s6)).get hx
      have il:=(List.getElem?_eq_some_iff.mp ed).1
      obtain ⟨p,fd,rfl⟩:=vo (pall d (List.mem_of_getElem? ed))
      obtain ⟨u,vs,rfl,qu,x0,r0,e0,h0,x1,r1,e1,h1,e2⟩:=rd
      subst e0 e1
      cases (show r1 = [] from e2)
      cases (show x0 = _ from h0)
      refine ⟨u,_,rfl,qu,rfl,_,_,rfl,_,_,rfl,rfl,rfl,?_⟩
      refine ⟨_,rfl,?_,?_,s6⟩
      · rw [List.length_map,List.length_map,List.length_take];omega
      · rw [qW ed,List.map_append,List.map_append];rfl
    rintro zs H6 ⟨rfl,s6⟩
    rw [ly,List.take_length]
    refine ⟨by rw [List.length_map,List.length_map];omega,fun pa hpa=>?_⟩
    have s7:=s6.trans (ze (H:=H6) (o:=.lst ((ds.map zF).map V.int)) hpa)
    have P7:=zd (H:=H6) (a:=pa) (o:=.lst ((ds.map zF).map V.int))
    generalize upd H6 pa (.lst ((ds.map zF).map V.int)) = H7 at s7 P7
    have ks:(ds.map zF).map V.int = ((ds.map zF).map Sum.inl:List Key).map kV:=by rw [List.map_map (g:=kV)];rfl
    refine ⟨_,rfl,pa,(ds.map zF).map Sum.inl,rfl,by rw [P7,ks],by rw [List.length_map,List.length_map];omega,fun se hse=>?_⟩
    refine ⟨se,_,rfl,zd,?_⟩
    have s8:=ze (H:=H7) (o:=vm P w se (jb [] ((ds.map zF).map Sum.inl:List Key))) hse
    have P8:=s8 _ _ P7
    have s8':=s7.trans s8
    refine ⟨_,rfl,pa,_,rfl,.inl (SqL.of P8),rfl,?_⟩
    have en:jB (ds.map zF) = decide (V.int (((jb [] ((ds.map zF).map Sum.inl:List Key)).length:Nat):Int) = V.int (((ds.map zF).map V.int).length:Int)):=by
      unfold jB
      rw [List.length_map (f:=V.int)]
      exact decide_eq_decide.mpr ⟨fun h=>by rw [h],fun h=>Int.ofNat.inj (V.int.inj h)⟩
    rw [en] at kk
    clear en
    refine ⟨_,rfl,zW (fun c=>?_) (fun c=>?_)⟩
    · refine ⟨_,rfl,pa,ds.map zF,rfl,SqL.of P8,by rw [List.length_map];omega,fun p1 ms h1 m1 m2=>?_⟩
      have s9:Same (upd H7 se (vm P w se (jb [] ((ds.map zF).map Sum.inl:List Key)))) _:=ze (o:=.lst (ms.map V.int)) h1
      have P9:=zd (H:=upd H7 se (vm P w se (jb [] ((ds.map zF).map Sum.inl:List Key)))) (a:=p1) (o:=.lst (ms.map V.int))
      refine ⟨_,rfl,a1,es.map iD,rfl,(t5.trans (s8'.trans s9)).sqT q1,by rw [List.length_map];omega,fun p2 ns h2 n1 n2=>?_⟩
      have sA:Same (upd (upd H7 se (vm P w se (jb [] ((ds.map zF).map Sum.inl:List Key)))) p1 (.lst (ms.map V.int))) _:=ze (o:=.lst (ns.map V.int)) h2
      refine ⟨p1,p2,ms,ns,rfl,rfl,SqL.of (sA _ _ P9),SqL.of zd,?_⟩
      have k':=kk _ (s8'.trans (s9.trans sA))
      rw [c,Bool.true_and,<- ZJ m1 m2 n1 n2] at k'
      exact k'
    · have k':=kk _ s8'
      rw [(Bool.not_eq_true _).mp c] at k'
      exact k'
end
theorem jE (i j:Str):(i ++ j).length = i.length + j.length:=by
  show (i.cps ++ j.cps).size = _
  rw [Array.size_append]
  rfl
theorem XS {i j:Str} {c:Nat} (h:c ∈ (i ++ j).cps.toList):c ∈ i.cps.toList \/ c ∈ j.cps.toList:=by
  have h':c ∈ (i.cps ++ j.cps).toList:=h
  rw [Array.toList_append] at h'
  exact List.mem_append.mp h'
section
variable {P:Program} {w:World} {K:PySem.W.Frag} {mg:Str -> Option Value} {base:Heap}
theorem Xl {x:Str} {k D:Nat} {F:Hp} (h:decide (x.length <= 10) = true) (hc:(x.cps.toList.all fun c=>decide (c < 1000000)) = true):DS K F k 10 D (.str x):=DS.str (of_decide_eq_true h) fun c h'=>of_decide_eq_true (List.all_eq_true.mp hc c h')
inductive Zz (K:PySem.W.Frag) (vs:List V) (H:Hp) (Q:VK):Prop
  | mk (b:Addr) (n:Int) (ex:List Addr) (_:vs = [.ref b]) (_:BoxAt H b n) (_:n < 1099511627000) (_:Ex H b ex) (_:∀ v H',SameB b H H' -> BoxAt H' b (n + 1) -> DS K (WX ex H') 0 10 3 v -> Q v H'):Zz K vs H Q
def yj (K:PySem.W.Frag):Sp:=fun vs H Q _=>Zz K vs H Q
theorem X7:zG ["_law_box_here", "_law_some"] ["_law_box_here"] (zj (zn 27)):=⟨rfl,rfl,rfl,by decide +kernel,rfl,by decide +kernel,by decide +kernel⟩
theorem VD {f:Addr} {fd:FuncData} (F:Fun K "_law_odd" "_law_odd" (zn 27) f fd) (B:Blt mg) (D_take:Dfn P w K mg base "_law_take" 1 ["_law_box_here", "_law_size"] qz):FnOk P w K mg base CX0 2 f fd ["_law_box_here"] (yj K):=by
  have nd:=X7.nd
  refine F.ok X7 (fun vs H Q E h=>?_) (fun cdv A outer s H vs Q E hr h=>?_)
  · obtain ⟨b,n,ex,rfl,_⟩:=h
    rfl
  · obtain ⟨b,n,ex,rfl,B0,hn,E0,k⟩:=h
    refine ⟨_,(zg (zy (i:=1) nd rfl (Or.inl rfl) (zZ (WM vp qD qD zc zc (Ju yW zc) zc (zo Jx zc zc) jA jA jA jA (zw zb) (zZ zb) (zw (za zc zb)) (zZ (za zc zb)) (zw (za zc (za zc zb))) (zw (za (zw zb) zb)))))
      (zk (zu (zP j3 (pv 1) (zf D_take (hr.mono (by first | decide | exact Nat.le_refl _ | omega)) rfl (za (pv 0) (za zc zb))) (fun _ _=>rfl))))),?_⟩
    refine ⟨_,rfl,_,_,rfl,rfl,⟨by decide,by decide,by decide⟩,le0,fun p1 h1=>⟨le0,fun p2 h2=>⟨le1,fun p3 h3=>⟨le1,fun p4 h4=>⟨le2,fun p5 h5=>⟨le0,fun p6 h6=>⟨le1,fun p7 h7=>⟨leN (by show 18 <= 1000;decide),fun l hl=>?_⟩⟩⟩⟩⟩⟩⟩⟩
    have s1:=ze (o:=.tup []) h1
    have s2:=ze (o:=.lst []) h2
    have s3:=ze (o:=.tup [.int 0]) h3
    have s4:=ze (o:=.lst [.int 0]) h4
    have s5:=ze (o:=.tup [.int 0,.int 0]) h5
    have s6:=ze (o:=.tup []) h6
    have s7:=ze (o:=.tup [.ref p6]) h7
    have E1:=E0.same s1
    have E2:=E1.same s2
    have E3:=E2.same s3
    have E4:=E3.same s4
    have E5:=E4.same s5
    have E6:=E5.same s6
    have E7:=E6.same s7
    have sl:=ze (o:=.lst [.non,.bl true,.bl false,.int 0,.int 1,.int (-1),.int 1001,.int (10 ^ (9:Int).toNat),.str "",.str "a",.str "abcdefghi",.str "A",.ref p1,.ref p2,.ref p3,.ref p4,.ref p5,.ref p7]) hl
    have f1:=(s2.trans (s3.trans (s4.trans (s5.trans (s6.trans (s7.trans sl)))))) p1 _ zd
    have f2:=(s3.trans (s4.trans (s5.trans (s6.trans (s7.trans sl))))) p2 _ zd
    have f3:=(s4.trans (s5.trans (s6.trans (s7.trans sl)))) p3 _ zd
    have f4:=(s5.trans (s6.trans (s7.trans sl))) p4 _ zd
    have f5:=(s6.trans (s7.trans sl)) p5 _ zd
    have f6:=(s7.trans sl) p6 _ zd
    have f7:=sl p7 _ zd
    have st:=s1.trans (s2.trans (s3.trans (s4.trans (s5.trans (s6.trans (s7.trans sl))))))
    have n1:=E0.out h1
    have n2:=E1.out h2
    have n3:=E2.out h3
    have n4:=E3.out h4
    have n5:=E4.out h5
    have n6:=E5.out h6
    have n7:=E6.out h7
    have E8:=E7.same sl
    have nl:=E7.out hl
    have B8:=B0.same st
    have fl:=zd (H:=upd (upd (upd (upd (upd (upd (upd H p1 (.tup [])) p2 (.lst [])) p3 (.tup [.int 0])) p4 (.lst [.int 0])) p5 (.tup [.int 0,.int 0])) p6 (.tup [])) p7 (.tup [.ref p6])) (a:=l) (o:=.lst [.non,.bl true,.bl false,.int 0,.int 1,.int (-1),.int 1001,.int (10 ^ (9:Int).toNat),.str "",.str "a",.str "abcdefghi",.str "A",.ref p1,.ref p2,.ref p3,.ref p4,.ref p5,.ref p7])
    clear s1 s2 s3 s4 s5 s6 s7 E1 E2 E3 E4 E5 E6 E7 sl h1 h2 h3 h4 h5 h6 h7 hl B0
    refine ⟨_,rfl,_,rfl,b,18,n,rfl,B8,by omega,by decide,by decide,fun r H1 r0 r1 B1 S1=>?_⟩
    have up:∀ p o,p ∉ ex -> _ = some o -> WX ex H1 p = some o:=fun p o hp e=>WX.at hp (S1 p o e (fun z=>hp (by rw [z];exact E0.mem)))
    have g1:=up p1 _ n1 f1
    have g2:=up p2 _ n2 f2
    have g3:=up p3 _ n3 f3
    have g4:=up p4 _ n4 f4
    have g5:=up p5 _ n5 f5
    have g6:=up p6 _ n6 f6
    have g7:=up p7 _ n7 f7
    have gl:=S1 l _ fl (fun z=>nl (by rw [z];exact E0.mem))
    have all:∀ x ∈ [V.non,.bl true,.bl false,.int 0,.int 1,.int (-1),.int 1001,.int (10 ^ (9:Int).toNat),.str "",.str "a",.str "abcdefghi",.str "A",.ref p1,.ref p2,.ref p3,.ref p4,.ref p5,.ref p7],DS K (WX ex H1) 0 10 3 x:=by
      have i0:∀ D,DS K (WX ex H1) 0 2 D (.int 0):=fun D=>DS.int (by decide)
      have t6:DS K (WX ex H1) 0 2 1 (.ref p6):=DS.tup (z:=0) (D:=0) (SqT.of g6) fm0 (Nat.zero_le _)
      refine fm DS.non (fm (DS.bl _) (fm (DS.bl _) (fm (DS.int (by decide)) (fm (DS.int (by decide)) (fm (DS.int (by decide)) (fm (DS.int (by decide)) (fm (DS.int (by decide)) (fm (Xl (by decide) (by decide)) (fm (Xl (by decide) (by decide)) (fm (Xl (by decide) (by decide)) (fm (Xl (by decide) (by decide)) ?_)))))))))))
      refine fm ((DS.tup (k:=0) (z:=0) (D:=0) (z':=0) (SqT.of g1) fm0 (Nat.zero_le _)).up (Same.refl _) (by decide) (by decide) (by decide)) (fm ((DS.lst (k:=0) (z:=0) (D:=0) (z':=0) (SqL.of g2) fm0 (Nat.zero_le _)).up (Same.refl _) (by decide) (by decide) (by decide)) (fm (DS.tup (z:=2) (D:=2) (SqT.of g3) (fm (i0 2) fm0) (by decide)) (fm (DS.lst (z:=2) (D:=2) (SqL.of g4) (fm (i0 2) fm0) (by decide)) (fm (DS.tup (z:=2) (D:=2) (SqT.of g5) (fm (i0 2) (fm (i0 2) fm0)) (by decide)) (fm (DS.tup (z:=2) (D:=2) (SqT.of g7) (fm (t6.up (Same.refl _) (by decide) (by decide) (by decide)) fm0) (by show 3 * 1 <= 10;decide)) fm0)))))
    obtain ⟨v,ev,dv⟩:=Jt (α:=fun x=>DS K (WX ex H1) 0 10 3 x) gl r0 r1 all
    exact ⟨l,_,_,v,rfl,rfl,SqL.of gl,ev,k v H1 ((SameB.of st).trans S1) B1 dv⟩
end
def okC (x:Str):Prop:=∀ c ∈ x.cps.toList,c < 1000000
theorem okC.app {x y:Str} (h:okC x) (g:okC y):okC (x ++ y):=fun c hc=>(XS hc).elim (h c) (g c)
theorem okC.sub {x y:Str} (h:okC x) (s:∀ c ∈ y.cps.toList,c ∈ x.cps.toList):okC y:=fun c hc=>h c (s c hc)
def Xo:Str:= "abcdefghijklmnopqrstuvwxyzA 0_\n"
theorem Vp:(Xo.cps.toList.all fun c=>decide (c < 1000000)) = true:=by decide
theorem Xn:Xo.cps.toList.length = 31:=by decide
section
variable {P:Program} {w:World} {K:PySem.W.Frag} {mg:Str -> Option Value} {base:Heap}
inductive yb (vs:List V) (H:Hp) (Q:VK):Prop
  | mk (b:Addr) (x:Str) (n:Int) (N:Nat) (_:vs = [.ref b,.str x]) (_:BoxAt H b n) (_:n < 1099511627000) (_:x.length <= N) (_:N <= 3000) (_:okC x) (_:∀ (y:Str) H',SameB b H H' -> BoxAt H' b (n + 4) -> y.length <= 3 * N + 20 -> okC y -> Q (.str y) H'):yb  vs H Q
def Za:Sp:=fun vs H Q _=>yb  vs H Q
theorem Jd:zG ["_law_box_here", "_law_word", "_law_at", "_law_way", "_law_sign", "_law_some"] ["_law_box_here", "_law_word"] (zj (zn 28)):=⟨rfl,rfl,rfl,by decide +kernel,rfl,by decide +kernel,by decide +kernel⟩
theorem XB {f:Addr} {fd:FuncData} (F:Fun K "_law_bent_word" "_law_bent_word" (zn 28) f fd) (B:Blt mg) (D_take:Dfn P w K mg base "_law_take" 1 ["_law_box_here", "_law_size"] qz):FnOk P w K mg base CX0 2 f fd ["_law_box_here", "_law_word"] Za:=by
  have nd:=Jd.nd
  refine F.ok Jd (fun vs H Q E h=>?_) (fun cdv A outer s H vs Q E hr h=>?_)
  · obtain ⟨b,x,n,N,rfl,_⟩:=h
    rfl
  · obtain ⟨b,x,n,N,rfl,B0,hn,hx,hN,ox,k⟩:=h
    have hbig:100000 < sizeLine:=by rw [sizeLine_eq];decide
    have hz:x.length <= sizeLine:=by omega
    refine ⟨_,(zg (vn (i:=2) (j:=3) rfl nd rfl rfl (by decide) rfl rfl (za (zf D_take (hr.mono (by first | decide | exact Nat.le_refl _ | omega)) rfl (za (pv 0) (za (zo zH (zi wQ rfl B.len boot_len (za (pv 1) zb)) zc) zb))) (za (zf D_take (hr.mono (by first | decide | exact Nat.le_refl _ | omega)) rfl (za (pv 0) (za zc zb))) zb)) (by rfl))
      (zg (zy (i:=4) nd rfl (Or.inl rfl) (zP Zm jA (zf D_take (hr.mono (by first | decide | exact Nat.le_refl _ | omega)) rfl (za (pv 0) (za zc zb))) (fun _ _=>rfl)))
      (zg (zy (i:=5) nd rfl (Or.inl rfl) (zZ (za (zo qP (zo qP (zC jX (pv 1) zT (zD (pv 2))) (pv 4)) (zC jX (pv 1) (zD (pv 2)) zT)) (za (zo qP (zo qP (zC jX (pv 1) zT (zD (pv 2))) (pv 4)) (zC jX (pv 1) (zD (zo zH (pv 2) zc)) zT)) (za (zo qP (zC jX (pv 1) zT (zD (pv 2))) (zC jX (pv 1) (zD (zo zH (pv 2) zc)) zT)) zb)))))
      (zk (zu (zP j3 (zo je (pv 5) (zZ (za (zo yz (pv 1) zc) (za jA zb)))) (pv 3) (fun _ _=>rfl))))))),?_⟩
    refine ⟨_,rfl,_,rfl,x,rfl,hz,_,_,rfl,rfl,b,_,n,rfl,B0,by omega,by omega,by omega,fun q H1 q0 q1 B1 S1=>⟨_,rfl,b,5,n + 1,rfl,B1,by omega,by decide,by decide,fun way H2 w0 w1 B2 S2=>⟨_,_,rfl,?_⟩⟩⟩
    have S2':=S1.trans S2
    refine ⟨_,rfl,b,31,n + 1 + 1,rfl,B2,by omega,by decide,by decide,fun r4 H4 c0 c1 B5 S5=>?_⟩
    obtain ⟨c,hc,hm⟩:=xh (xs:=Xo.cps.toList) c0 (by rw [Xn];exact c1)
    refine ⟨Xo,_,c,rfl,rfl,by rw [sizeLine_eq];decide,hc,?_⟩
    have oc:okC (⟨#[c]⟩:Str):=fun u hu=>by
      have:u = c:=by simpa using hu
      rw [this]
      exact of_decide_eq_true (List.all_eq_true.mp Vp c (List.mem_of_getElem? hm))
    have S5':=S2'.trans S5
    clear S2' S5 S1 S2 B1 B2
    have lc:(⟨#[c]⟩:Str).length = 1:=rfl
    refine ⟨_,rfl,_,rfl,_,rfl,x,rfl,hz,fun y1 e1 o1=>⟨_,rfl,_,_,rfl,rfl,by omega,_,rfl,_,rfl,_,rfl,x,rfl,hz,fun y2 e2 o2=>⟨_,_,rfl,rfl,by rw [jE];omega,?_⟩⟩⟩
    refine ⟨_,rfl,_,rfl,_,rfl,x,rfl,hz,fun y3 e3 o3=>⟨_,rfl,_,_,rfl,rfl,by omega,_,rfl,_,rfl,_,_,rfl,rfl,_,rfl,x,rfl,hz,fun y4 e4 o4=>⟨_,_,rfl,rfl,by rw [jE];omega,?_⟩⟩⟩
    refine ⟨_,rfl,_,rfl,_,rfl,x,rfl,hz,fun y5 e5 o5=>⟨_,rfl,_,rfl,_,_,rfl,rfl,_,rfl,x,rfl,hz,fun y6 e6 o6=>⟨_,_,rfl,rfl,by omega,le3,fun l4 h4=>?_⟩⟩⟩
    refine ⟨_,rfl,_,rfl,x,3,rfl,rfl,by omega,by decide,by decide,fun y7 e7 o7=>⟨le2,fun l5 h5=>⟨l4,l5,_,_,rfl,rfl,(ze h5) _ _ zd,zd,(by show 3 + 2 <= sizeLine;omega),fun l6 h6=>?_⟩⟩⟩
    have e7':y7.length <= 3 * x.length:=e7
    have L6:=zd (H:=upd (upd H4 l4 (.lst [.str (y1 ++ (⟨#[c]⟩:Str) ++ y2),.str (y3 ++ (⟨#[c]⟩:Str) ++ y4),.str (y5 ++ y6)])) l5 (.lst [.str y7,.str ""])) (a:=l6) (o:=.lst ([.str (y1 ++ (⟨#[c]⟩:Str) ++ y2),.str (y3 ++ (⟨#[c]⟩:Str) ++ y4),.str (y5 ++ y6)] ++ [.str y7,.str ""]))
    have p1:=ox.sub o1
    obtain ⟨v,ev,u,rfl,u1,u2⟩:=Jt (α:=fun v=>∃ u:Str,v = .str u /\ u.length <= 3 * N + 20 /\ okC u) L6 w0 w1 (fm ⟨_,rfl,by rw [jE,jE];omega,((ox.sub o1).app oc).app (ox.sub o2)⟩ (fm ⟨_,rfl,by rw [jE,jE];omega,((ox.sub o3).app oc).app (ox.sub o4)⟩ (fm ⟨_,rfl,by rw [jE];omega,(ox.sub o5).app (ox.sub o6)⟩ (fm ⟨_,rfl,by omega,ox.sub o7⟩ (fm ⟨_,rfl,Nat.zero_le _,fun c hc=>nomatch hc⟩ fm0)))))
    refine ⟨_,rfl,l6,_,_,_,rfl,rfl,SqL.of zd,ev,k u _ (((S5'.new h4).new h5).new h6) ((((B5.new h4).new h5).new h6).mono (by omega)) u1 u2⟩
inductive yk (K:PySem.W.Frag) (vs:List V) (H:Hp) (Q:VK):Prop
  | mk (b:Addr) (i:Int) (n:Int) (kk:Nat) (ex:List Addr) (_:vs = [.ref b,.int i]) (_:BoxAt H b n) (_:n < 1099511627000) (_:i.natAbs <= 10000000000 + kk) (_:kk <= 1000) (_:Ex H b ex) (_:∀ v H',SameB b H H' -> BoxAt H' b (n + 1) -> DS K (WX ex H') (kk + 1) 20 2 v -> Q v H'):yk K vs H Q
def Zd (K:PySem.W.Frag):Sp:=fun vs H Q _=>yk K vs H Q
theorem Jj:zG ["_law_box_here", "_law_number", "_law_odd_here"] ["_law_box_here", "_law_number"] (zj (zn 29)):=⟨rfl,rfl,rfl,by decide +kernel,rfl,by decide +kernel,by decide +kernel⟩
theorem XG {f:Addr} {fd:FuncData} (F:Fun K "_law_bent_number" "_law_bent_number" (zn 29) f fd) (B:Blt mg) (D_take:Dfn P w K mg base "_law_take" 1 ["_law_box_here", "_law_size"] qz):FnOk P w K mg base CX0 2 f fd ["_law_box_here", "_law_number"] (Zd K):=by
  have nd:=Jj.nd
  refine F.ok Jj (fun vs H Q E h=>?_) (fun cdv A outer s H vs Q E hr h=>?_)
  · obtain ⟨b,i,n,kk,ex,rfl,_⟩:=h
    rfl
  · obtain ⟨b,i,n,kk,ex,rfl,B0,hn,hi,hN,E0,k⟩:=h
    refine ⟨_,(zg (zy (i:=2) nd rfl (Or.inl rfl) (zZ (WN (zo zH (pv 1) zc) (zo qI (pv 1) zc) (zo qI (Ju yW zc) (pv 1)) (qc qe (pv 1) zc (zx _)) (zV xu rfl B.str jh (za (pv 1) zb)) (zZ (za (pv 1) zb)) (zw (za (pv 1) zb)) vp zc zc zc)))
      (zk (zu (zP j3 (zo je (pv 2) (zZ (pa5 zc zc zc zc zc))) (zf D_take (hr.mono (by first | decide | exact Nat.le_refl _ | omega)) rfl (za (pv 0) (za zc zb))) (fun _ _=>rfl))))),?_⟩
    refine ⟨_,rfl,_,_,rfl,rfl,_,rfl,_,_,rfl,rfl,_,rfl,_,rfl,_,_,rfl,rfl,_,rfl,rfl,_,rfl,i,rfl,wK (by omega),_,rfl,le1,fun p1 h1=>⟨_,rfl,le1,fun p2 h2=>⟨leN (by show 11 <= 1000;decide),fun l1 g1=>?_⟩⟩⟩
    refine ⟨_,rfl,leN (by show 5 <= 1000;decide),fun l2 g2=>⟨l1,l2,_,_,rfl,rfl,(ze g2) _ _ zd,zd,(by show 11 + 5 <= sizeLine;rw [sizeLine_eq];decide),fun l3 g3=>?_⟩⟩
    have s2:=ze (o:=.tup [.int i]) h2
    have E1:=E0.same (ze (o:=.lst [.int i]) h1)
    have n1:=E0.out h1
    have n2:=E1.out h2
    have n3:=((((B0.new h1).new h2).new g1).new g2).nne g3
    refine ⟨_,rfl,b,16,n,rfl,((((B0.new h1).new h2).new g1).new g2).new g3,by omega,by decide,by decide,fun r H3 r0 r1 B4 S4=>?_⟩
    have L3:=S4 l3 _ zd n3
    have T2:=(SameB.of (b:=b) (((ze g1).trans (ze g2)).trans (ze g3))).trans S4
    have T1:=(SameB.of (b:=b) s2).trans T2
    have T0:=(SameB.of (b:=b) (ze (o:=.lst [.int i]) h1)).trans T1
    have g1':=WX.at n1 (T1 p1 _ zd (fun z=>n1 (by rw [z];exact E0.mem)))
    have g2':=WX.at n2 (T2 p2 _ zd (fun z=>n2 (by rw [z];exact E0.mem)))
    have sm:∀ j:Int,j.natAbs <= 10000 -> DS K (WX ex H3) (kk + 1) 20 2 (.int j):=fun j hj=>DS.int (by omega)
    have di:DS K (WX ex H3) (kk + 1) 3 1 (.int i):=DS.int (by omega)
    obtain ⟨v,ev,dv⟩:=Jt (α:=fun v=>DS K (WX ex H3) (kk + 1) 20 2 v) L3 r0 r1 (fm (DS.int (by omega)) (fm (DS.int (by omega)) (fm (DS.int (by omega)) (fm (DS.bl _) (fm (DS.istr (by omega) (by decide)) (fm (DS.lst (SqL.of g1') (fm di fm0) (by show (3 + 1) * 1 <= 20;decide)) (fm (DS.tup (SqT.of g2') (fm di fm0) (by show (3 + 1) * 1 <= 20;decide)) (fm DS.non (fm (sm _ (by decide)) (fm (sm _ (by decide)) (fm (sm _ (by decide)) (fm (sm _ (by decide)) (fm (sm _ (by decide)) (fm (sm _ (by decide)) (fm (sm _ (by decide)) (fm (sm _ (by decide)) fm0))))))))))))))))
    exact ⟨l3,_,_,v,rfl,rfl,SqL.of L3,ev,k v H3 T0 B4 dv⟩
end
section
variable {P:Program} {w:World} {K:PySem.W.Frag} {mg:Str -> Option Value} {base:Heap}
inductive yq (K:PySem.W.Frag) (vs:List V) (H:Hp) (Q:VK):Prop
  | mk (b a:Addr) (t:Bool) (xs:List V) (n:Int) (kk z D:Nat) (ex:List Addr) (_:vs = [.ref b,.ref a]) (_:BoxAt H b n) (_:n < 1099511000000) (_:Ex H b ex) (_:SqQ K (WX ex H) t a xs) (_:GL K (WX ex H) kk z D xs) (_:z <= 3000) (_:∀ v H',SameB b H H' -> BoxAt H' b (n + 3) -> DS K (WX ex H') kk (4 * z + 20) (D + 4) v -> Q v H'):yq K vs H Q
def wF (K:PySem.W.Frag):Sp:=fun vs H Q _=>yq K vs H Q
theorem Jp:zG ["_law_box_here", "_law_row", "_law_way", "_law_at", "_law_some"] ["_law_box_here", "_law_row"] (zj (zn 30)):=⟨rfl,rfl,rfl,by decide +kernel,rfl,by decide +kernel,by decide +kernel⟩
def Qf (b:_) (a:_) (way:_) (q:_) (H:_) (n:_) (ex:_) (K:_) (kk:_) (z:_) (D:_):=fun (σ':St) (H':Hp)=>(Ex2 fun (p:Addr) (ys:List V)=>An6 (σ' = [some (.ref b),some (.ref a),some (.int way),some (.int q),some (.ref p)]) (SameB b H H') (BoxAt H' b (n + 3)) (p ∉ ex) (H' p = some (.lst ys)) (GL K (WX ex H') kk (4 * z + 20) (D + 3) ys):Prop)
theorem XM {f:Addr} {fd:FuncData} (F:Fun K "_law_bent_row" "_law_bent_row" (zn 30) f fd) (B:Blt mg) (D_take:Dfn P w K mg base "_law_take" 1 ["_law_box_here", "_law_size"] qz) (D_odd:Dfn P w K mg base "_law_odd" 2 ["_law_box_here"] (yj K)):FnOk P w K mg base CX0 3 f fd ["_law_box_here", "_law_row"] (wF K):=by
  have nd:=Jp.nd
  refine F.ok Jp (fun vs H Q E h=>?_) (fun cdv A outer s H vs Q E hr h=>?_)
  · obtain ⟨b,a,t,xs,n,kk,z,D,ex,rfl,_⟩:=h
    rfl
  · obtain ⟨b,a,t,xs,n,kk,z,D,ex,rfl,B0,hn,E0,hq,gl,hN,k⟩:=h
    have hxl:=gl.all.1
    have hbig:100000 < sizeLine:=by rw [sizeLine_eq];decide
    have e62:(2:Int) ^ 62 = 4611686018427387904:=by decide
    have sq:∀ H',SameB b H H' -> SqQ K H' t a xs:=fun H' s=>hq.same ((WX.draw E0.mem s).trans WX.le)
    have old:∀ H',SameB b H H' -> GL K (WX ex H') kk z (D + 3) xs:=fun H' s=>gl.up (WX.draw E0.mem s) (Nat.le_refl _) (Nat.le_refl _) (by omega)
    refine ⟨_,(zg (vn (i:=2) (j:=3) rfl nd rfl rfl (by decide) rfl rfl (za (zf D_take (hr.mono (by first | decide | exact Nat.le_refl _ | omega)) rfl (za (pv 0) (za zc zb))) (za (zf D_take (hr.mono (by first | decide | exact Nat.le_refl _ | omega)) rfl (za (pv 0) (za (zo zH (zi zq rfl B.len boot_len (za (pv 1) zb)) zc) zb))) zb)) (by rfl))
      (zg (zy (i:=4) nd rfl (Or.inl rfl) (zV jG rfl B.list qx (za (pv 1) zb)))
      (zg (jx (z9 (zE qe (pv 2) zc (zx _))
      (zk (zy (i:=4) nd rfl (Or.inl rfl) (zo je (zC qG (pv 4) zT (zD (pv 3))) (zC qG (pv 4) (zD (zo zH (pv 3) zc)) zT))))
      (zk (z9 (zE qe (pv 2) zc (zx _))
        (zk (zy (i:=4) nd rfl (Or.inl rfl) (zo je (zo je (zC qG (pv 4) zT (zD (pv 3))) (zC qG (pv 4) (zD (pv 3)) (zD (zo zH (pv 3) zc)))) (zC qG (pv 4) (zD (pv 3)) zT))))
        (zk (z9 (zE qe (pv 2) zc (zx _))
          (zk (jY (vX PySem.F.plainAttrs_list PySem.F.slot_list_insert PySem.F.type_list_insert v7 (pv 4) (za (pv 3) (za (zf D_odd (hr.mono (by first | decide | exact Nat.le_refl _ | omega)) rfl (za (pv 0) zb)) zb)))))
          (zk (z9 (zE qe (pv 2) zc (zx _))
            (zk (zy (i:=4) nd rfl (Or.inl rfl) (zo je (zo je (zC qG (pv 4) zT (zD (pv 3))) (QG (zC qG (pv 4) (zD (pv 3)) (zD (zo zH (pv 3) zc))) (zD (Ju yW zc)))) (zC qG (pv 4) (zD (zo zH (pv 3) zc)) zT))))
            (zk (z9 (zE qe (pv 2) zc (zx _))
              (zk (zu (qo (z7 (zi qi rfl B.isinstance boot_isinstance (za (pv 1) (za (zN (v:=.ty "tuple") rfl B.tuple zJ rfl) zb)))) (pv 4) (zV qw rfl B.tuple zJ (za (pv 4) zb)))))
              (zk (zu (zf D_odd (hr.mono (by first | decide | exact Nat.le_refl _ | omega)) rfl (za (pv 0) zb))))))))))))))
      (zk (zu (qo (z7 (zi qi rfl B.isinstance boot_isinstance (za (pv 1) (za (zN (v:=.ty "tuple") rfl B.tuple zJ rfl) zb)))) (zV qw rfl B.tuple zJ (za (pv 4) zb)) (pv 4))))))),?_⟩
    refine ⟨_,rfl,b,6,n,rfl,B0,by omega,by decide,by decide,fun way H1 w0 w1 B1 S1=>⟨_,rfl,_,rfl,a,xs,rfl,(sq _ S1).or,_,_,rfl,rfl,b,_,n + 1,rfl,B1,by omega,by omega,by omega,fun q H2 q0 q1 B2 S2=>⟨_,_,rfl,?_⟩⟩⟩
    have S2':=S1.trans S2
    refine ⟨_,rfl,a,xs,rfl,(sq _ S2').or,fun m hm=>?_⟩
    have E2:=E0.next S2' B2
    have mH:H m = none:=S2'.none hm (B2.nne hm)
    have mb:=B2.nne hm
    have mx:=E2.out hm
    have S3:=S2'.new (o:=.lst xs) hm
    have B3:=B2.new (o:=.lst xs) hm
    have E3:=E2.same (ze (o:=.lst xs) hm)
    have f3:upd H2 m (.lst xs) m = some (.lst xs):=zd
    generalize upd H2 m (.lst xs) = H3 at S3 B3 E3 f3
    clear S1 S2 B1 B2 E2 hm
    refine ⟨Qf b a way q H n ex K kk z D,?_,?_⟩
    · have len:∀ (lo hi:Option Int),(qg xs lo hi).length <= z:=fun lo hi=>Nat.le_trans (jm xs lo hi) hxl
      refine ⟨_,rfl,rfl,_,rfl,zW (fun c0=>?_) (fun c0=>⟨_,rfl,rfl,_,rfl,zW (fun c1=>?_) (fun c1=>⟨_,rfl,rfl,_,rfl,zW (fun c2=>?_) (fun c2=>⟨_,rfl,rfl,_,rfl,zW (fun c3=>?_) (fun c3=>⟨_,rfl,rfl,_,rfl,zW (fun c4=>?_) (fun c4=>?_)⟩)⟩)⟩)⟩)⟩
      · refine ⟨_,rfl,_,rfl,_,rfl,m,xs,rfl,SqL.of f3,fun p1 h1=>?_⟩
        refine ⟨_,rfl,_,rfl,_,_,rfl,rfl,_,rfl,m,xs,rfl,SqL.of ((ze h1) _ _ f3),fun p2 h2=>?_⟩
        have l1:=len none (some q)
        have l2:=len (some (q + 1)) none
        refine ⟨p1,p2,_,_,rfl,rfl,(ze h2) _ _ zd,zd,by omega,fun p3 h3=>?_⟩
        have g0:=old _ (((S3.new h1).new h2).new (o:=.lst (qg xs none (some q) ++ qg xs (some (q + 1)) none)) h3)
        exact ⟨p3,_,rfl,((S3.new h1).new h2).new h3,(((B3.new h1).new h2).new h3).mono (by omega),((E3.same (ze h1)).same (ze h2)).out h3,zd,((g0.cut _ _).app (g0.cut _ _)).up (Same.refl _) (Nat.le_refl _) (by omega) (Nat.le_refl _)⟩
      · refine ⟨_,rfl,_,rfl,_,rfl,m,xs,rfl,SqL.of f3,fun p1 h1=>?_⟩
        refine ⟨_,rfl,_,rfl,_,rfl,_,rfl,_,_,rfl,rfl,_,rfl,m,xs,rfl,SqL.of ((ze h1) _ _ f3),fun p2 h2=>?_⟩
        have l1:=len none (some q)
        have l2:=len (some q) (some (q + 1))
        have l3:=len (some q) none
        refine ⟨p1,p2,_,_,rfl,rfl,(ze h2) _ _ zd,zd,by omega,fun p3 h3=>?_⟩
        refine ⟨_,rfl,_,rfl,_,rfl,m,xs,rfl,SqL.of ((((ze h1).trans (ze h2)).trans (ze h3)) _ _ f3),fun p4 h4=>?_⟩
        refine ⟨p3,p4,_,_,rfl,rfl,(ze h4) _ _ zd,zd,by rw [List.length_append];omega,fun p5 h5=>?_⟩
        have g0:=old _ (((((S3.new h1).new h2).new h3).new h4).new (o:=.lst ((qg xs none (some q) ++ qg xs (some q) (some (q + 1))) ++ qg xs (some q) none)) h5)
        exact ⟨p5,_,rfl,((((S3.new h1).new h2).new h3).new h4).new h5,(((((B3.new h1).new h2).new h3).new h4).new h5).mono (by omega),((((E3.same (ze h1)).same (ze h2)).same (ze h3)).same (ze h4)).out h5,zd,(((g0.cut _ _).app (g0.cut _ _)).app (g0.cut _ _)).up (Same.refl _) (Nat.le_refl _) (by omega) (Nat.le_refl _)⟩
      · refine ⟨_,rfl,.inl ⟨rfl,_,SqL.of f3⟩,_,rfl,_,rfl,b,n + 1 + 1,m :: ex,rfl,B3,by omega,E3.cons f3,fun v H4 S4 B4 dv=>?_⟩
        have f4:=S4 m _ f3 mb
        refine ⟨m,xs,q,v,rfl,rfl,f4,q0,by rw [e62];omega,by omega,?_⟩
        have S5:=(S3.trans S4).put (o:=.lst (xs.take q.toNat ++ v :: xs.drop q.toNat)) mH
        have g0:=old _ S5
        have dv':DS K (WX ex (upd H4 m (.lst (xs.take q.toNat ++ v :: xs.drop q.toNat)))) kk 10 (D + 3) v:=dv.up ((WX.put List.mem_cons_self).trans WX.cons) (Nat.zero_le _) (Nat.le_refl _) (by omega)
        exact ⟨m,_,rfl,S5,(B4.other mb).mono (by omega),mx,zd,((g0.take _).app (xs:=xs.take q.toNat) (ys:=[v] ++ xs.drop q.toNat) ((GL.one dv').app (g0.drop _))).up (Same.refl _) (Nat.le_refl _) (by omega) (Nat.le_refl _)⟩
      · refine ⟨_,rfl,_,rfl,_,rfl,m,xs,rfl,SqL.of f3,fun p1 h1=>?_⟩
        refine ⟨_,rfl,_,rfl,_,rfl,_,rfl,_,_,rfl,rfl,_,rfl,m,xs,rfl,SqL.of ((ze h1) _ _ f3),fun p2 h2=>?_⟩
        have l1:=len none (some q)
        have l2:=len (some q) (some (q + 2))
        have l3:=len (some (q + 2)) none
        refine ⟨_,rfl,_,rfl,p2,_,rfl,(by decide),SqL.of zd,fun zs p3 zm zl h3=>?_⟩
        refine ⟨p1,p3,_,_,rfl,rfl,((ze h2).trans (ze h3)) _ _ zd,zd,by omega,fun p4 h4=>?_⟩
        refine ⟨_,rfl,_,rfl,_,_,rfl,rfl,_,rfl,m,xs,rfl,SqL.of (((((ze h1).trans (ze h2)).trans (ze h3)).trans (ze h4)) _ _ f3),fun p5 h5=>?_⟩
        refine ⟨p4,p5,_,_,rfl,rfl,(ze h5) _ _ zd,zd,by rw [List.length_append];omega,fun p6 h6=>?_⟩
        have g0:=old _ ((((((S3.new h1).new h2).new h3).new h4).new h5).new (o:=.lst ((qg xs none (some q) ++ zs) ++ qg xs (some (q + 2)) none)) h6)
        have z2:zs.length <= 2:=by
          have e1:(some q:Option Int) = some ((q.toNat:Nat):Int):=by rw [Int.toNat_of_nonneg q0]
          have e2:(some (q + 2):Option Int) = some ((q.toNat + 2:Nat):Int):=by rw [show ((q.toNat + 2:Nat):Int) = q + 2 by omega]
          have:=(Wx xs q.toNat (q.toNat + 2)).1
          rw [<- e1,<- e2] at this
          omega
        have gz:=(g0.cut (some q) (some (q + 2))).some zm
        have zz:(z + 1) * zs.length <= (z + 1) * 2:=Nat.mul_le_mul_left _ z2
        exact ⟨p6,_,rfl,(((((S3.new h1).new h2).new h3).new h4).new h5).new h6,((((((B3.new h1).new h2).new h3).new h4).new h5).new h6).mono (by omega),(((((E3.same (ze h1)).same (ze h2)).same (ze h3)).same (ze h4)).same (ze h5)).out h6,zd,(((g0.cut _ _).app gz).app (g0.cut _ _)).up (Same.refl _) (Nat.le_refl _) (by omega) (Nat.le_refl _)⟩
      · refine ⟨_,rfl,_,tyQ t, "tuple",rfl,(sq _ S3).ty,(by decide),_,rfl,zW (fun d=>⟨_,rfl,?_⟩) (fun d=>⟨_,rfl,m,xs,rfl,.inl ⟨SqL.of f3,fun p hp=>?_⟩⟩)⟩
        · exact k _ H3 S3 (B3.mono (by omega)) ((GL.lst (SqL.of (WX.at mx f3)) (old _ S3)).up (Same.refl _) (Nat.le_refl _) (by omega) (Nat.le_refl _))
        · exact k _ _ (S3.new hp) ((B3.new hp).mono (by omega)) ((GL.tup (SqT.of (WX.at (E3.out hp) zd)) (old _ (S3.new hp))).up (Same.refl _) (Nat.le_refl _) (by omega) (Nat.le_refl _))
      · exact ⟨_,rfl,b,n + 1 + 1,ex,rfl,B3,by omega,E3,fun v H4 S4 B4 dv=>k v H4 (S3.trans S4) (B4.mono (by omega)) (dv.up (Same.refl _) (Nat.zero_le _) (by omega) (by omega))⟩
    · rintro σ' H4 ⟨p,ys,rfl,S4,B4,px,f4,yg⟩
      refine ⟨_,rfl,_,tyQ t, "tuple",rfl,(sq _ S4).ty,(by decide),_,rfl,zW (fun d=>⟨_,rfl,p,ys,rfl,.inl ⟨SqL.of f4,fun p' hp=>?_⟩⟩) (fun d=>⟨_,rfl,?_⟩)⟩
      · have E4:=E0.next S4 B4
        exact k _ _ (S4.new hp) (B4.new hp) (GL.tup (SqT.of (WX.at (E4.out hp) zd)) (yg.up (WX.new hp) (Nat.le_refl _) (Nat.le_refl _) (Nat.le_refl _)))
      · exact k _ H4 S4 B4 (GL.lst (SqL.of (WX.at px f4)) yg)
end
section
variable {P:Program} {w:World} {K:PySem.W.Frag} {mg:Str -> Option Value} {base:Heap}
theorem DS.split3 {F:Hp} {k z D:Nat} {v:V} (h:DS K F k z D v):v = .non \/ (∃ c,v = .bl c) \/ (∃ i:Int,v = .int i /\ i.natAbs <= 10000000000 + k) \/ (∃ x:Str,v = .str x /\ x.length <= z /\ okC x) \/ ∃ (a:Addr) (t:Bool) (xs:List V) (ds:List Dat),v = .ref a /\ SqQ K F t a xs /\ Reps K F ds xs /\ Dat.gds k ds = true /\ Dat.blks ds <= z /\ PyData.depthAll (Dat.pys ds) + 1 <= D:=by
  have h':=h
  obtain ⟨d,r,g,b,p⟩:=h'
  cases d with
  | str x=>exact .inr (.inr (.inr (.inl ⟨x,r,b,fun c hc=>of_decide_eq_true (List.all_eq_true.mp g c hc)⟩)))
  | non=>exact .inl r
  | bl c=>exact .inr (.inl ⟨c,r⟩)
  | int i=>exact .inr (.inr (.inl ⟨i,r,of_decide_eq_true g⟩))
  | lst ds=>
    obtain ⟨a,xs,e,q,rs⟩:=r
    exact .inr (.inr (.inr (.inr ⟨a,false,xs,ds,e,q,rs,g,b,p⟩)))
  | tup ds=>
    obtain ⟨a,xs,e,q,rs⟩:=r
    exact .inr (.inr (.inr (.inr ⟨a,true,xs,ds,e,q,rs,g,b,p⟩)))
def vf (K:PySem.W.Frag):Nat -> Sp
  | 0=>fun _ _ _ _=>False
  | j + 1=>fun vs H Q _=>∃ (b:Addr) (v:V) (n:Int) (kk z D d:Nat) (ex:List Addr),vs = [.ref b,v,.int d] /\ BoxAt H b n /\ n + 10 * (j + 1) < 1099510000000 /\ Ex H b ex /\ DS K (WX ex H) kk z D v /\ z <= 3000 /\ kk <= 100 /\ d <= j /\ j <= 10 /\
    ∀ v' H',SameB b H H' -> BoxAt H' b (n + 6 * (j + 1)) -> DS K (WX ex H') (kk + 1) ((4 * z + 20) + (j + 1) * (z + 2)) (D + 4) v' -> Q v' H'
theorem Jo:zG ["_law_box_here", "_law_thing", "_law_deep", "_law_at", "_law_some"] ["_law_box_here", "_law_thing", "_law_deep"] (zj (zn 31)):=⟨rfl,rfl,rfl,by decide +kernel,rfl,by decide +kernel,by decide +kernel⟩
def Qe (b:_) (a:_) (d:_) (H:_) (n:_) (xs:List V):=fun (σ':St) (H':Hp)=>(Ex1 fun (q:Int)=>An5 (σ' = [some (.ref b),some (.ref a),some (.int d),some (.int q),none]) (SameB b H H') (BoxAt H' b (n + 3)) (0 <= q) (q < xs.length):Prop)
theorem ZV {f:Addr} {fd:FuncData} (F:Fun K "_law_bent" "_law_bent" (zn 31) f fd) (B:Blt mg) (hm:mg "_law_bent" = some (.ref f)) (hb:Binds K fd ["_law_box_here", "_law_thing", "_law_deep"] [])
    (D_take:Dfn P w K mg base "_law_take" 1 ["_law_box_here", "_law_size"] qz) (D_odd:Dfn P w K mg base "_law_odd" 2 ["_law_box_here"] (yj K)) (D_bent_word:Dfn P w K mg base "_law_bent_word" 2 ["_law_box_here", "_law_word"] Za) (D_bent_number:Dfn P w K mg base "_law_bent_number" 2 ["_law_box_here", "_law_number"] (Zd K)) (D_bent_row:Dfn P w K mg base "_law_bent_row" 3 ["_law_box_here", "_law_row"] (wF K)) :
    ∀ j:Nat,FnOk P w K mg base CX0 (j + 3) f fd ["_law_box_here", "_law_thing", "_law_deep"] (vf K j)
  | 0=>⟨fun _ _ _ _ h=>h.elim,fun _ _ _ _ _ _ _ _ _ _ _ _ _ h=>h.elim⟩
  | j + 1=>by
    have D_bent:Dfn P w K mg base "_law_bent" (j + 3) ["_law_box_here", "_law_thing", "_law_deep"] (vf K j):=⟨f,fd,ZV F B hm hb D_take D_odd D_bent_word D_bent_number D_bent_row j,hm,F.kp,hb⟩
    have nd:=Jo.nd
    refine F.ok Jo (fun vs H Q E h=>?_) (fun cdv A outer s H vs Q E hr h=>?_)
    · obtain ⟨b,v,n,kk,z,D,d,ex,rfl,_⟩:=h
      rfl
    · obtain ⟨b,v,n,kk,z,D,d,ex,rfl,B0,hn,E0,dv,hN,hk,hd,hj,k⟩:=h
      have hbig:100000 < sizeLine:=by rw [sizeLine_eq];decide
      refine ⟨_,(zg (z9 (z7 (zi qi rfl B.isinstance boot_isinstance (za (pv 1) (za (zN (v:=.ty "str") rfl B.str jh rfl) zb))))
      (zk (zu (qo (zE qe (zf D_take (hr.mono (by first | decide | exact Nat.le_refl _ | omega)) rfl (za (pv 0) (za zc zb))) zc (zx _)) (zf D_odd (hr.mono (by first | decide | exact Nat.le_refl _ | omega)) rfl (za (pv 0) zb)) (zf D_bent_word (hr.mono (by first | decide | exact Nat.le_refl _ | omega)) rfl (za (pv 0) (za (pv 1) zb))))))
      zM)
      (zg (z9 (qC (z7 (zi xD rfl B.isinstance boot_isinstance (za (pv 1) (za (zw (za (zN (v:=.ty "list") rfl B.list qx rfl) (za (zN (v:=.ty "tuple") rfl B.tuple zJ rfl) zb))) zb)))))
      (zk (zu (qo (PW.pt (jr (zE Jz (pv 1) vp (zx _)) (jw (z7 (zi qi rfl B.isinstance boot_isinstance (za (pv 1) (za (zN (v:=.ty "bool") rfl B.bool ju rfl) zb))))))) (zf D_odd (hr.mono (by first | decide | exact Nat.le_refl _ | omega)) rfl (za (pv 0) zb)) (zf D_bent_number (hr.mono (by first | decide | exact Nat.le_refl _ | omega)) rfl (za (pv 0) (za (pv 1) zb))))))
      zM)
      (zg (z9 (PW.pt (jr (zE qe (pv 2) zc (zx _)) (jr (zE qe (zi zq rfl B.len boot_len (za (pv 1) zb)) zc (zx _)) (jw (zE qe (zf D_take (hr.mono (by first | decide | exact Nat.le_refl _ | omega)) rfl (za (pv 0) (za zc zb))) zc (zx _))))))
      (zk (zu (zf D_bent_row (hr.mono (by first | decide | exact Nat.le_refl _ | omega)) rfl (za (pv 0) (za (pv 1) zb)))))
      zM)
      (zg (jx (zy (i:=3) nd rfl (Or.inl rfl) (qo (zE qe (zf D_take (hr.mono (by first | decide | exact Nat.le_refl _ | omega)) rfl (za (pv 0) (za zc zb))) zc (zx _)) (zo qI (zi zq rfl B.len boot_len (za (pv 1) zb)) zc) (zf D_take (hr.mono (by first | decide | exact Nat.le_refl _ | omega)) rfl (za (pv 0) (za (zi zq rfl B.len boot_len (za (pv 1) zb)) zb))))))
      (zg (zy (i:=4) nd rfl (Or.inl rfl) (zV jG rfl B.list qx (za (pv 1) zb)))
      (zg (jP (zf D_bent (hr.mono (by first | decide | exact Nat.le_refl _ | omega)) rfl (za (pv 0) (za (zP j3 (pv 4) (pv 3) (fun _ _=>rfl)) (za (zo qI (pv 2) zc) zb)))) (wH (pv 4) (pv 3) xn))
      (zk (zu (qo (z7 (zi qi rfl B.isinstance boot_isinstance (za (pv 1) (za (zN (v:=.ty "tuple") rfl B.tuple zJ rfl) zb)))) (zV qw rfl B.tuple zJ (za (pv 4) zb)) (pv 4)))))))))),?_⟩
      have odd:∀ H1 (m:Int),SameB b H H1 -> BoxAt H1 b m -> m <= n + 1 -> yj K [.ref b] H1 Q E:=fun H1 m S1 B1 hm1=>
        ⟨b,m,ex,rfl,B1,by omega,E0.next S1 B1,fun v' H' S' B' dv'=>k v' H' (S1.trans S') (B'.mono (by omega)) (dv'.up (Same.refl _) (Nat.zero_le _) (by omega) (by omega))⟩
      rcases dv.split3 with rfl | ⟨c,rfl⟩ | ⟨i,rfl,h⟩ | ⟨x,rfl,h,ho⟩ | ⟨a,t,xs,ds,rfl,hq,rs,gs,bs,psd⟩
      · refine ⟨_,rfl,_, "NoneType", "str",rfl,rfl,(by decide),_,rfl,ifF (by decide) ⟨_,rfl,xa,fun p hp=>⟨_, "NoneType",p,["list", "tuple"],rfl,rfl,zd,(by decide),_,rfl,ifT (by decide) ⟨_,rfl,rfl,_,rfl,ifT (by simp) (ifT rfl ⟨_,rfl,?_⟩)⟩⟩⟩⟩
        exact odd _ n ((SameB.refl b H).new hp) (B0.new hp) (by omega)
      · refine ⟨_,rfl,_, "bool", "str",rfl,rfl,(by decide),_,rfl,ifF (by decide) ⟨_,rfl,xa,fun p hp=>⟨_, "bool",p,["list", "tuple"],rfl,rfl,zd,(by decide),_,rfl,ifT (by decide) ⟨_,rfl,rfl,_,rfl,ifF (by simp) ⟨_,rfl,_, "bool", "bool",rfl,rfl,(by decide),_,rfl,ifT (by decide) ⟨_,rfl,?_⟩⟩⟩⟩⟩⟩
        exact odd _ n ((SameB.refl b H).new hp) (B0.new hp) (by omega)
      · refine ⟨_,rfl,_, "int", "str",rfl,rfl,(by decide),_,rfl,ifF (by decide) ⟨_,rfl,xa,fun p hp=>⟨_, "int",p,["list", "tuple"],rfl,rfl,zd,(by decide),_,rfl,ifT (by decide) ⟨_,rfl,rfl,_,rfl,ifF (by simp) ⟨_,rfl,_, "int", "bool",rfl,rfl,(by decide),_,rfl,ifF (by decide) ⟨_,rfl,_,rfl,?_⟩⟩⟩⟩⟩⟩
        exact ⟨b,i,n,kk,ex,rfl,B0.new hp,by omega,h,by omega,E0.same (ze hp),fun v' H' S' B' dv'=>k v' H' (((SameB.refl b H).new hp).trans S') (B'.mono (by omega)) (dv'.up (Same.refl _) (Nat.le_refl _) (by omega) (by omega))⟩
      · refine ⟨_,rfl,_, "str", "str",rfl,rfl,(by decide),_,rfl,ifT (by decide) ⟨_,rfl,b,4,n,rfl,B0,by omega,by decide,by decide,fun r H1 r0 r1 B1 S1=>⟨rfl,_,rfl,zW (fun c=>⟨_,rfl,odd H1 _ S1 B1 (by omega)⟩) (fun c=>⟨_,rfl,_,rfl,?_⟩)⟩⟩⟩
        exact ⟨b,x,n + 1,z,rfl,B1,by omega,h,hN,ho,fun y H' S' B' hy oy=>k (.str y) H' (S1.trans S') (B'.mono (by omega)) (DS.str (by omega) oy)⟩
      have sq:∀ H',SameB b H H' -> SqQ K H' t a xs:=fun H' s=>hq.same ((WX.draw E0.mem s).trans WX.le)
      have row:∀ H1 (m:Int),SameB b H H1 -> BoxAt H1 b m -> m <= n + 1 -> wF K [.ref b,.ref a] H1 Q E:=fun H1 m S1 B1 hm1=>
        ⟨b,a,t,xs,m,kk,z,D - 1,ex,rfl,B1,by omega,E0.next S1 B1,hq.same (WX.draw E0.mem S1),⟨ds,rs.same (WX.draw E0.mem S1),gs,bs,by omega⟩,hN,fun v' H' S' B' dv'=>k v' H' (S1.trans S') (B'.mono (by omega)) (dv'.up (Same.refl _) (by omega) (Nat.le_add_right _ _) (by omega))⟩
      obtain ⟨lx,al⟩:=vH (z:=z) (D:=D - 1) rs gs bs (by omega)
      have ns:qL (tyQ t) "str" = false:=by cases t <;> decide
      have ny:(!(["list", "tuple"].any fun C=>qL (tyQ t) C)) = false:=by cases t <;> decide
      have S0:=SameB.refl b H
      refine ⟨_,rfl,_,tyQ t, "str",rfl,(sq H S0).ty,(by decide),_,rfl,ifF ns ⟨_,rfl,xa,fun p hp=>⟨_,tyQ t,p,["list", "tuple"],rfl,(sq _ (S0.new hp)).ty,zd,(by decide),_,rfl,ifF ny ?_⟩⟩⟩
      have S1:=S0.new (o:=.tup [V.ty "list",V.ty "tuple"]) hp
      have B1:=B0.new (o:=.tup [V.ty "list",V.ty "tuple"]) hp
      generalize upd H p (.tup [V.ty "list",V.ty "tuple"]) = H1 at S1 B1
      refine ⟨_,rfl,rfl,_,rfl,zW (fun c=>ifT rfl ⟨_,rfl,_,rfl,row H1 n S1 B1 (by omega)⟩) (fun c=>⟨_,rfl,a,xs,rfl,(sq _ S1).or,rfl,_,rfl,zW (fun c2=>ifT rfl ⟨_,rfl,_,rfl,row H1 n S1 B1 (by omega)⟩) (fun c2=>⟨_,rfl,b,4,n,rfl,B1,by omega,by decide,by decide,fun r H2 r0 r1 B2 S2=>⟨rfl,_,rfl,zW (fun c3=>⟨_,rfl,_,rfl,row H2 _ (S1.trans S2) B2 (by omega)⟩) (fun c3=>?_)⟩⟩)⟩)⟩
      have S2':=S1.trans S2
      have d0:d ≠ 0:=fun z=>c (by rw [z];exact decide_eq_true rfl)
      have x0:xs.length ≠ 0:=fun z=>c2 (by rw [z];exact decide_eq_true rfl)
      clear S1 S2 B1
      refine ⟨Qe b a d H n xs,?_,?_⟩
      · refine ⟨_,rfl,b,4,n + 1,rfl,B2,by omega,by decide,by decide,fun r2 H3 r20 r21 B3 S3=>⟨rfl,_,rfl,zW (fun e=>?_) (fun e=>?_)⟩⟩
        · exact ⟨_,rfl,a,xs,rfl,(sq _ (S2'.trans S3)).or,_,_,rfl,rfl,_,rfl,S2'.trans S3,B3.mono (by omega),by omega,by omega⟩
        · exact ⟨_,rfl,_,rfl,a,xs,rfl,(sq _ (S2'.trans S3)).or,b,_,n + 1 + 1,rfl,B3,by omega,by omega,by omega,fun q H4 q0 q1 B4 S4=>⟨q,rfl,(S2'.trans S3).trans S4,B4.mono (by omega),q0,q1⟩⟩
      rintro σ' H3 ⟨q,rfl,S3,B3,q0,q1⟩
      clear S2' B2
      refine ⟨_,rfl,a,xs,rfl,(sq _ S3).or,fun m hm=>?_⟩
      have E3:=E0.next S3 B3
      have mH:H m = none:=S3.none hm (B3.nne hm)
      have mb:=B3.nne hm
      have mx:=E3.out hm
      have S4:=S3.new (o:=.lst xs) hm
      have B4:=B3.new (o:=.lst xs) hm
      have E4:=E3.same (ze (o:=.lst xs) hm)
      have w4:=(WX.draw E0.mem S3).trans (WX.fresh hm (.lst xs))
      have f4:upd H3 m (.lst xs) m = some (.lst xs):=zd
      generalize upd H3 m (.lst xs) = H4 at S4 B4 E4 f4 w4
      obtain ⟨x,ex1,ex2⟩:=xh (xs:=xs) q0 q1
      have dx:=(al x (List.mem_of_getElem? ex2)).up w4 (Nat.le_refl _) (by omega:z - 1 <= z) (Nat.le_refl _)
      obtain ⟨d',rfl⟩:∃ d',d = d' + 1:=⟨d - 1,by omega⟩
      obtain ⟨j',rfl⟩:∃ j',j = j' + 1:=⟨j - 1,by omega⟩
      refine ⟨_,rfl,_,rfl,_,rfl,m,xs,_,x,rfl,rfl,SqL.of f4,ex1,_,rfl,_,_,rfl,rfl,?_⟩
      refine ⟨b,x,n + 3,kk,z,D - 1,d',m :: ex,?_,B4,by omega,E4.cons f4,dx,hN,hk,by omega,by omega,fun v' H5 S5 B5 dv5=>?_⟩
      · show [V.ref b,x,V.int (((d' + 1:Nat):Int) - 1)] = [V.ref b,x,V.int (d':Int)]
        have:(((d' + 1:Nat):Int) - 1) = (d':Int):=by omega
        rw [this]
      have f5:=S5 m _ f4 mb
      refine ⟨_,rfl,_,rfl,m,xs,q,q.toNat,rfl,rfl,f5,VU q0 q1,?_⟩
      have S6:=(S4.trans S5).put (o:=.lst (xs.set q.toNat v')) mH
      have B6:=B5.other (o:=.lst (xs.set q.toNat v')) mb
      have f6:upd H5 m (.lst (xs.set q.toNat v')) m = some (.lst (xs.set q.toNat v')):=zd
      have dv6:=dv5.up ((WX.put (H:=H5) (o:=.lst (xs.set q.toNat v')) List.mem_cons_self).trans WX.cons) (Nat.le_refl _) (Nat.le_refl _) (Nat.le_refl _)
      generalize upd H5 m (.lst (xs.set q.toNat v')) = H6 at S6 B6 f6 dv6
      have E6:=E0.next S6 B6
      have gl6:GL K (WX ex H6) (kk + 1) ((4 * z + 20) + (j' + 1 + 1) * (z + 2)) (D + 3) (xs.set q.toNat v'):=by
        obtain ⟨d2,rd,gd⟩:=dv6
        have b6:=yS (ds:=ds) (i:=q.toNat) (d:=d2)
        have p6:=yM (ds:=ds) (i:=q.toNat) (d:=d2)
        have gb:=gd.b
        have gp:=gd.p
        have em:(j' + 1 + 1) * (z + 2) = (j' + 1) * (z + 2) + (z + 2):=Nat.succ_mul _ _
        exact ⟨_,Reps.set (i:=q.toNat) (rs.same (WX.draw E0.mem S6)) rd,Z1 (i:=q.toNat) (d:=d2) (Dat.gds_up (by omega:kk <= kk + 1) gs) gd.g,by rw [em];omega,by omega⟩
      refine ⟨_,rfl,_,tyQ t, "tuple",rfl,(sq _ S6).ty,(by decide),_,rfl,zW (fun e=>⟨_,rfl,m,_,rfl,.inl ⟨SqL.of f6,fun p' hp'=>?_⟩⟩) (fun e=>⟨_,rfl,?_⟩)⟩
      · exact k _ _ (S6.new hp') ((B6.new hp').mono (by omega)) (GL.tup (SqT.of (WX.at (E6.out hp') zd)) (gl6.up (WX.new hp') (Nat.le_refl _) (Nat.le_refl _) (Nat.le_refl _)))
      · exact k _ H6 S6 (B6.mono (by omega)) (GL.lst (SqL.of (WX.at mx f6)) gl6)
end
def JL (l:List Nat):List V:=l.map fun i:Nat=>V.int (i:Int)
def qr (l:List Nat):List Dat:=l.map fun i:Nat=>Dat.int (i:Int)
def trD (qs:List (Nat × Nat)) (ls:List Nat):Dat:=.tup [.tup (qs.map qb),.tup (qr ls)]
structure X3 (J:Job) (qs:List (Nat × Nat)) (ls:List Nat):Prop where
  n1:1 <= qs.length
  n6:qs.length <= 6
  nd:(qs.map (·.1)).Nodup
  pi:∀ q ∈ qs,q.1 < J.ps.length /\ q.2 < J.fs.length
  pm:ls.Perm (qs.map (·.1))
theorem xA:∀ l:List Nat,Dat.imms (qr l) = true
  | []=>rfl
  | n :: l=>by
    show (true && Dat.imms (qr l)) = true
    rw [xA l];rfl
section
variable {P:Program} {w:World} {K:PySem.W.Frag} {mg:Str -> Option Value} {base:Heap}
theorem v0 {H:Hp}:∀ l:List Nat,Reps K H (qr l) (JL l)
  | []=>rfl
  | n :: l=>⟨_,_,rfl,rfl,v0 l⟩
theorem JZ (xs:List V) (k:Nat):qg xs none (some (k:Int)) = xs.take k:=by
  unfold qg
  rw [HT.sIx_nat,HT.sIx_none]
  rw [List.drop_zero,Nat.sub_zero]
  by_cases h:k <= xs.length
  · rw [Nat.min_eq_left h]
  · rw [Nat.min_eq_right (by omega),List.take_length,List.take_of_length_le (by omega)]
inductive ZH (K:PySem.W.Frag) (vs:List V) (H:Hp) (Q:VK):Prop
  | mk (b jp:Addr) (n:Int) (J:Job) (_:vs = [.ref b,.ref jp]) (_:BoxAt H b n) (_:n < 500000) (_:Rep K H (wM J) (.ref jp)) (_:1 <= J.ps.length) (_:J.ps.length <= 60) (_:1 <= J.fs.length) (_:J.fs.length <= 60) (_:∀ (p:Addr) (qs:List (Nat × Nat)) (ls:List Nat) H',SameB b H H' -> BoxAt H' b (n + 100) -> Rep K H' (trD qs ls) (.ref p) -> X3 J qs ls -> Q (.ref p) H'):ZH K vs H Q
def ZI (K:PySem.W.Frag):Sp:=fun vs H Q _=>ZH K vs H Q
theorem Ve:zG ["_law_box_here", "_law_job_here", "_law_parts", "_law_picks"] ["_law_box_here", "_law_job_here"] (zj (zn 32)):=⟨rfl,rfl,rfl,by decide +kernel,rfl,by decide +kernel,by decide +kernel⟩
theorem VL {f:Addr} {fd:FuncData} (F:Fun K "_law_any_trip" "_law_any_trip" (zn 32) f fd) (B:Blt mg) (D_take:Dfn P w K mg base "_law_take" 1 ["_law_box_here", "_law_size"] qz) (D_shuffled:Dfn P w K mg base "_law_shuffled" 2 ["_law_box_here", "_law_some"] (vb K)):FnOk P w K mg base CX0 3 f fd ["_law_box_here", "_law_job_here"] (ZI K):=by
  have nd:=Ve.nd
  refine F.ok Ve (fun vs H Q E h=>?_) (fun cdv A outer s H vs Q E hr h=>?_)
  · obtain ⟨b,jp,n,J,rfl,_⟩:=h
    rfl
  · obtain ⟨b,jp,n,J,rfl,B0,hn,rj,p1,p60,f1,f60,k⟩:=h
    obtain ⟨g,fs,ps,as,fv,px,qj,qf,lf,qp,lp⟩:=qK rj
    have hbig:1000000 < sizeLine:=by rw [sizeLine_eq];decide
    have e62:(2:Int) ^ 62 = 4611686018427387904:=by decide
    refine ⟨_,(zg (zy (i:=2) nd rfl (Or.inl rfl) (zC qG (zf D_shuffled (hr.mono (by first | decide | exact Nat.le_refl _ | omega)) rfl (za (pv 0) (za (xq rfl rfl B.list rfl B.range qx (za (zi zq rfl B.len boot_len (za (zP qy (pv 1) zc (fun _ _=>rfl)) zb)) zb)) zb))) zT (zD (zo zH zc (zf D_take (hr.mono (by first | decide | exact Nat.le_refl _ | omega)) rfl (za (pv 0) (za zc zb)))))))
      (zg (zy (i:=3) nd rfl (Or.inl rfl) (zV qw rfl B.tuple zJ (za (jq ["_law_box_here", "_law_job_here"] [0,1] rfl rfl (by kernel_rfl) (xp (pv 2)) (fun C0 s0 H0 ex0=>qN) (fun C0 s0 H0 ex0=>(zw (za (pv 0) (za (zf D_take (hr.mono (by first | decide | exact Nat.le_refl _ | omega)) rfl (za (pv 1) (za (zi (zK (K:=K) rfl) rfl B.len boot_len (za (zP (xY (K:=K) rfl) (pv 2) zc (fun _ _=>rfl)) zb)) zb))) zb))))) zb)))
      (zk (zu (zw (za (pv 3) (za (zV qw rfl B.tuple zJ (za (zf D_shuffled (hr.mono (by first | decide | exact Nat.le_refl _ | omega)) rfl (za (pv 0) (za (pv 2) zb))) zb)) zb))))))),?_⟩
    refine ⟨_,rfl,_,rfl,jp,_,_,_,rfl,rfl,qj,at3,ps,_,rfl,.inr qp,_,rfl,Int.natCast_nonneg _,by rw [lp];omega,fun l0 h0=>?_⟩
    rw [lp,Int.toNat_natCast] at *
    have len0:((List.range J.ps.length).map fun i:Nat=>V.int (i:Int)).length = J.ps.length:=by rw [List.length_map,List.length_range]
    refine ⟨b,l0,n,_,rfl,B0.new h0,by omega,B0.nne h0,zd,by rw [len0];omega,fun o ys H1 S1 B1 no oN ho pm=>?_⟩
    obtain ⟨ord,op,rfl⟩:=qY pm rfl
    have ol:ord.length = J.ps.length:=by rw [op.length_eq,List.length_range]
    rw [len0] at B1
    have S1':=((SameB.refl b H).new (o:=.lst ((List.range J.ps.length).map fun i:Nat=>V.int (i:Int))) h0).trans S1
    refine ⟨_,rfl,b,6,_,rfl,B1,by omega,by decide,by decide,fun r H2 r0 r1 B2 S2=>⟨_,_,rfl,rfl,_,rfl,o,_,rfl,SqL.of (S2 _ _ ho no),fun pa hpa=>?_⟩⟩
    obtain ⟨r,rfl⟩:∃ m:Nat,r = (m:Int):=⟨r.toNat,by omega⟩
    have s3:=ze (H:=H2) (o:=.lst (qg (ord.map fun i:Nat=>V.int (i:Int)) none (some (1 + (r:Int))))) hpa
    have P3:upd H2 pa (.lst (qg (ord.map fun i:Nat=>V.int (i:Int)) none (some (1 + (r:Int))))) pa = some (.lst (JL (ord.take (1 + r)))):=by
      rw [zd,show (some (1 + (r:Int)):Option Int) = some ((1 + r:Nat):Int) by rw [Int.natCast_add];rfl,JZ,<- List.map_take];rfl
    have npb:pa ≠ b:=B2.nne hpa
    generalize upd H2 pa (.lst (qg (ord.map fun i:Nat=>V.int (i:Int)) none (some (1 + (r:Int))))) = H3 at s3 P3
    have S3:=(S1'.trans S2).trans (.of s3)
    have B3:BoxAt H3 b (n + 61):=(B2.same s3).mono (by omega)
    have od:(ord.take (1 + r)).Nodup:=(List.take_sublist _ _).nodup (op.nodup_iff.mpr List.nodup_range)
    have oi:∀ x ∈ ord.take (1 + r),x < J.ps.length:=fun x hx=>List.mem_range.mp (op.mem_iff.mp (List.mem_of_mem_take hx))
    have o1:1 <= (ord.take (1 + r)).length:=by rw [List.length_take,ol];omega
    have o6:(ord.take (1 + r)).length <= 6:=by rw [List.length_take];omega
    generalize ord.take (1 + r) = os at P3 od oi o1 o6
    clear pm op ol B1 B2 S1 S2 S1' s3 ho oN h0 hpa r0 r1
    have nl:(JL os).length = os.length:=List.length_map _
    have rj3:=Rep.keep (SameT.draw B0 S3) (qR J) rj
    obtain ⟨g',fs',ps',as',fv',px',qj',qf',lf',qp',lp'⟩:=qK rj3
    refine ⟨_,rfl,pa,rfl,⟨_,SqL.of P3⟩,wL (K:=K) (a:=pa) (xs:=JL os) (fun i zs H'=>Ex1 fun (qs:List (Nat × Nat))=>An5 (Reps K H' (qs.map qb) zs) (qs.map (·.1) = os.take i) ((∀ q ∈ qs,q.2 < J.fs.length)) (SameB b H3 H') (BoxAt H' b (n + 61 + i))) ⟨[],rfl,rfl,(fun q h=>nomatch h),SameB.refl _ _,B3.mono (by omega)⟩ (fun i zs H' ⟨_,_,_,_,s',_⟩=>SqL.of (s' _ _ P3 npb)) ?_ ?_⟩
    · rintro i x zs H4 hx ⟨qs,rz,ez,qa,S4,B4⟩
      unfold JL at hx
      rw [List.getElem?_map] at hx
      obtain ⟨o,eo,rfl⟩:=Option.map_eq_some_iff.mp hx
      have il:=(List.getElem?_eq_some_iff.mp eo).1
      have zl:=rz.len
      rw [List.length_map] at zl
      have ql:qs.length = (qs.map (·.1)).length:=(List.length_map _).symm
      rw [ez,List.length_take] at ql
      have st4:=SameT.draw B3 S4
      refine ⟨rfl,_,rfl,_,rfl,_,rfl,jp,_,_,_,rfl,rfl,qj'.keep st4,at2,fs',_,rfl,.inr (qf'.keep st4),b,_,_,rfl,B4,by omega,by rw [lf'];omega,by rw [lf'];omega,fun fe H5 f0 f1 B5 S5=>⟨le2,fun T hT=>⟨by omega,?_⟩⟩⟩
      obtain ⟨fe,rfl⟩:∃ m:Nat,fe = (m:Int):=⟨fe.toNat,by omega⟩
      rw [lf'] at f1
      refine ⟨qs ++ [(o,fe)],?_,by rw [List.map_append,ez,qW eo];rfl,fun q hq=>?_,(S4.trans S5).new hT,(B5.new hT).mono (by omega)⟩
      · rw [List.map_append]
        exact Reps.snoc (d:=qb (o,fe)) ⟨T,_,rfl,SqT.of zd,_,_,rfl,rfl,_,_,rfl,rfl,rfl⟩ (Reps.keep ((SameT.draw B4 S5).trans (.of (ze hT))) (qv qs) rz)
      · rcases List.mem_append.mp hq with z | z
        · exact qa q z
        · rw [List.mem_singleton.mp z];show fe < _;omega
    rintro zs H4 ⟨qs,rz,ez,qa,S4,B4⟩
    rw [nl] at ez B4
    rw [List.take_length] at ez
    have zl:=rz.len
    rw [List.length_map] at zl
    have ql:qs.length = os.length:=by rw [<- ez,List.length_map]
    refine ⟨by omega,fun D hD=>⟨D,zs,rfl,.inl ⟨SqL.of zd,fun pk hpk=>?_⟩⟩⟩
    have s5:=(ze (H:=H4) (o:=.lst zs) hD).trans (ze (o:=.tup zs) hpk)
    have RP:Rep K _ (.tup (qs.map qb)) (.ref pk):=⟨pk,zs,rfl,SqT.of (zd (H:=upd H4 D (.lst zs)) (a:=pk) (o:=.tup zs)),rz.same s5⟩
    generalize upd (upd H4 D (.lst zs)) pk (.tup zs) = H5 at s5 RP
    have B5:=B4.same s5
    have S35:=S4.trans (.of (b:=b) s5)
    have P5:=s5 _ _ (S4 _ _ P3 npb)
    refine ⟨_,rfl,_,rfl,_,rfl,b,pa,_,_,rfl,B5,by omega,npb,P5,by rw [nl];omega,fun o2 ys2 H6 S6 B6 no2 oN2 ho2 pm2=>⟨o2,_,rfl,.inl ⟨SqL.of ho2,fun pl hpl=>⟨le2,fun tr htr=>?_⟩⟩⟩⟩
    obtain ⟨ls,lpm,rfl⟩:=qY pm2 rfl
    have s7:=(ze (H:=H6) (o:=.tup (ls.map fun i:Nat=>V.int (i:Int))) hpl).trans (ze (o:=.tup [.ref pk,.ref pl]) htr)
    have RP7:=Rep.keep (d:=.tup (qs.map qb)) ((SameT.draw B5 S6).trans (.of s7)) (qv qs) RP
    rw [nl] at B6
    refine k tr qs ls _ (((S3.trans S35).trans S6).trans (.of s7)) ((B6.same s7).mono (by omega)) ⟨tr,_,rfl,SqT.of zd,_,_,rfl,RP7,_,_,rfl,⟨pl,_,rfl,SqT.of ((ze htr) _ _ zd),v0 ls⟩,rfl⟩ ⟨by omega,by omega,by rw [ez];exact od,fun q hq=>⟨oi _ (by rw [<- ez];exact List.mem_map.mpr ⟨q,hq,rfl⟩),qa q hq⟩,by rw [ez];exact lpm⟩
end
theorem vt:∀ {qs:List (Nat × Nat)},(∀ q ∈ qs,q.1 < 100 /\ q.2 < 100) -> Dat.gds 0 (qs.map qb) = true /\ Dat.blks (qs.map qb) <= 3 * qs.length /\ PyData.depthAll (Dat.pys (qs.map qb)) <= 1
  | [],_=>⟨rfl,Nat.zero_le _,Nat.zero_le _⟩
  | q :: qs,h=>by
    obtain ⟨a,b,c⟩:=vt (qs:=qs) fun x hx=>h x (List.mem_cons_of_mem _ hx)
    have hq:=h q List.mem_cons_self
    refine ⟨?_,?_,?_⟩
    · show ((decide (((q.1:Int)).natAbs <= _) && (decide (((q.2:Int)).natAbs <= _) && true)) && Dat.gds 0 (qs.map qb)) = true
      rw [a,decide_eq_true (by omega),decide_eq_true (by omega)];rfl
    · show (0 + 1 + (0 + 1 + 0)) + 1 + Dat.blks (qs.map qb) <= 3 * (qs.length + 1)
      omega
    · show max (max 0 (max 0 0) + 1) (PyData.depthAll (Dat.pys (qs.map qb))) <= 1
      omega
theorem wJ:∀ {ls:List Nat},(∀ q ∈ ls,q < 100) -> Dat.gds 0 (qr ls) = true /\ Dat.blks (qr ls) <= ls.length /\ PyData.depthAll (Dat.pys (qr ls)) <= 1
  | [],_=>⟨rfl,Nat.zero_le _,Nat.zero_le _⟩
  | q :: ls,h=>by
    obtain ⟨a,b,c⟩:=wJ (ls:=ls) fun x hx=>h x (List.mem_cons_of_mem _ hx)
    have hq:=h q List.mem_cons_self
    refine ⟨?_,?_,?_⟩
    · show (decide (((q:Int)).natAbs <= _) && Dat.gds 0 (qr ls)) = true
      rw [a,decide_eq_true (by omega)];rfl
    · show 0 + 1 + Dat.blks (qr ls) <= ls.length + 1
      omega
    · show max 0 (PyData.depthAll (Dat.pys (qr ls))) <= 1
      omega
section
variable {P:Program} {w:World} {K:PySem.W.Frag} {mg:Str -> Option Value} {base:Heap}
theorem SameT.out {H:Hp} {b:Addr} {n:Int} (B:BoxAt H b n):SameT H (WX [b] H):=fun a u e hu=>by
  refine WX.at (fun z=>?_) e
  obtain ⟨b0,b1,b2,eb,_⟩:=B
  rw [List.mem_singleton.mp z,eb] at e
  cases e
  exact hu _ rfl
theorem BoxAt.ex {H:Hp} {b:Addr} {n:Int} (B:BoxAt H b n):Ex H b [b]:=⟨List.mem_singleton.mpr rfl,fun e he=>by rw [List.mem_singleton.mp he];exact B.some⟩
theorem wx {H H':Hp} {b:Addr} (s:SameB b H H'):Same (WX [b] H) (WX [b] H'):=WX.draw (List.mem_singleton.mpr rfl) s
inductive ym (K:PySem.W.Frag) (vs:List V) (H:Hp) (Q:VK):Prop
  | mk (b jp tp:Addr) (n:Int) (J:Job) (qs:List (Nat × Nat)) (ls:List Nat) (_:vs = [.ref b,.ref jp,.ref tp]) (_:BoxAt H b n) (_:n < 600000) (_:Rep K H (wM J) (.ref jp)) (_:Rep K H (trD qs ls) (.ref tp)) (_:X3 J qs ls) (_:J.ps.length <= 60) (_:J.fs.length <= 60) (_:∀ v H',SameB b H H' -> BoxAt H' b (n + 3) -> DS K (WX [b] H') 0 120 4 v -> Q v H'):ym K vs H Q
def wD (K:PySem.W.Frag):Sp:=fun vs H Q _=>ym K vs H Q
theorem Jk:zG ["_law_box_here", "_law_job_here", "_law_trip", "_law_picks", "_law_lays", "_law_way", "_law_at"] ["_law_box_here", "_law_job_here", "_law_trip"] (zj (zn 33)):=⟨rfl,rfl,rfl,by decide +kernel,rfl,by decide +kernel,by decide +kernel⟩
theorem XH {f:Addr} {fd:FuncData} (F:Fun K "_law_near" "_law_near" (zn 33) f fd) (B:Blt mg) (D_take:Dfn P w K mg base "_law_take" 1 ["_law_box_here", "_law_size"] qz):FnOk P w K mg base CX0 2 f fd ["_law_box_here", "_law_job_here", "_law_trip"] (wD K):=by
  have nd:=Jk.nd
  refine F.ok Jk (fun vs H Q E h=>?_) (fun cdv A outer s H vs Q E hr h=>?_)
  · obtain ⟨b,jp,tp,n,J,qs,ls,rfl,_⟩:=h
    rfl
  · obtain ⟨b,jp,tp,n,J,qs,ls,rfl,B0,hn,rj,rt,tok,p60,f60,k⟩:=h
    have hbig:1000000 < sizeLine:=by rw [sizeLine_eq];decide
    have q100:∀ q ∈ qs,q.1 < 100 /\ q.2 < 100:=fun q hq=>by have:=tok.pi q hq;omega
    have l100:∀ q ∈ ls,q < 100:=fun q hq=>by
      obtain ⟨u,hu,rfl⟩:=List.mem_map.mp (tok.pm.mem_iff.mp hq)
      exact (q100 u hu).1
    have ll:ls.length = qs.length:=by rw [tok.pm.length_eq,List.length_map]
    have n1:=tok.n1
    have n6:=tok.n6
    have rt':=Rep.keep (d:=trD qs ls) (SameT.out B0) (by show (Dat.imms (qs.map qb) && (Dat.imms (qr ls) && true)) = true;rw [qv,xA];rfl) rt
    have rj':=Rep.keep (SameT.out B0) (qR J) rj
    obtain ⟨tp',xs,e0,qt,x0,r0,e1,⟨pk,ys,e2,qk,ry⟩,x1,r1,e3,⟨lk,zs,e4,ql,rz⟩,e5⟩:=rt'
    cases e0
    subst e1 e2 e3 e4
    cases (show r1 = [] from e5)
    have ly:=ry.len
    have lz:=rz.len
    rw [List.length_map] at ly
    rw [show (qr ls).length = ls.length from List.length_map _] at lz
    obtain ⟨gp1,gp2,gp3⟩:=vt q100
    obtain ⟨gl1,gl2,gl3⟩:=wJ l100
    refine ⟨_,(zg (jP (pv 2) (jz rfl (zX (zU (i:=3) nd rfl (Or.inl rfl)) (zX (zU (i:=4) nd rfl (Or.inl rfl)) qX))))
      (zg (vn (i:=5) (j:=6) rfl nd rfl rfl (by decide) rfl rfl (za (zf D_take (hr.mono (by first | decide | exact Nat.le_refl _ | omega)) rfl (za (pv 0) (za zc zb))) (za (zf D_take (hr.mono (by first | decide | exact Nat.le_refl _ | omega)) rfl (za (pv 0) (za (zi zq rfl B.len boot_len (za (pv 3) zb)) zb))) zb)) (by rfl))
      (zg (z9 (zE qe (pv 5) zc (zx _))
      (zk (zu (zw (za (zo qQ (pv 3) (zC xS (pv 3) (zD (pv 6)) (zD (zo zH (pv 6) zc)))) (za (zo qQ (pv 4) (zC xS (pv 4) (zD (pv 6)) (zD (zo zH (pv 6) zc)))) zb)))))
      zM)
      (zg (z9 (zE qe (pv 5) zc (zx _))
      (zk (zu (zw (za (pv 3) (za (zo qQ (zo qQ (zC xS (pv 4) zT (zD (pv 6))) (zw (za (zf D_take (hr.mono (by first | decide | exact Nat.le_refl _ | omega)) rfl (za (pv 0) (za (zi zq rfl B.len boot_len (za (zP qy (pv 1) zc (fun _ _=>rfl)) zb)) zb))) zb))) (zC xS (pv 4) (zD (zo zH (pv 6) zc)) zT)) zb)))))
      zM)
      (zg (z9 (zE qe (pv 5) zc (zx _))
      (zk (zu (zw (za (zo qQ (zo qQ (zC xS (pv 3) zT (zD (pv 6))) (zw (za (zw (za (zi zq rfl B.len boot_len (za (zP qy (pv 1) zc (fun _ _=>rfl)) zb)) (za zc zb))) zb))) (zC xS (pv 3) (zD (zo zH (pv 6) zc)) zT)) (za (pv 4) zb)))))
      zM)
      (zg (z9 (zE qe (pv 5) zc (zx _))
      (zk (zu (zw (za (zo qQ (zo qQ (zC xS (pv 3) zT (zD (pv 6))) (zw (za (zw (za (zP qy (zP VT (pv 3) (pv 6) (fun _ _=>rfl)) zc (fun _ _=>rfl)) (za (zi zq rfl B.len boot_len (za (zP qy (pv 1) zc (fun _ _=>rfl)) zb)) zb))) zb))) (zC xS (pv 3) (zD (zo zH (pv 6) zc)) zT)) (za (pv 4) zb)))))
      zM)
      (zk (zu (zw (za (zo qQ (zC xS (pv 3) zT (zD (pv 6))) (zC xS (pv 3) (zD (zo zH (pv 6) zc)) zT)) (za (zo qQ (zC xS (pv 4) zT (zD (pv 6))) (zC xS (pv 4) (zD (zo zH (pv 6) zc)) zT)) zb))))))))))),?_⟩
    refine ⟨_,rfl,tp,_,rfl,WX.le.sqT qt,rfl,_,_,rfl,_,_,rfl,rfl,?_⟩
    refine ⟨_,rfl,b,5,n,rfl,B0,by omega,by decide,by decide,fun way H1 w0 w1 B1 S1=>⟨_,rfl,_,rfl,pk,ys,rfl,.inr (WX.le.sqT ((wx S1).sqT qk)),b,_,n + 1,rfl,B1,by omega,by omega,by omega,fun q H2 q0 q1 B2 S2=>⟨_,_,rfl,?_⟩⟩⟩
    have S2':=S1.trans S2
    have GP:GL K (WX [b] H2) 0 18 1 ys:=⟨_,ry.same (wx S2'),gp1,by omega,gp3⟩
    have GZ:GL K (WX [b] H2) 0 6 1 zs:=⟨_,rz.same (wx S2'),gl1,by omega,gl3⟩
    have qk2:=(wx S2').sqT qk
    have ql2:=(wx S2').sqT ql
    have ry2:=ry.same (wx S2')
    obtain ⟨g,fs,ps,as,fv,px,qj,qf,lf,qp,lp⟩:=qK (rj'.same (wx S2'))
    have T2:Tkn H2 [b]:=B2.ex.al
    clear S1 S2 B1 rt rj rj' qt qk ql ry rz gp1 gp2 gp3 gl1 gl2 gl3
    have fin:∀ (p1 p2:Addr) (us vs:List V) (H3:Hp),SameB b H2 H3 -> BoxAt H3 b (n + 3) -> SqT K (WX [b] H3) p1 us -> SqT K (WX [b] H3) p2 vs -> GL K (WX [b] H3) 0 50 2 us -> GL K (WX [b] H3) 0 50 2 vs -> ∀ T,H3 T = none -> Q (.ref T) (upd H3 T (.tup [.ref p1,.ref p2])):=fun p1 p2 us vs H3 s3 B3 a1 a2 g1 g2 T hT=>by
      have d1:=(g1.tup a1).up (wx (SameB.of (b:=b) (ze (o:=.tup [.ref p1,.ref p2]) hT))) (Nat.le_refl _) (Nat.le_refl _) (Nat.le_refl _)
      have d2:=(g2.tup a2).up (wx (SameB.of (b:=b) (ze (o:=.tup [.ref p1,.ref p2]) hT))) (Nat.le_refl _) (Nat.le_refl _) (Nat.le_refl _)
      have gg:=(GL.one d1).app (GL.one d2)
      exact k _ _ ((S2'.trans s3).new hT) (B3.new hT) ((gg.tup (SqT.of (WX.at (B3.ex.out hT) zd))).up (Same.refl _) (Nat.le_refl _) (by decide) (Nat.le_refl _))
    have B2':=B2.mono (m:=n + 3) (by omega)
    have lcut:∀ (vs:List V) lo hi,(qg vs lo hi).length <= vs.length:=jm
    refine ⟨_,rfl,rfl,_,rfl,zW (fun c0=>?_) (fun c0=>⟨_,rfl,rfl,_,rfl,zW (fun c1=>?_) (fun c1=>⟨_,rfl,rfl,_,rfl,zW (fun c2=>?_) (fun c2=>⟨_,rfl,rfl,_,rfl,zW (fun c3=>?_) (fun c3=>?_)⟩)⟩)⟩)⟩
    · refine ⟨_,rfl,_,rfl,_,rfl,_,rfl,_,rfl,_,_,rfl,rfl,_,rfl,true,pk,ys,[b],rfl,T2,qk2,fun c H3 s3 hc=>?_⟩
      have l1:=lcut ys (some q) (some (q + 1))
      refine ⟨true,pk,c,ys,_,[b],rfl,rfl,BoxAt.ex (B2.same s3) |>.al,(wx (SameB.of (b:=b) s3)).sqT qk2,hc,by omega,fun c' H4 s4 hc'=>?_⟩
      have t4:=s3.trans s4
      refine ⟨_,rfl,_,rfl,_,rfl,_,rfl,_,rfl,_,_,rfl,rfl,_,rfl,true,lk,zs,[b],rfl,(B2.same t4).ex.al,(wx (SameB.of (b:=b) t4)).sqT ql2,fun c5 H5 s5 hc5=>?_⟩
      have l2:=lcut zs (some q) (some (q + 1))
      have t5:=t4.trans s5
      refine ⟨true,lk,c5,zs,_,[b],rfl,rfl,(B2.same t5).ex.al,(wx (SameB.of (b:=b) t5)).sqT ql2,hc5,by omega,fun c6 H6 s6 hc6=>⟨le2,?_⟩⟩
      have t6:=t5.trans s6
      have w6:=wx (SameB.of (b:=b) t6)
      have gp:=GP.up w6 (Nat.le_refl _) (Nat.le_refl _) (by decide:1 <= 2)
      have gz:=GZ.up w6 (Nat.le_refl _) (Nat.le_refl _) (by decide:1 <= 2)
      exact fin c' c6 _ _ H6 (SameB.of t6) (B2'.same t6) ((wx (SameB.of (b:=b) (s5.trans s6))).sqT hc') hc6 ((gp.app (gp.cut _ _)).up (Same.refl _) (Nat.le_refl _) (by decide) (Nat.le_refl _)) ((gz.app (gz.cut _ _)).up (Same.refl _) (Nat.le_refl _) (by decide) (Nat.le_refl _))
    · refine ⟨_,rfl,_,rfl,_,rfl,_,rfl,true,lk,zs,[b],rfl,T2,ql2,fun c H3 s3 hc=>?_⟩
      have w3:=wx (SameB.of (b:=b) s3)
      refine ⟨_,rfl,_,rfl,jp,_,_,_,rfl,rfl,WX.le.sqT (w3.sqT qj),at3,ps,_,rfl,.inr (WX.le.sqT (w3.sqT qp)),b,_,_,rfl,B2.same s3,by omega,by rw [lp];have:=tok.pi;obtain ⟨u,hu⟩:=List.exists_mem_of_length_pos (l:=qs) (by omega);have:=(tok.pi u hu).1;omega,by rw [lp];omega,fun r H4 r0 r1 B4 S4=>⟨le1,fun T hT=>?_⟩⟩
      rw [lp] at r1
      have S5:=((SameB.of (b:=b) s3).trans S4).new (o:=.tup [.int r]) hT
      have B5:=B4.new (o:=.tup [.int r]) hT
      have hc5:=(wx (S4.new (o:=.tup [.int r]) hT)).sqT hc
      have hT5:SqT K (WX [b] (upd H4 T (.tup [.int r]))) T [.int r]:=SqT.of (WX.at (B4.ex.out hT) zd)
      generalize upd H4 T (.tup [.int r]) = H5 at S5 B5 hc5 hT5
      have l1:=lcut zs none (some q)
      have l2:=lcut zs (some (q + 1)) none
      refine ⟨true,c,T,_,_,[b],rfl,rfl,B5.ex.al,hc5,hT5,by show _ + 1 <= _;omega,fun c6 H6 s6 hc6=>?_⟩
      have S6:=S5.trans (.of s6)
      refine ⟨_,rfl,_,rfl,_,_,rfl,rfl,_,rfl,true,lk,zs,[b],rfl,(B5.same s6).ex.al,(wx S6).sqT ql2,fun c7 H7 s7 hc7=>?_⟩
      have S7:=S6.trans (.of s7)
      refine ⟨true,c6,c7,_,_,[b],rfl,rfl,(B5.same (s6.trans s7)).ex.al,(wx (SameB.of (b:=b) s7)).sqT hc6,hc7,by rw [List.length_append];show _ + 1 + _ <= _;omega,fun c8 H8 s8 hc8=>⟨le2,?_⟩⟩
      have S8:=S7.trans (.of s8)
      have gz:=GZ.up (wx S8) (Nat.le_refl _) (Nat.le_refl _) (by decide:1 <= 2)
      exact fin pk c8 _ _ H8 S8 ((B5.same (s6.trans (s7.trans s8))).mono (by omega)) ((wx S8).sqT qk2) hc8 (GP.up (wx S8) (Nat.le_refl _) (by decide) (by decide)) ((((gz.cut _ _).app (GL.one (z:=0) (DS.int (by omega)))).app (gz.cut _ _)).up (Same.refl _) (Nat.le_refl _) (by decide) (Nat.le_refl _))
    · refine ⟨_,rfl,_,rfl,_,rfl,true,pk,ys,[b],rfl,T2,qk2,fun c H3 s3 hc=>?_⟩
      have w3:=wx (SameB.of (b:=b) s3)
      refine ⟨_,rfl,jp,_,_,_,rfl,rfl,WX.le.sqT (w3.sqT qj),at3,ps,_,rfl,.inr (WX.le.sqT (w3.sqT qp)),le2,fun T hT=>?_⟩
      rw [lp]
      have s4:=ze (H:=H3) (o:=.tup [.int (J.ps.length:Int),.int 0]) hT
      have f4:SqT K (WX [b] (upd H3 T (.tup [.int (J.ps.length:Int),.int 0]))) T [.int (J.ps.length:Int),.int 0]:=SqT.of (WX.at ((B2.same s3).ex.out hT) zd)
      generalize upd H3 T (.tup [.int (J.ps.length:Int),.int 0]) = H4 at s4 f4
      refine ⟨le1,fun T2 hT2=>?_⟩
      have s5:=ze (H:=H4) (o:=.tup [.ref T]) hT2
      have f5:SqT K (WX [b] (upd H4 T2 (.tup [.ref T]))) T2 [.ref T]:=SqT.of (WX.at ((B2.same (s3.trans s4)).ex.out hT2) zd)
      generalize upd H4 T2 (.tup [.ref T]) = H5 at s5 f5
      have dT:DS K (WX [b] H5) 0 6 2 (.ref T):=(DS.tup (z:=2) (D:=1) ((wx (SameB.of (b:=b) s5)).sqT f4) (fm (DS.int (by omega)) (fm (DS.int (by decide)) fm0)) (by show 3 * 2 <= 6;decide))
      have t5:=s3.trans (s4.trans s5)
      have hc5:=(wx (SameB.of (b:=b) (s4.trans s5))).sqT hc
      have l1:=lcut ys none (some q)
      have l2:=lcut ys (some (q + 1)) none
      refine ⟨true,c,T2,_,_,[b],rfl,rfl,(B2.same t5).ex.al,hc5,f5,by show _ + 1 <= _;omega,fun c6 H6 s6 hc6=>?_⟩
      have t6:=t5.trans s6
      refine ⟨_,rfl,_,rfl,_,_,rfl,rfl,_,rfl,true,pk,ys,[b],rfl,(B2.same t6).ex.al,(wx (SameB.of (b:=b) t6)).sqT qk2,fun c7 H7 s7 hc7=>?_⟩
      have t7:=t6.trans s7
      refine ⟨true,c6,c7,_,_,[b],rfl,rfl,(B2.same t7).ex.al,(wx (SameB.of (b:=b) s7)).sqT hc6,hc7,by rw [List.length_append];show _ + 1 + _ <= _;omega,fun c8 H8 s8 hc8=>⟨_,rfl,le2,?_⟩⟩
      have t8:=t7.trans s8
      have w8:=wx (SameB.of (b:=b) t8)
      have gp:=GP.up w8 (Nat.le_refl _) (Nat.le_refl _) (by decide:1 <= 2)
      exact fin c8 lk _ _ H8 (SameB.of t8) (B2'.same t8) hc8 (w8.sqT ql2) ((((gp.cut _ _).app (GL.one (dT.up (wx (SameB.of (b:=b) (s6.trans (s7.trans s8)))) (Nat.le_refl _) (Nat.le_refl _) (Nat.le_refl _)))).app (gp.cut _ _)).up (Same.refl _) (Nat.le_refl _) (by decide) (Nat.le_refl _)) (GZ.up w8 (Nat.le_refl _) (by decide) (by decide))
    · refine ⟨_,rfl,_,rfl,_,rfl,true,pk,ys,[b],rfl,T2,qk2,fun c H3 s3 hc=>?_⟩
      have w3:=wx (SameB.of (b:=b) s3)
      obtain ⟨x,ex1,ex2⟩:=xh (xs:=ys) q0 q1
      obtain ⟨d,ed,rd⟩:=(ry2.same w3).get ex2
      rw [List.getElem?_map] at ed
      obtain ⟨⟨o,fe⟩,eq,rfl⟩:=Option.map_eq_some_iff.mp ed
      have o100:=q100 _ (List.mem_of_getElem? eq)
      dsimp only at o100
      obtain ⟨u,vs,rfl,qu,x0,r0,e0,h0,x1,r1,e1,h1,e2⟩:=rd
      subst e0 e1
      cases (show r1 = [] from e2)
      cases (show x0 = _ from h0)
      refine ⟨_,rfl,_,rfl,.inr (.inl ⟨pk,ys,_,_,rfl,rfl,WX.le.sqT (w3.sqT qk2),ex1,u,_,_,_,rfl,rfl,WX.le.sqT qu,rfl,_,rfl,jp,_,_,_,rfl,rfl,WX.le.sqT (w3.sqT qj),at2,fs,_,rfl,.inr (WX.le.sqT (w3.sqT qf)),le2,fun T hT=>?_⟩)⟩
      rw [lf]
      have s4:=ze (H:=H3) (o:=.tup [.int (o:Int),.int (J.fs.length:Int)]) hT
      have f4:SqT K (WX [b] (upd H3 T (.tup [.int (o:Int),.int (J.fs.length:Int)]))) T [.int (o:Int),.int (J.fs.length:Int)]:=SqT.of (WX.at ((B2.same s3).ex.out hT) zd)
      generalize upd H3 T (.tup [.int (o:Int),.int (J.fs.length:Int)]) = H4 at s4 f4
      refine ⟨le1,fun T2 hT2=>?_⟩
      have s5:=ze (H:=H4) (o:=.tup [.ref T]) hT2
      have f5:SqT K (WX [b] (upd H4 T2 (.tup [.ref T]))) T2 [.ref T]:=SqT.of (WX.at ((B2.same (s3.trans s4)).ex.out hT2) zd)
      generalize upd H4 T2 (.tup [.ref T]) = H5 at s5 f5
      have dT:DS K (WX [b] H5) 0 6 2 (.ref T):=(DS.tup (z:=2) (D:=1) ((wx (SameB.of (b:=b) s5)).sqT f4) (fm (DS.int (by omega)) (fm (DS.int (by omega)) fm0)) (by show 3 * 2 <= 6;decide))
      have t5:=s3.trans (s4.trans s5)
      have hc5:=(wx (SameB.of (b:=b) (s4.trans s5))).sqT hc
      have l1:=lcut ys none (some q)
      have l2:=lcut ys (some (q + 1)) none
      refine ⟨true,c,T2,_,_,[b],rfl,rfl,(B2.same t5).ex.al,hc5,f5,by show _ + 1 <= _;omega,fun c6 H6 s6 hc6=>?_⟩
      have t6:=t5.trans s6
      refine ⟨_,rfl,_,rfl,_,_,rfl,rfl,_,rfl,true,pk,ys,[b],rfl,(B2.same t6).ex.al,(wx (SameB.of (b:=b) t6)).sqT qk2,fun c7 H7 s7 hc7=>?_⟩
      have t7:=t6.trans s7
      refine ⟨true,c6,c7,_,_,[b],rfl,rfl,(B2.same t7).ex.al,(wx (SameB.of (b:=b) s7)).sqT hc6,hc7,by rw [List.length_append];show _ + 1 + _ <= _;omega,fun c8 H8 s8 hc8=>⟨_,rfl,le2,?_⟩⟩
      have t8:=t7.trans s8
      have w8:=wx (SameB.of (b:=b) t8)
      have gp:=GP.up w8 (Nat.le_refl _) (Nat.le_refl _) (by decide:1 <= 2)
      exact fin c8 lk _ _ H8 (SameB.of t8) (B2'.same t8) hc8 (w8.sqT ql2) ((((gp.cut _ _).app (GL.one (dT.up (wx (SameB.of (b:=b) (s6.trans (s7.trans s8)))) (Nat.le_refl _) (Nat.le_refl _) (Nat.le_refl _)))).app (gp.cut _ _)).up (Same.refl _) (Nat.le_refl _) (by decide) (Nat.le_refl _)) (GZ.up w8 (Nat.le_refl _) (by decide) (by decide))
    · refine ⟨_,rfl,_,rfl,_,rfl,true,pk,ys,[b],rfl,T2,qk2,fun c H3 s3 hc=>?_⟩
      refine ⟨_,rfl,_,rfl,_,_,rfl,rfl,_,rfl,true,pk,ys,[b],rfl,(B2.same s3).ex.al,(wx (SameB.of (b:=b) s3)).sqT qk2,fun c4 H4 s4 hc4=>?_⟩
      have t4:=s3.trans s4
      have l1:=lcut ys none (some q)
      have l2:=lcut ys (some (q + 1)) none
      refine ⟨true,c,c4,_,_,[b],rfl,rfl,(B2.same t4).ex.al,(wx (SameB.of (b:=b) s4)).sqT hc,hc4,by omega,fun c5 H5 s5 hc5=>?_⟩
      have t5:=t4.trans s5
      refine ⟨_,rfl,_,rfl,_,rfl,true,lk,zs,[b],rfl,(B2.same t5).ex.al,(wx (SameB.of (b:=b) t5)).sqT ql2,fun c6 H6 s6 hc6=>?_⟩
      have t6:=t5.trans s6
      refine ⟨_,rfl,_,rfl,_,_,rfl,rfl,_,rfl,true,lk,zs,[b],rfl,(B2.same t6).ex.al,(wx (SameB.of (b:=b) t6)).sqT ql2,fun c7 H7 s7 hc7=>?_⟩
      have t7:=t6.trans s7
      have l3:=lcut zs none (some q)
      have l4:=lcut zs (some (q + 1)) none
      refine ⟨true,c6,c7,_,_,[b],rfl,rfl,(B2.same t7).ex.al,(wx (SameB.of (b:=b) s7)).sqT hc6,hc7,by omega,fun c8 H8 s8 hc8=>⟨le2,?_⟩⟩
      have t8:=t7.trans s8
      have w8:=wx (SameB.of (b:=b) t8)
      have gp:=GP.up w8 (Nat.le_refl _) (Nat.le_refl _) (by decide:1 <= 2)
      have gz:=GZ.up w8 (Nat.le_refl _) (Nat.le_refl _) (by decide:1 <= 2)
      exact fin c5 c8 _ _ H8 (SameB.of t8) (B2'.same t8) ((wx (SameB.of (b:=b) (s6.trans (s7.trans s8)))).sqT hc5) hc8 (((gp.cut _ _).app (gp.cut _ _)).up (Same.refl _) (Nat.le_refl _) (by decide) (Nat.le_refl _)) (((gz.cut _ _).app (gz.cut _ _)).up (Same.refl _) (Nat.le_refl _) (by decide) (Nat.le_refl _))
end
section
variable {P:Program} {w:World} {K:PySem.W.Frag} {mg:Str -> Option Value} {base:Heap}
theorem ZL:zG ["_law_box_here", "_law_job_here", "_law_turn", "_law_trip", "_law_more", "_law_thing", "_law_kept", "_law_some"] ["_law_box_here"] (zj (zn 34)):=⟨rfl,rfl,rfl,by decide +kernel,rfl,by decide +kernel,by decide +kernel⟩
inductive vT (vs:List V) (H:Hp) (Q:VK):Prop
  | mk (b:Addr) (n:Int) (_:vs = [.ref b]) (_:BoxAt H b n) (_:n < 1000) (_:∀ H',SameB b H H' -> Q (.bl true) H'):vT  vs H Q
def wB:Sp:=fun vs H Q _=>vT  vs H Q
def Vt {f:Addr} {cdv:Value} {A:Around} {outer:List Env} {s:Shared} {H:Hp} {E:XK} (B:Blt mg) (D_take:Dfn P w K mg base "_law_take" 1 ["_law_box_here", "_law_size"] qz) (D_job:Dfn P w K mg base "_law_job" 4 ["_law_box_here", "_law_few", "_law_most", "_law_plenty"] (ZF K)) (D_same:Dfn P w K mg base "_law_same" 1 ["_law_found", "_law_due"] (spS K 1)) (D_is_trip:Dfn P w K mg base "_law_is_trip" 2 ["_law_job_here", "_law_thing"] (jN K)) (Dis_trip:Dfn P w K mg base "is_trip" 5 ["job", "thing"] (jN K)) (D_any_trip:Dfn P w K mg base "_law_any_trip" 3 ["_law_box_here", "_law_job_here"] (ZI K)) (D_near:Dfn P w K mg base "_law_near" 2 ["_law_box_here", "_law_job_here", "_law_trip"] (wD K)) (D_bent:Dfn P w K mg base "_law_bent" 8 ["_law_box_here", "_law_thing", "_law_deep"] (vf K 5))
    (nd:(["_law_box_here", "_law_job_here", "_law_turn", "_law_trip", "_law_more", "_law_thing", "_law_kept", "_law_some"]:List Str).Nodup) (hr:Room 8 (A.deeper (envOfC "_law_right" (zj (zn 34)) s.heap.objs.size f cdv))) (hu:(A.deeper (envOfC "_law_right" (zj (zn 34)) s.heap.objs.size f cdv)).units < cLine) (hu64:(A.deeper (envOfC "_law_right" (zj (zn 34)) s.heap.objs.size f cdv)).units + 64 < cLine) (hg:(A.deeper (envOfC "_law_right" (zj (zn 34)) s.heap.objs.size f cdv)).guards = some []) :
    { t:TS // PSs (Zq CX0 P w K mg base ["_law_box_here", "_law_job_here", "_law_turn", "_law_trip", "_law_more", "_law_thing", "_law_kept", "_law_some"] "_law_right" (zj (zn 34)) f cdv A outer s H E).nox (zA (zn 34)) t }:=
  ⟨_,(@zg _ _ _ _ _ (@zy _ _ 1 _ _ _ _ nd rfl (Or.inr rfl) (@zf _ _ _ _ _ _ _ _ _ _ D_job (hr.mono (by first | decide | exact Nat.le_refl _ | omega)) rfl (@za _ _ _ _ _ (@pv _ 0 _ _ (by rfl) (by first | exact Or.inl rfl | exact Or.inr (Or.inl rfl) | exact Or.inr (Or.inr rfl)) (by decide) (by decide)) (@za _ _ _ _ _ zc (@za _ _ _ _ _ zc (@za _ _ _ _ _ qD zb (by rfl)) (by rfl)) (by rfl)) (by rfl)) (by decide) (by rfl) (by rfl)) (by rfl) (by first | exact .inl rfl | exact .inr rfl | assumption)) (@zg _ _ _ _ _ (@z9 _ _ _ _ _ _ _ _ (@zE _ _ _ _ _ _ _ _ (Xy hu) (@zP _ _ _ _ _ _ _ qy (@pv _ 1 _ _ (by rfl) (by first | exact Or.inl rfl | exact Or.inr (Or.inl rfl) | exact Or.inr (Or.inr rfl)) (by decide) (by decide)) zc (fun _ _=>rfl)) (@zw _ _ _ _ _ zb) (zx _)) (@zk _ _ _ (@zu _ _ _ _ (@qH _ _ _ _ _ _ _ (@qc _ _ _ _ _ _ _ _ JA (@zf _ _ _ _ _ _ _ _ _ _ Dis_trip (hr.mono (by first | decide | exact Nat.le_refl _ | omega)) rfl (@za _ _ _ _ _ (@pv _ 1 _ _ (by rfl) (by first | exact Or.inl rfl | exact Or.inr (Or.inl rfl) | exact Or.inr (Or.inr rfl)) (by decide) (by decide)) (@za _ _ _ _ _ (@zw _ _ _ _ _ (@za _ _ _ _ _ (@zw _ _ _ _ _ (@za _ _ _ _ _ (@zw _ _ _ _ _ (@za _ _ _ _ _ zc (@za _ _ _ _ _ zc zb (by rfl)) (by rfl))) zb (by rfl))) (@za _ _ _ _ _ (@zw _ _ _ _ _ (@za _ _ _ _ _ zc zb (by rfl))) zb (by rfl)) (by rfl))) zb (by rfl)) (by rfl)) (by decide) (by rfl) (by rfl)) qD (zx _)) (@qS _ _ _ _ _ (@qc _ _ _ _ _ _ _ _ JA (@zf _ _ _ _ _ _ _ _ _ _ Dis_trip (hr.mono (by first | decide | exact Nat.le_refl _ | omega)) rfl (@za _ _ _ _ _ (@pv _ 1 _ _ (by rfl) (by first | exact Or.inl rfl | exact Or.inr (Or.inl rfl) | exact Or.inr (Or.inr rfl)) (by decide) (by decide)) (@za _ _ _ _ _ (@zw _ _ _ _ _ (@za _ _ _ _ _ (@zw _ _ _ _ _ zb) (@za _ _ _ _ _ (@zw _ _ _ _ _ zb) zb (by rfl)) (by rfl))) zb (by rfl)) (by rfl)) (by decide) (by rfl) (by rfl)) qD (zx _)))))) zM) (@zg _ _ _ _ _ (@qM _ _ _ _ _ _ _ _ PassesOwn.never rfl (@qm _ _ _ _ _ _ rfl B.range (@za _ _ _ _ _ zc zb (by rfl)) (by rfl)) (@zU _ _ 2 _ nd rfl (Or.inl rfl) (by first | exact .inl rfl | exact .inr rfl | assumption)) (@zg _ _ _ _ _ (@zy _ _ 3 _ _ _ _ nd rfl (Or.inl rfl) (@zf _ _ _ _ _ _ _ _ _ _ D_any_trip (hr.mono (by first | decide | exact Nat.le_refl _ | omega)) rfl (@za _ _ _ _ _ (@pv _ 0 _ _ (by rfl) (by first | exact Or.inl rfl | exact Or.inr (Or.inl rfl) | exact Or.inr (Or.inr rfl)) (by decide) (by decide)) (@za _ _ _ _ _ (@pv _ 1 _ _ (by rfl) (by first | exact Or.inl rfl | exact Or.inr (Or.inl rfl) | exact Or.inr (Or.inr rfl)) (by decide) (by decide)) zb (by rfl)) (by rfl)) (by decide) (by rfl) (by rfl)) (by rfl) (by first | exact .inl rfl | exact .inr rfl | assumption)) (@zg _ _ _ _ _ (@z9 _ _ _ _ _ _ _ _ (@qC _ _ _ _ (@z7 _ _ _ (@zf _ _ _ _ _ _ _ _ _ _ D_same (hr.mono (by first | decide | exact Nat.le_refl _ | omega)) rfl (@za _ _ _ _ _ (@zf _ _ _ _ _ _ _ _ _ _ Dis_trip (hr.mono (by first | decide | exact Nat.le_refl _ | omega)) rfl (@za _ _ _ _ _ (@pv _ 1 _ _ (by rfl) (by first | exact Or.inl rfl | exact Or.inr (Or.inl rfl) | exact Or.inr (Or.inr rfl)) (by decide) (by decide)) (@za _ _ _ _ _ (@pv _ 3 _ _ (by rfl) (by first | exact Or.inl rfl | exact Or.inr (Or.inl rfl) | exact Or.inr (Or.inr rfl)) (by decide) (by decide)) zb (by rfl)) (by rfl)) (by decide) (by rfl) (by rfl)) (@za _ _ _ _ _ (@qc _ _ _ _ _ _ _ _ vY (@zi _ _ _ _ _ _ _ _ _ zq rfl B.len boot_len (@za _ _ _ _ _ (@zP _ _ _ _ _ _ _ qy (@pv _ 3 _ _ (by rfl) (by first | exact Or.inl rfl | exact Or.inr (Or.inl rfl) | exact Or.inr (Or.inr rfl)) (by decide) (by decide)) zc (fun _ _=>rfl)) zb (by rfl)) (by decide) (by decide) (by rfl) (by rfl)) (@zP _ _ _ _ _ _ _ qy (@pv _ 1 _ _ (by rfl) (by first | exact Or.inl rfl | exact Or.inr (Or.inl rfl) | exact Or.inr (Or.inr rfl)) (by decide) (by decide)) zc (fun _ _=>rfl)) (zx _)) zb (by rfl)) (by rfl)) (by decide) (by rfl) (by rfl)) (by intro _ ;rfl))) (@zk _ _ _ (@zu _ _ _ _ qD)) zM) (@zk _ _ _ (@qM _ _ _ _ _ _ _ _ PassesOwn.never rfl (@qm _ _ _ _ _ _ rfl B.range (@za _ _ _ _ _ zc zb (by rfl)) (by rfl)) (@zU _ _ 4 _ nd rfl (Or.inl rfl) (by first | exact .inl rfl | exact .inr rfl | assumption)) (@zg _ _ _ _ _ (@jx _ _ _ (@zy _ _ 5 _ _ _ _ nd rfl (Or.inl rfl) (@qo _ _ _ _ _ _ _ _ (@zE _ _ _ _ _ _ _ _ qe (@zf _ _ _ _ _ _ _ _ _ _ D_take (hr.mono (by first | decide | exact Nat.le_refl _ | omega)) rfl (@za _ _ _ _ _ (@pv _ 0 _ _ (by rfl) (by first | exact Or.inl rfl | exact Or.inr (Or.inl rfl) | exact Or.inr (Or.inr rfl)) (by decide) (by decide)) (@za _ _ _ _ _ zc zb (by rfl)) (by rfl)) (by decide) (by rfl) (by rfl)) zc (zx _)) (@zf _ _ _ _ _ _ _ _ _ _ D_near (hr.mono (by first | decide | exact Nat.le_refl _ | omega)) rfl (@za _ _ _ _ _ (@pv _ 0 _ _ (by rfl) (by first | exact Or.inl rfl | exact Or.inr (Or.inl rfl) | exact Or.inr (Or.inr rfl)) (by decide) (by decide)) (@za _ _ _ _ _ (@pv _ 1 _ _ (by rfl) (by first | exact Or.inl rfl | exact Or.inr (Or.inl rfl) | exact Or.inr (Or.inr rfl)) (by decide) (by decide)) (@za _ _ _ _ _ (@pv _ 3 _ _ (by rfl) (by first | exact Or.inl rfl | exact Or.inr (Or.inl rfl) | exact Or.inr (Or.inr rfl)) (by decide) (by decide)) zb (by rfl)) (by rfl)) (by rfl)) (by decide) (by rfl) (by rfl)) (@zf _ _ _ _ _ _ _ _ _ _ D_bent (hr.mono (by first | decide | exact Nat.le_refl _ | omega)) rfl (@za _ _ _ _ _ (@pv _ 0 _ _ (by rfl) (by first | exact Or.inl rfl | exact Or.inr (Or.inl rfl) | exact Or.inr (Or.inr rfl)) (by decide) (by decide)) (@za _ _ _ _ _ (@pv _ 3 _ _ (by rfl) (by first | exact Or.inl rfl | exact Or.inr (Or.inl rfl) | exact Or.inr (Or.inr rfl)) (by decide) (by decide)) (@za _ _ _ _ _ zc zb (by rfl)) (by rfl)) (by rfl)) (by decide) (by rfl) (by rfl))) (by rfl) (by first | exact .inl rfl | exact .inr rfl | assumption))) (@zg _ _ _ _ _ (@jx _ _ _ (@zy _ _ 5 _ _ _ _ nd rfl (Or.inl rfl) (@qo _ _ _ _ _ _ _ _ (@zE _ _ _ _ _ _ _ _ qe (@zf _ _ _ _ _ _ _ _ _ _ D_take (hr.mono (by first | decide | exact Nat.le_refl _ | omega)) rfl (@za _ _ _ _ _ (@pv _ 0 _ _ (by rfl) (by first | exact Or.inl rfl | exact Or.inr (Or.inl rfl) | exact Or.inr (Or.inr rfl)) (by decide) (by decide)) (@za _ _ _ _ _ zc zb (by rfl)) (by rfl)) (by decide) (by rfl) (by rfl)) zc (zx _)) (@zf _ _ _ _ _ _ _ _ _ _ D_bent (hr.mono (by first | decide | exact Nat.le_refl _ | omega)) rfl (@za _ _ _ _ _ (@pv _ 0 _ _ (by rfl) (by first | exact Or.inl rfl | exact Or.inr (Or.inl rfl) | exact Or.inr (Or.inr rfl)) (by decide) (by decide)) (@za _ _ _ _ _ (@pv _ 5 _ _ (by rfl) (by first | exact Or.inl rfl | exact Or.inr (Or.inl rfl) | exact Or.inr (Or.inr rfl)) (by decide) (by decide)) (@za _ _ _ _ _ zc zb (by rfl)) (by rfl)) (by rfl)) (by decide) (by rfl) (by rfl)) (@pv _ 5 _ _ (by rfl) (by first | exact Or.inl rfl | exact Or.inr (Or.inl rfl) | exact Or.inr (Or.inr rfl)) (by decide) (by decide))) (by rfl) (by first | exact .inl rfl | exact .inr rfl | assumption))) (@zg _ _ _ _ _ (@zy _ _ 6 _ _ _ _ nd rfl (Or.inl rfl) (@zV _ _ _ _ _ _ _ _ _ (wf hg hu64) rfl B.str jh (@za _ _ _ _ _ (@pv _ 5 _ _ (by rfl) (by first | exact Or.inl rfl | exact Or.inr (Or.inl rfl) | exact Or.inr (Or.inr rfl)) (by decide) (by decide)) zb (by rfl)) (by decide) (by decide) (by rfl) (by rfl)) (by rfl) (by first | exact .inl rfl | exact .inr rfl | assumption)) (@zk _ _ _ (@z9 _ _ _ _ _ _ _ _ (@PW.pt _ _ _ (@jr _ _ _ _ _ _ _ (@qC _ _ _ _ (@z7 _ _ _ (@zf _ _ _ _ _ _ _ _ _ _ D_same (hr.mono (by first | decide | exact Nat.le_refl _ | omega)) rfl (@za _ _ _ _ _ (@zf _ _ _ _ _ _ _ _ _ _ Dis_trip (hr.mono (by first | decide | exact Nat.le_refl _ | omega)) rfl (@za _ _ _ _ _ (@pv _ 1 _ _ (by rfl) (by first | exact Or.inl rfl | exact Or.inr (Or.inl rfl) | exact Or.inr (Or.inr rfl)) (by decide) (by decide)) (@za _ _ _ _ _ (@pv _ 5 _ _ (by rfl) (by first | exact Or.inl rfl | exact Or.inr (Or.inl rfl) | exact Or.inr (Or.inr rfl)) (by decide) (by decide)) zb (by rfl)) (by rfl)) (by decide) (by rfl) (by rfl)) (@za _ _ _ _ _ (@zf _ _ _ _ _ _ _ _ _ _ D_is_trip (hr.mono (by first | decide | exact Nat.le_refl _ | omega)) rfl (@za _ _ _ _ _ (@pv _ 1 _ _ (by rfl) (by first | exact Or.inl rfl | exact Or.inr (Or.inl rfl) | exact Or.inr (Or.inr rfl)) (by decide) (by decide)) (@za _ _ _ _ _ (@pv _ 5 _ _ (by rfl) (by first | exact Or.inl rfl | exact Or.inr (Or.inl rfl) | exact Or.inr (Or.inr rfl)) (by decide) (by decide)) zb (by rfl)) (by rfl)) (by decide) (by rfl) (by rfl)) zb (by rfl)) (by rfl)) (by decide) (by rfl) (by rfl)) (by intro _ ;rfl))) (@jw _ _ _ _ (@zE _ _ _ _ _ _ _ _ yy (@zV _ _ _ _ _ _ _ _ _ (wf hg hu64) rfl B.str jh (@za _ _ _ _ _ (@pv _ 5 _ _ (by rfl) (by first | exact Or.inl rfl | exact Or.inr (Or.inl rfl) | exact Or.inr (Or.inr rfl)) (by decide) (by decide)) zb (by rfl)) (by decide) (by decide) (by rfl) (by rfl)) (@pv _ 6 _ _ (by rfl) (by first | exact Or.inl rfl | exact Or.inr (Or.inl rfl) | exact Or.inr (Or.inr rfl)) (by decide) (by decide)) (zx _))))) (@zk _ _ _ (@zu _ _ _ _ qD)) zM))))) (by intro _ ;rfl))))) (by intro _ ;rfl)) (@zg _ _ _ _ _ (@zy _ _ 7 _ _ _ _ nd rfl (Or.inl rfl) (@zZ _ _ _ _ (@WO _ _ _ _ _ _ _ _ _ _ _ _ _ _ _ _ _ _ _ _ _ vp zc jA (@zw _ _ _ _ _ zb) (@zZ _ _ _ _ zb) (@zw _ _ _ _ _ (@za _ _ _ _ _ (@zw _ _ _ _ _ zb) (@za _ _ _ _ _ (@zw _ _ _ _ _ zb) zb (by rfl)) (by rfl))) (@zZ _ _ _ _ (@za _ _ _ _ _ (@zw _ _ _ _ _ (@za _ _ _ _ _ (@zw _ _ _ _ _ (@za _ _ _ _ _ zc (@za _ _ _ _ _ zc zb (by rfl)) (by rfl))) zb (by rfl))) (@za _ _ _ _ _ (@zw _ _ _ _ _ (@za _ _ _ _ _ zc zb (by rfl))) zb (by rfl)) (by rfl))) (@zw _ _ _ _ _ (@za _ _ _ _ _ (@zw _ _ _ _ _ (@za _ _ _ _ _ (@zw _ _ _ _ _ (@za _ _ _ _ _ zc (@za _ _ _ _ _ zc zb (by rfl)) (by rfl))) zb (by rfl))) zb (by rfl))) (@zw _ _ _ _ _ (@za _ _ _ _ _ (@zw _ _ _ _ _ (@za _ _ _ _ _ (@zw _ _ _ _ _ (@za _ _ _ _ _ zc (@za _ _ _ _ _ zc zb (by rfl)) (by rfl))) zb (by rfl))) (@za _ _ _ _ _ (@zZ _ _ _ _ (@za _ _ _ _ _ zc zb (by rfl))) zb (by rfl)) (by rfl))) (@zw _ _ _ _ _ (@za _ _ _ _ _ (@zZ _ _ _ _ (@za _ _ _ _ _ (@zw _ _ _ _ _ (@za _ _ _ _ _ zc (@za _ _ _ _ _ zc zb (by rfl)) (by rfl))) zb (by rfl))) (@za _ _ _ _ _ (@zw _ _ _ _ _ (@za _ _ _ _ _ zc zb (by rfl))) zb (by rfl)) (by rfl))) (by rfl))) (by rfl) (by first | exact .inl rfl | exact .inr rfl | assumption)) (@zg _ _ _ _ _ (@zy _ _ 7 _ _ _ _ nd rfl (Or.inl rfl) (@zo _ _ _ _ _ _ _ _ je (@pv _ 7 _ _ (by rfl) (by first | exact Or.inl rfl | exact Or.inr (Or.inl rfl) | exact Or.inr (Or.inr rfl)) (by decide) (by decide)) (@zZ _ _ _ _ (@za _ _ _ _ _ (@zw _ _ _ _ _ (@za _ _ _ _ _ (@zw _ _ _ _ _ (@za _ _ _ _ _ zc (@za _ _ _ _ _ zc zb (by rfl)) (by rfl))) (@za _ _ _ _ _ (@zw _ _ _ _ _ (@za _ _ _ _ _ zc zb (by rfl))) zb (by rfl)) (by rfl))) (@za _ _ _ _ _ (@zw _ _ _ _ _ (@za _ _ _ _ _ (@zw _ _ _ _ _ (@za _ _ _ _ _ (@zw _ _ _ _ _ (@za _ _ _ _ _ zc (@za _ _ _ _ _ qD zb (by rfl)) (by rfl))) zb (by rfl))) (@za _ _ _ _ _ (@zw _ _ _ _ _ (@za _ _ _ _ _ zc zb (by rfl))) zb (by rfl)) (by rfl))) zb (by rfl)) (by rfl)))) (by rfl) (by first | exact .inl rfl | exact .inr rfl | assumption)) (@zk _ _ _ (@zu _ _ _ _ (@Zi _ _ _ _ (@zi _ _ _ _ _ _ _ _ _ (QT rfl) rfl B.any J7 (@za _ _ _ _ _ (@jq _ _ _ _ _ _ _ _ _ _ _ ["_law_job_here"] [1] rfl rfl (by kernel_rfl) (@xp _ _ _ _ (@pv _ 7 _ _ (by rfl) (by first | exact Or.inl rfl | exact Or.inr (Or.inl rfl) | exact Or.inr (Or.inr rfl)) (by decide) (by decide))) (fun C0 s0 H0 ex0=>qN) (fun C0 s0 H0 ex0=>(@qc _ _ _ _ _ _ _ _ Xw (@zf _ _ _ _ _ _ _ _ _ _ Dis_trip (hr.mono (by first | decide | exact Nat.le_refl _ | omega)) rfl (@za _ _ _ _ _ (@pv _ 1 _ _ (by rfl) (by first | exact Or.inl rfl | exact Or.inr (Or.inl rfl) | exact Or.inr (Or.inr rfl)) (by decide) (by decide)) (@za _ _ _ _ _ (@pv _ 0 _ _ (by rfl) (by first | exact Or.inl rfl | exact Or.inr (Or.inl rfl) | exact Or.inr (Or.inr rfl)) (by decide) (by decide)) zb (by rfl)) (by rfl)) (by decide) (by rfl) (by rfl)) qD (zx _))) (by intro _ ;rfl)) zb (by rfl)) (by decide) (by decide) (by rfl) (by rfl))))))))))⟩
end
def Bld (K:PySem.W.Frag) (t:TE) (d:Dat):Prop:=∀ σ H Q,(∀ v H',Same H H' -> Rep K H' d v -> Q v H') -> t σ H Q
def yV (K:PySem.W.Frag) (t:TA) (ds:List Dat):Prop:=∀ σ H Q,(∀ xs H',Same H H' -> Reps K H' ds xs -> Q xs H') -> t σ H Q
section
variable {K:PySem.W.Frag}
theorem WV:Bld K (tC .non) .non:=fun _ H Q k=>k _ H (Same.refl _) rfl
theorem bBl {b:Bool}:Bld K (tC (.bl b)) (.bl b):=fun _ H Q k=>k _ H (Same.refl _) rfl
theorem WW {i:Int}:Bld K (tC (.int i)) (.int i):=fun _ H Q k=>k _ H (Same.refl _) rfl
theorem WU {x:Str}:Bld K (tC (.str x)) (.str x):=fun _ H Q k=>k _ H (Same.refl _) rfl
theorem jL:yV K wz []:=fun _ H Q k=>k _ H (Same.refl _) rfl
theorem z6 {t:TE} {ts:TA} {d:Dat} {ds:List Dat} (h:Bld K t d) (hs:yV K ts ds):yV K (zL t ts) (d :: ds):=fun σ H Q k=>
  h σ H _ fun v H1 s1 r1=>hs σ H1 _ fun xs H2 s2 r2=>k _ H2 (s1.trans s2) ⟨v,xs,rfl,r1.same s2,r2⟩
theorem J9 {ts:TA} {ds:List Dat} (h:yV K ts ds) (hl:ds.length <= 1000):∀ σ H Q,(∀ l xs H',Same H H' -> H' l = some (.lst xs) -> Reps K H' ds xs -> Q (.ref l) H') -> Qx ts σ H Q:=fun σ H Q k=>
  h σ H _ fun xs H1 s1 r1=>⟨leN (by rw [r1.len];exact hl),fun p hp=>k p xs _ (s1.trans (ze hp)) zd (Reps.same (ze hp) r1)⟩
theorem WY {ts:TA} {ds:List Dat} {jv:TS} {D:_} {σ:St} {H:Hp} {i:Nat} (h:yV K ts ds) (hl:ds.length <= 1000) (k:∀ l xs H',Same H H' -> H' l = some (.lst xs) -> Reps K H' ds xs -> jv D (σ.set i (some (.ref l))) H'):Q7 (y9 (Qx ts) (jK i)) jv D σ H:=by
  unfold Q7 y9
  exact J9 h hl σ H _ k
theorem WZ {ts:TA} {ds es:List Dat} {xs:List V} {l:Addr} {jv:TS} {D:_} {σ:St} {H:Hp} {i:Nat} (hv:σ[i]? = some (some (.ref l))) (q:H l = some (.lst xs)) (r:Reps K H es xs) (h:yV K ts ds) (hl:ds.length <= 1000) (he:es.length + ds.length <= 1000)
    (k:∀ l xs H',Same H H' -> H' l = some (.lst xs) -> Reps K H' (es ++ ds) xs -> jv D (σ.set i (some (.ref l))) H'):Q7 (y9 (tOp Vw (Xh i) (Qx ts)) (jK i)) jv D σ H:=
  ⟨_,hv,J9 h hl σ H _ fun l2 ys H2 s2 q2 r2=>⟨l,l2,xs,ys,rfl,rfl,s2 _ _ q,q2,by rw [r.len,r2.len,sizeLine_eq];omega,fun p hp=>k p _ _ (s2.trans (ze hp)) zd (Reps.app (Reps.same (s2.trans (ze hp)) r) (Reps.same (ze hp) r2))⟩⟩
theorem X1 {ts:TA} {ds:List Dat} (h:yV K ts ds) (hl:ds.length <= 1000):Bld K (Qx ts) (.lst ds):=fun σ H Q k=>
  J9 h hl σ H Q fun l xs H' s q r=>k _ _ s ⟨l,xs,rfl,SqL.of q,r⟩
theorem xU {ts:TA} {ds:List Dat} (h:yV K ts ds) (hl:ds.length <= 1000):Bld K (Xi ts) (.tup ds):=fun σ H Q k=>
  h σ H _ fun xs H1 s1 r1=>⟨leN (by rw [r1.len];exact hl),fun p hp=>k _ _ (s1.trans (ze hp)) ⟨p,xs,rfl,SqT.of zd,Reps.same (ze hp) r1⟩⟩
end
def Jc:List Dat:=[.non,.int 0,.str "",.tup [],.lst [],.tup [.tup [],.tup []],.lst [.tup [.tup [.int 0,.int 0]],.tup [.int 0]],.tup [.tup [.tup [.int 0,.int 0]]],.tup [.tup [.tup [.int 0,.int 0]],.lst [.int 0]],.tup [.lst [.tup [.int 0,.int 0]],.tup [.int 0]],
  .tup [.tup [.int 0,.int 0],.tup [.int 0]],.tup [.tup [.tup [.int 0,.bl true]],.tup [.int 0]]]
theorem Xm {np nf hd:Int}:∀ d ∈ Jc,jk np nf hd d = false:=by
  intro d h
  simp only [Jc,List.mem_cons,List.not_mem_nil,or_false] at h
  rcases h with rfl | rfl | rfl | rfl | rfl | rfl | rfl | rfl | rfl | rfl | rfl | rfl <;> simp [jk,jc,qd,xH,zt]
theorem x9 {κ:Type} [DecidableEq κ]:∀ (l acc:List κ),(acc ++ l).Nodup -> jb acc l = acc ++ l
  | [],acc,_=>(List.append_nil acc).symm
  | k :: l,acc,h=>by
    have hk:k ∉ acc:=fun z=>by
      have:=(List.nodup_append.mp h).2.2 k z k List.mem_cons_self
      exact this rfl
    show jb (qV acc k) l = _
    rw [show qV acc k = acc ++ [k] from if_neg hk,x9 l (acc ++ [k]) (by rw [List.append_assoc];exact h),List.append_assoc]
    rfl
theorem VN {us:List Int} (h:us.Nodup):jB us = true:=by
  unfold jB
  rw [x9 _ [] (by
    rw [List.nil_append]
    exact List.Pairwise.map _ (fun a b z y=>z (Sum.inl.inj y)) h),List.nil_append,List.length_map]
  exact decide_eq_true rfl
theorem j9 {np m:Nat} (h:m < np):zt 0 ((np:Int) - 1) (.int (m:Int)) = true:=by
  show (decide ((0:Int) <= m) && decide ((m:Int) <= (np:Int) - 1)) = true
  rw [decide_eq_true (by omega),decide_eq_true (by omega)];rfl
theorem vq (qs:List (Nat × Nat)):(qs.map qb).map zF = (qs.map (·.1)).map fun i:Nat=>(i:Int):=by
  rw [List.map_map,List.map_map];rfl
theorem XV (ls:List Nat):(qr ls).map iD = ls.map fun i:Nat=>(i:Int):=by
  unfold qr
  rw [List.map_map];rfl
theorem Q6 {J:Job} {qs:List (Nat × Nat)} {ls:List Nat} (t:X3 J qs ls):jk J.ps.length J.fs.length J.hd (trD qs ls) = decide ((ls.length:Int) <= J.hd):=by
  have ll:ls.length = qs.length:=by rw [t.pm.length_eq,List.length_map]
  have n1:=t.n1
  show ((decide (((qs.map qb).length:Int) <= J.hd) && (!decide ((qs.map qb).length = 0) && ((qs.map qb).all (qd J.ps.length J.fs.length) && jB ((qs.map qb).map zF)))) && (decide ((qr ls).length = ((qs.map qb).map zF).length) && ((qr ls).all (zt 0 ((J.ps.length:Int) - 1)) && ((qr ls).map iD).isPerm ((qs.map qb).map zF)))) = _
  have e1:(qs.map qb).all (qd J.ps.length J.fs.length) = true:=List.all_eq_true.mpr fun d hd=>by
    obtain ⟨q,hq,rfl⟩:=List.mem_map.mp hd
    have:=t.pi q hq
    show (zt 0 ((J.ps.length:Int) - 1) (.int (q.1:Int)) && zt 0 ((J.fs.length:Int) - 1) (.int (q.2:Int))) = true
    rw [j9 this.1,j9 this.2];rfl
  have e2:(qr ls).all (zt 0 ((J.ps.length:Int) - 1)) = true:=List.all_eq_true.mpr fun d hd=>by
    obtain ⟨m,hm,rfl⟩:=List.mem_map.mp hd
    obtain ⟨q,hq,rfl⟩:=List.mem_map.mp (t.pm.mem_iff.mp hm)
    exact j9 (t.pi q hq).1
  have e3:((qr ls).map iD).isPerm ((qs.map qb).map zF) = true:=by
    rw [List.isPerm_iff,vq,XV]
    exact t.pm.map _
  have e4:jB ((qs.map qb).map zF) = true:=by
    rw [vq]
    exact VN (List.Pairwise.map _ (fun a b z y=>z (by omega)) t.nd)
  have e5:(qr ls).length = ((qs.map qb).map zF).length:=by
    rw [vq,List.length_map,List.length_map]
    show (ls.map _).length = _
    rw [List.length_map,ll]
  rw [e1,e2,e3,e4,decide_eq_true e5,List.length_map,decide_eq_false (by omega:¬ qs.length = 0),ll]
  cases decide ((qs.length:Int) <= J.hd) <;> rfl
theorem V1 {J:Job} {qs:List (Nat × Nat)} {ls:List Nat} (t:X3 J qs ls) (p60:J.ps.length <= 60) (f60:J.fs.length <= 60):GdD 0 30 3 (trD qs ls):=by
  have q100:∀ q ∈ qs,q.1 < 100 /\ q.2 < 100:=fun q hq=>by have:=t.pi q hq;omega
  have l100:∀ q ∈ ls,q < 100:=fun q hq=>by
    obtain ⟨u,hu,rfl⟩:=List.mem_map.mp (t.pm.mem_iff.mp hq)
    exact (q100 u hu).1
  have ll:ls.length = qs.length:=by rw [t.pm.length_eq,List.length_map]
  have n6:=t.n6
  obtain ⟨a1,a2,a3⟩:=vt q100
  obtain ⟨b1,b2,b3⟩:=wJ l100
  refine ⟨?_,?_,?_⟩
  · show (Dat.gds 0 (qs.map qb) && (Dat.gds 0 (qr ls) && true)) = true
    rw [a1,b1];rfl
  · show Dat.blks (qs.map qb) + 1 + (Dat.blks (qr ls) + 1 + 0) <= 30
    omega
  · show max (PyData.depthAll (Dat.pys (qs.map qb)) + 1) (max (PyData.depthAll (Dat.pys (qr ls)) + 1) 0) + 1 <= 3
    omega
theorem y8 (qs:List (Nat × Nat)) (ls:List Nat):(trD qs ls).imm = true:=by
  show (Dat.imms (qs.map qb) && (Dat.imms (qr ls) && true)) = true
  rw [qv,xA];rfl
section
variable {P:Program} {w:World} {K:PySem.W.Frag} {mg:Str -> Option Value} {base:Heap}
def Qd (b:_) (jp:_) (H2:_) (n:_):=fun (i:Nat) (σ:St) (H':Hp)=>(Ex5 fun (v2 v3 v4 v5 v6:Option V)=>An3 (σ = [some (.ref b),some (.ref jp),v2,v3,v4,v5,v6,none]) (SameB b H2 H') (BoxAt H' b (n + 3000 + 700 * i)):Prop)
def Qc (b:_) (jp:_) (i:Nat) (tp:_) (H6:_) (n:_):=fun (j:Nat) (σ:St) (H':Hp)=>(Ex3 fun (v4 v5 v6:Option V)=>An3 (σ = [some (.ref b),some (.ref jp),some (.int (0 + (i:Int))),some (.ref tp),v4,v5,v6,none]) (SameB b H6 H') (BoxAt H' b (n + 3000 + 700 * i + 100 + 100 * j)):Prop)
def Qb (b:_) (jp:_) (i:Nat) (tp:_) (j:Nat) (w6:_) (H7:_) (N:_) (K:_):=fun (σ':St) (H':Hp)=>(Ex1 fun (v:V)=>An4 (σ' = [some (.ref b),some (.ref jp),some (.int (0 + (i:Int))),some (.ref tp),some (.int (0 + (j:Int))),some v,w6,none]) (SameB b H7 H') (BoxAt H' b (N + 40)) (DS K (WX [b] H') 1 300 7 v):Prop)
def Qa (b:_) (jp:_) (i:Nat) (tp:_) (j:Nat) (w6:_) (H7:_) (N:_) (K:_):=fun (σ':St) (H':Hp)=>(Ex1 fun (v:V)=>An4 (σ' = [some (.ref b),some (.ref jp),some (.int (0 + (i:Int))),some (.ref tp),some (.int (0 + (j:Int))),some v,w6,none]) (SameB b H7 H') (BoxAt H' b (N + 90)) (DS K (WX [b] H') 2 2730 11 v):Prop)
theorem JE {f:Addr} {fd:FuncData} (F:Fun K "_law_right" "_law_right" (zn 34) f fd) (B:Blt mg) (D_take:Dfn P w K mg base "_law_take" 1 ["_law_box_here", "_law_size"] qz) (D_job:Dfn P w K mg base "_law_job" 4 ["_law_box_here", "_law_few", "_law_most", "_law_plenty"] (ZF K)) (D_same:Dfn P w K mg base "_law_same" 1 ["_law_found", "_law_due"] (spS K 1)) (D_is_trip:Dfn P w K mg base "_law_is_trip" 2 ["_law_job_here", "_law_thing"] (jN K)) (Dis_trip:Dfn P w K mg base "is_trip" 5 ["job", "thing"] (jN K)) (D_any_trip:Dfn P w K mg base "_law_any_trip" 3 ["_law_box_here", "_law_job_here"] (ZI K)) (D_near:Dfn P w K mg base "_law_near" 2 ["_law_box_here", "_law_job_here", "_law_trip"] (wD K)) (D_bent:Dfn P w K mg base "_law_bent" 8 ["_law_box_here", "_law_thing", "_law_deep"] (vf K 5)):FnOk P w K mg base CX0 9 f fd ["_law_box_here"] wB:=by
  have nd:=ZL.nd
  refine F.ok ZL (fun vs H Q E h=>?_) (fun cdv A outer s H vs Q E hr h=>?_)
  · obtain ⟨b,n,rfl,_⟩:=h
    rfl
  · obtain ⟨b,n,rfl,B0,hn,k⟩:=h
    have hbig:1000000 < sizeLine:=by rw [sizeLine_eq];decide
    have e62:(2:Int) ^ 62 = 4611686018427387904:=by decide
    refine ⟨_,(Vt B D_take D_job D_same D_is_trip Dis_trip D_any_trip D_near D_bent nd hr hr.units0 hr.units hr.gd).2,?_⟩
    refine ⟨_,rfl,b,7,24,n,true,rfl,B0,by omega,by decide,by decide,by decide,by decide,fun jp J ord H1 S1 B1 rj jo=>?_⟩
    obtain ⟨g,fs,ps,as,fv,px,qj,qf,lf,qp,lp⟩:=qK rj
    refine ⟨_,rfl,jp,_,_,_,rfl,rfl,qj,at3,le0,fun em hem=>⟨ps,em,px,rfl,rfl,(ze hem).sqT qp,SqT.of zd,?_⟩⟩
    have s2:=ze (H:=H1) (o:=.tup []) hem
    generalize upd H1 em (.tup []) = H2 at s2
    refine ⟨_,rfl,zW (fun c=>?_) (fun c=>?_)⟩
    · have e0:J.ps.length = 0:=by rw [<- lp,List.isEmpty_iff.mp c];rfl
      refine ⟨_,rfl,le2,fun t1 h1=>?_⟩
      have u1:=ze (H:=H2) (o:=.tup [.int 0,.int 0]) h1
      have f1:=zd (H:=H2) (a:=t1) (o:=.tup [.int 0,.int 0])
      generalize upd H2 t1 (.tup [.int 0,.int 0]) = H3 at u1 f1
      refine ⟨le1,fun t2 h2=>?_⟩
      have u2:=ze (H:=H3) (o:=.tup [.ref t1]) h2
      have f2:=zd (H:=H3) (a:=t2) (o:=.tup [.ref t1])
      generalize upd H3 t2 (.tup [.ref t1]) = H4 at u2 f2
      refine ⟨le1,fun t3 h3=>?_⟩
      have u3:=ze (H:=H4) (o:=.tup [.int 0]) h3
      have f3:=zd (H:=H4) (a:=t3) (o:=.tup [.int 0])
      generalize upd H4 t3 (.tup [.int 0]) = H5 at u3 f3
      refine ⟨le2,fun t4 h4=>?_⟩
      have u4:=ze (H:=H5) (o:=.tup [.ref t2,.ref t3]) h4
      have f4:=zd (H:=H5) (a:=t4) (o:=.tup [.ref t2,.ref t3])
      generalize upd H5 t4 (.tup [.ref t2,.ref t3]) = H6 at u4 f4
      have v6:=s2.trans (u1.trans (u2.trans (u3.trans u4)))
      refine ⟨jp,J,.ref t4,.tup [.tup [.tup [.int 0,.int 0]],.tup [.int 0]],rfl,rj.same v6,⟨t4,_,rfl,SqT.of f4,_,_,rfl,⟨t2,_,rfl,SqT.of ((u3.trans u4) _ _ f2),_,_,rfl,⟨t1,_,rfl,SqT.of ((u2.trans (u3.trans u4)) _ _ f1),_,_,rfl,rfl,_,_,rfl,rfl,rfl⟩,rfl⟩,_,_,rfl,⟨t3,_,rfl,SqT.of (u4 _ _ f3),_,_,rfl,rfl,rfl⟩,rfl⟩,jo.hd1,fun H7 s7=>?_⟩
      rw [show jk J.ps.length J.fs.length J.hd (.tup [.tup [.tup [.int 0,.int 0]],.tup [.int 0]]) = false by rw [e0];simp [jk,jc,qd,zt]]
      refine ⟨_,_,rfl,rfl,_,rfl,ifT rfl ⟨_,rfl,le0,fun a1 g1=>?_⟩⟩
      have w1:=ze (H:=H7) (o:=.tup []) g1
      have y1:=zd (H:=H7) (a:=a1) (o:=.tup [])
      generalize upd H7 a1 (.tup []) = H8 at w1 y1
      refine ⟨le0,fun a2 g2=>?_⟩
      have w2:=ze (H:=H8) (o:=.tup []) g2
      have y2:=zd (H:=H8) (a:=a2) (o:=.tup [])
      generalize upd H8 a2 (.tup []) = H9 at w2 y2
      refine ⟨le2,fun a3 g3=>?_⟩
      have w3:=ze (H:=H9) (o:=.tup [.ref a1,.ref a2]) g3
      have y3:=zd (H:=H9) (a:=a3) (o:=.tup [.ref a1,.ref a2])
      generalize upd H9 a3 (.tup [.ref a1,.ref a2]) = HA at w3 y3
      have vA:=v6.trans (s7.trans (w1.trans (w2.trans w3)))
      refine ⟨jp,J,.ref a3,.tup [.tup [],.tup []],rfl,rj.same vA,⟨a3,_,rfl,SqT.of y3,_,_,rfl,⟨a1,_,rfl,SqT.of ((w2.trans w3) _ _ y1),rfl⟩,_,_,rfl,⟨a2,_,rfl,SqT.of (w3 _ _ y2),rfl⟩,rfl⟩,jo.hd1,fun HB sB=>?_⟩
      rw [show jk J.ps.length J.fs.length J.hd (.tup [.tup [],.tup []]) = false by simp [jk,jc]]
      exact ⟨_,_,rfl,rfl,k HB ((S1.trans (.of vA)).trans (.of sB))⟩
    have p1:1 <= J.ps.length:=by
      rw [<- lp]
      cases px with
      | nil=>exact absurd rfl c
      | cons=>exact Nat.succ_le_succ (Nat.zero_le _)
    have f1:1 <= J.fs.length:=by
      obtain ⟨pa,hpa⟩:=List.exists_mem_of_length_pos (l:=J.ps) (by omega)
      obtain ⟨_,_,fe,hfe,_⟩:=jo.pa pa hpa
      exact List.length_pos_of_mem hfe
    have p60:=jo.pl
    have f60:J.fs.length <= 60:=Nat.le_trans jo.fl (by decide)
    have hd4:=jo.hd1
    have B2:=B1.same s2
    have rj2:=rj.same s2
    have S2:=S1.trans (.of (b:=b) s2)
    clear S1 B1 rj s2 qj qf qp lf lp c jo hem
    refine ⟨_,rfl,(by rw [e62];decide),(by rw [e62];decide),?_⟩
    refine qA (Qd b jp H2 n) ⟨_,_,_,_,_,rfl,SameB.refl _ _,B2.mono (by omega)⟩ ?_ ?_
    · rintro i σ H3 hi ⟨v2,v3,v4,v5,v6,rfl,S3,B3⟩
      refine ⟨_,rfl,_,rfl,b,jp,_,J,rfl,B3,by omega,Rep.keep (SameT.draw B2 S3) (qR J) rj2,p1,p60,f1,f60,fun tp qs ls H4 S4 B4 rt tok=>?_⟩
      have S24:=S3.trans S4
      have rj4:=Rep.keep (SameT.draw B2 S24) (qR J) rj2
      obtain ⟨g,fs,ps,as,fv,px,qj,qf,lf,qp,lp⟩:=qK rj4
      refine ⟨_,rfl,_,rfl,jp,J,.ref tp,_,rfl,rj4,rt,hd4,fun H5 s5=>?_⟩
      obtain ⟨tp',xs,e0,qt,x0,r0,e1,hk,x1,r1,e3,⟨lk,zs,e4,ql,rz⟩,e5⟩:=id rt
      cases e0
      subst e1 e3 e4
      cases (show r1 = [] from e5)
      have lz:=rz.len
      rw [show (qr ls).length = ls.length from List.length_map _] at lz
      refine ⟨_,rfl,tp,_,_,_,rfl,rfl,s5.sqT qt,at1,lk,zs,rfl,.inr (s5.sqT ql),_,rfl,jp,_,_,_,rfl,rfl,s5.sqT qj,at1,_,_,rfl,rfl,?_⟩
      rw [Q6 tok,lz]
      refine ⟨.bl (decide ((ls.length:Int) <= J.hd)),_,_,rfl,rfl,rfl,trivial,fun H6 s6=>⟨_,rfl,ifF rfl ?_⟩⟩
      have t6:=s5.trans s6
      have S26:=S24.trans (.of (b:=b) t6)
      have B6:=(B4.same t6).mono (m:=n + 3000 + 700 * i + 100) (by omega)
      have rt6:=rt.same t6
      clear S24 S3 S4 B3 B4 rt rj4 qj qf qp lf lp s5 s6 t6 qt ql rz hk
      refine ⟨_,rfl,(by rw [e62];decide),(by rw [e62];decide),?_⟩
      refine qA (Qc b jp i tp H6 n) ⟨_,_,_,rfl,SameB.refl _ _,B6.mono (by omega)⟩ ?_ ?_
      · rintro j σ H7 hj ⟨w4,w5,w6,rfl,S7,B7⟩
        have e4:((4:Nat):Int) = 4:=rfl
        have S27:=S26.trans S7
        have rj7:=Rep.keep (SameT.draw B2 S27) (qR J) rj2
        have rt7:=Rep.keep (SameT.draw B6 S7) (y8 qs ls) rt6
        have B7:=B7.mono (m:=n + 3000 + 700 * i + 100 + 100 * j) (Int.le_refl _)
        generalize eN:n + 3000 + 700 * (i:Int) + 100 + 100 * (j:Int) = N at B7
        have N1:N < 10000:=by omega
        refine ⟨Qb b jp i tp j w6 H7 N K,?_,?_⟩
        · refine ⟨_,rfl,b,3,_,rfl,B7,by omega,by decide,by decide,fun r H8 r0 r1 B8 S8=>⟨rfl,_,rfl,zW (fun c=>?_) (fun c=>?_)⟩⟩
          · refine ⟨_,rfl,_,rfl,_,rfl,b,jp,tp,_,J,qs,ls,rfl,B8,by omega,Rep.keep (SameT.draw B7 S8) (qR J) rj7,Rep.keep (SameT.draw B7 S8) (y8 qs ls) rt7,tok,p60,f60,fun v H9 S9 B9 dv=>?_⟩
            exact ⟨v,rfl,S8.trans S9,B9.mono (by omega),dv.up (Same.refl _) (by decide) (by decide) (by decide)⟩
          · have dt:DS K (WX [b] H8) 0 30 3 (.ref tp):=⟨_,Rep.keep ((SameT.draw B7 S8).trans (SameT.out B8)) (y8 qs ls) rt7,V1 tok p60 f60⟩
            refine ⟨_,rfl,_,rfl,b,.ref tp,_,0,30,3,4,[b],rfl,B8,by rw [e4];omega,B8.ex,dt,by decide,by decide,by decide,by decide,fun v H9 S9 B9 dv=>?_⟩
            exact ⟨v,rfl,S8.trans S9,B9.mono (by rw [e4];omega),dv⟩
        rintro σ' H8 ⟨v,rfl,S8,B8,dv⟩
        refine ⟨Qa b jp i tp j w6 H7 N K,?_,?_⟩
        · refine ⟨_,rfl,b,4,_,rfl,B8,by omega,by decide,by decide,fun r H9 r0 r1 B9 S9=>⟨rfl,_,rfl,zW (fun c=>?_) (fun c=>?_)⟩⟩
          · refine ⟨_,rfl,_,rfl,b,v,_,1,300,7,4,[b],rfl,B9,by rw [e4];omega,B9.ex,dv.up (wx S9) (Nat.le_refl _) (Nat.le_refl _) (Nat.le_refl _),by decide,by decide,by decide,by decide,fun v' HA SA BA da=>?_⟩
            exact ⟨v',rfl,(S8.trans S9).trans SA,BA.mono (by rw [e4];omega),da⟩
          · exact ⟨_,rfl,v,rfl,S8.trans S9,B9.mono (by omega),dv.up (wx S9) (by decide) (by decide) (by decide)⟩
        clear B8 S8 dv
        rintro σ' H9 ⟨v,rfl,S9,B9,d,rd0,gd⟩
        have rd:=rd0.same WX.le
        have h1:=Dat.gd_shw (by decide:2 <= 1000) gd.g
        have h2:=gd.b
        have h3:=gd.p
        have rj9:=Rep.keep (SameT.draw B7 S9) (qR J) rj7
        refine ⟨_,rfl,v,d,rfl,rd,h1,by omega,by omega,?_⟩
        refine ⟨_,rfl,_,rfl,jp,J,v,d,rfl,rj9,rd,hd4,fun HA sA=>⟨_,rfl,_,rfl,jp,J,v,d,rfl,rj9.same sA,rd.same sA,hd4,fun HB sB=>⟨.bl (jk J.ps.length J.fs.length J.hd d),_,_,rfl,rfl,rfl,trivial,fun HC sC=>⟨_,rfl,ifF rfl ⟨_,rfl,v,d,rfl,rd.same (sA.trans (sB.trans sC)),h1,by omega,by omega,_,rfl,rfl,_,rfl,ifF (by simp) ?_⟩⟩⟩⟩⟩
        have tC:=sA.trans (sB.trans sC)
        exact ⟨_,_,_,rfl,(S7.trans S9).trans (.of tC),(B9.same tC).mono (by omega)⟩
      · rintro σ H7 ⟨w4,w5,w6,rfl,S7,B7⟩
        exact ⟨_,_,_,_,_,rfl,S26.trans S7,B7.mono (by omega)⟩
    rintro σ H3 ⟨v1,v2,v3,v4,v5,rfl,S3,B3⟩
    show Q7 _ _ _ _ _
    have u0:Bld K (Xi wz) (.tup []):=xU jL (Nat.zero_le _)
    have i0:Bld K (tC (.int 0)) (.int 0):=WW
    have l0:Bld K (Qx (zL (tC (.int 0)) wz)) (.lst [.int 0]):=X1 (z6 i0 jL) (by decide)
    have t0:Bld K (Xi (zL (tC (.int 0)) wz)) (.tup [.int 0]):=xU (z6 i0 jL) (by decide)
    have t00:=xU (K:=K) (z6 i0 (z6 i0 jL)) (by decide)
    have tt:=xU (z6 t00 jL) (by decide)
    have t0t:=xU (K:=K) (z6 i0 (z6 (bBl (b:=true)) jL)) (by decide)
    refine WY (z6 WV (z6 i0 (z6 WU (z6 u0 (z6 (X1 jL (Nat.zero_le _)) (z6 (xU (z6 u0 (z6 u0 jL)) (by decide)) (z6 (X1 (z6 tt (z6 t0 jL)) (by decide)) (z6 (xU (z6 tt jL) (by decide)) (z6 (xU (z6 tt (z6 l0 jL)) (by decide)) (z6 (xU (z6 (X1 (z6 t00 jL) (by decide)) (z6 t0 jL)) (by decide)) jL)))))))))) (by decide) fun l xs H4 s4 q4 r4=>?_
    refine WZ rfl q4 r4 (z6 (xU (z6 t00 (z6 t0 jL)) (by decide)) (z6 (xU (z6 (xU (z6 t0t jL) (by decide)) (z6 t0 jL)) (by decide)) jL)) (by decide) (by decide) fun l2 ys H5 s5 q5 r5=>?_
    have t5:=s4.trans s5
    have ly:=r5.len
    have r5:Reps K H5 Jc ys:=r5
    have all:=Xm (np:=J.ps.length) (nf:=J.fs.length) (hd:=J.hd)
    refine ⟨_,rfl,l2,rfl,⟨_,SqL.of q5⟩,wL (K:=K) (a:=l2) (xs:=ys) (fun i zs H6=>zs = (List.replicate i false).map V.bl /\ Same H5 H6) ⟨rfl,Same.refl _⟩ (fun i zs H6 ⟨_,s6⟩=>SqL.of (s6 _ _ q5)) ?_ ?_⟩
    · rintro i x zs H6 hx ⟨rfl,s6⟩
      obtain ⟨d,ed,rd⟩:=(r5.same s6).get hx
      have il:=(List.getElem?_eq_some_iff.mp ed).1
      have dm:=all d (List.mem_of_getElem? ed)
      refine ⟨rfl,_,rfl,_,rfl,jp,J,x,d,rfl,(Rep.keep (SameT.draw B2 S3) (qR J) rj2).same (t5.trans s6),rd,hd4,fun H7 s7=>⟨_,_,rfl,rfl,?_,?_,s6.trans s7⟩⟩
      · rw [List.length_map,List.length_replicate,sizeLine_eq]
        exact Nat.lt_trans il (by decide)
      · rw [dm,List.replicate_succ',List.map_append];rfl
    rintro zs H6 ⟨rfl,s6⟩
    refine ⟨leN (by rw [List.length_map,List.length_replicate,ly];decide),fun p hp=>⟨p,_,rfl,SqL.of zd,_,rfl,?_⟩⟩
    rw [show (List.replicate ys.length false).any id = false from by simp]
    exact k _ ((S2.trans S3).trans (.of (t5.trans (s6.trans (ze hp)))))
end
inductive ZC (K:PySem.W.Frag) (vs:List V) (H:Hp) (Q:VK):Prop
  | mk (a:Addr) (ns:List Int) (_:vs = [.ref a]) (_:SqL K H a (ns.map V.int)) (_:ns.length <= 63) (_:∀ H',Q (.bl true) H'):ZC K vs H Q
def ZD (K:PySem.W.Frag):Sp:=fun vs H Q _=>ZC K vs H Q
section
variable {P:Program} {w:World} {K:PySem.W.Frag} {mg:Str -> Option Value} {base:Heap}
theorem Va:zG ["_law_script", "_law_cells"] ["_law_script"] (zj (zn 35)):=⟨rfl,rfl,rfl,by decide +kernel,rfl,by decide +kernel,by decide +kernel⟩
theorem VG {f:Addr} {fd:FuncData} (F:Fun K "law" "law" (zn 35) f fd) (B:Blt mg) (D_folded:Dfn P w K mg base "_law_folded" 1 ["_law_script", "_law_size"] (Zf K)) (D_box:Dfn P w K mg base "_law_box" 1 ["_law_script", "_law_k"] (Jb K))
    (D_right:Dfn P w K mg base "_law_right" 9 ["_law_box_here"] wB):FnOk P w K mg base CX0 10 f fd ["_law_script"] (ZD K):=by
  have nd:=Va.nd
  refine F.ok Va (fun vs H Q E h=>?_) (fun cdv A outer s H vs Q E hr h=>?_)
  · obtain ⟨a,ns,rfl,_⟩:=h
    rfl
  · obtain ⟨a,ns,rfl,hS,hlen,k⟩:=h
    refine ⟨_,(@zg _ _ _ _ _ (@zy _ _ 1 _ _ _ _ nd rfl (Or.inr rfl) (@zf _ _ _ _ _ _ _ _ _ _ D_folded (hr.mono (by first | decide | exact Nat.le_refl _ | omega)) rfl (@za _ _ _ _ _ (@pv _ 0 _ _ (by rfl) (by first | exact Or.inl rfl | exact Or.inr (Or.inl rfl) | exact Or.inr (Or.inr rfl)) (by decide) (by decide)) (@za _ _ _ _ _ zc zb (by rfl)) (by rfl)) (by decide) (by rfl) (by rfl)) (by rfl) (by first | exact .inl rfl | exact .inr rfl | assumption)) (@zk _ _ _ (@zu _ _ _ _ (@zi _ _ _ _ _ _ _ _ _ (qZ rfl) rfl B.all boot_all (@za _ _ _ _ _ (@jq _ _ _ _ _ _ _ _ _ _ _ ["_law_cells"] [1] rfl rfl (by kernel_rfl) (@qm _ _ _ _ _ _ rfl B.range (@za _ _ _ _ _ (@zi _ _ _ _ _ _ _ _ _ (QS rfl) rfl B.max J6 (@za _ _ _ _ _ zc (@za _ _ _ _ _ (@zi _ _ _ _ _ _ _ _ _ zq rfl B.len boot_len (@za _ _ _ _ _ (@pv _ 1 _ _ (by rfl) (by first | exact Or.inl rfl | exact Or.inr (Or.inl rfl) | exact Or.inr (Or.inr rfl)) (by decide) (by decide)) zb (by rfl)) (by decide) (by decide) (by rfl) (by rfl)) zb (by rfl)) (by rfl)) (by decide) (by decide) (by rfl) (by rfl)) zb (by rfl)) (by rfl)) (fun C0 s0 H0 ex0=>qN) (fun C0 s0 H0 ex0=>(@zf _ _ _ _ _ _ _ _ _ _ D_right (hr.mono (by first | decide | exact Nat.le_refl _ | omega)) rfl (@za _ _ _ _ _ (@zf _ _ _ _ _ _ _ _ _ _ D_box (hr.mono (by first | decide | exact Nat.le_refl _ | omega)) rfl (@za _ _ _ _ _ (@pv _ 1 _ _ (by rfl) (by first | exact Or.inl rfl | exact Or.inr (Or.inl rfl) | exact Or.inr (Or.inr rfl)) (by decide) (by decide)) (@za _ _ _ _ _ (@pv _ 0 _ _ (by rfl) (by first | exact Or.inl rfl | exact Or.inr (Or.inl rfl) | exact Or.inr (Or.inr rfl)) (by decide) (by decide)) zb (by rfl)) (by rfl)) (by decide) (by rfl) (by rfl)) zb (by rfl)) (by decide) (by rfl) (by rfl))) (by intro _ ;rfl)) zb (by rfl)) (by decide) (by decide) (by rfl) (by rfl))))),?_⟩
    refine ⟨_,rfl,a,ns,6,rfl,hS,hlen,by decide,by decide,fun p ms H1 s1 hp hm=>?_⟩
    have e62:(2:Int) ^ 62 = 4611686018427387904:=by decide
    have hl:(ms.map V.int).length <= 6:=by rw [List.length_map];exact hm
    refine ⟨_,rfl,p,_,rfl,.inl hp,_,_,rfl,_,rfl,(by rw [e62];split <;> omega),(by rw [e62];split <;> omega),?_⟩
    have hN:(if ((ms.map V.int).length:Int) > 2 then ((ms.map V.int).length:Int) else 2).toNat <= 8:=by split <;> omega
    have hbig:100 < sizeLine:=by rw [sizeLine_eq];decide
    refine yH (fun i zs H2=>zs = List.replicate i (V.bl true) /\ Same H1 H2) ⟨rfl,Same.refl _⟩ ?_ ?_
    · rintro i zs H2 hi ⟨rfl,sm⟩
      rw [Int.zero_add]
      refine ⟨rfl,?_⟩
      refine ⟨_,rfl,_,rfl,p,ms,i,rfl,sm.seq hp,by omega,fun q o hq Bq=>⟨q,0,rfl,Bq,by decide,fun H3 s3=>⟨?_,?_,fun c u e=>?_⟩⟩⟩
      · rw [List.length_replicate];omega
      · rw [List.replicate_succ']
      · exact s3 c u ((ze hq) c u (sm c u e)) (zr (sm c u e) hq)
    · rintro zs H2 ⟨rfl,sm⟩
      refine ⟨by rw [List.length_replicate];omega,fun D hD=>⟨D,List.replicate (if ((ms.map V.int).length:Int) > 2 then ((ms.map V.int).length:Int) else 2).toNat true,rfl,?_,?_⟩⟩
      · refine SqL.of ?_
        rw [zd,List.map_replicate]
      · have:=k (upd H2 D (.lst (List.replicate (if ((ms.map V.int).length:Int) > 2 then ((ms.map V.int).length:Int) else 2).toNat (V.bl true))))
        simpa using this
end
theorem all_mk {l:PySem.W.OpenLaw} {w:World} {K:PySem.W.Frag} {h:Heap} {mg:Str -> Option Value} {fa:Addr} (X:K.In h) (G:h.Ns mainGlobals mg) (hfa:mg "law" = some (.ref fa))
    {f0:Addr} {od0 an0:Option Addr} {sl0:Array (Option Value)} {oc0 kV0 dc0 pm0 cd0 ct0:Value}
    {f1:Addr} {od1 an1:Option Addr} {sl1:Array (Option Value)} {oc1 kV1 dc1 pm1 cd1 ct1:Value}
    {f2:Addr} {od2 an2:Option Addr} {sl2:Array (Option Value)} {oc2 kV2 dc2 pm2 cd2 ct2:Value}
    {f3:Addr} {od3 an3:Option Addr} {sl3:Array (Option Value)} {oc3 kV3 dc3 pm3 cd3 ct3:Value}
    {f4:Addr} {od4 an4:Option Addr} {sl4:Array (Option Value)} {oc4 kV4 dc4 pm4 cd4 ct4:Value}
    {f5:Addr} {od5 an5:Option Addr} {sl5:Array (Option Value)} {oc5 kV5 dc5 pm5 cd5 ct5:Value}
    {f6:Addr} {od6 an6:Option Addr} {sl6:Array (Option Value)} {oc6 kV6 dc6 pm6 cd6 ct6:Value}
    {f7:Addr} {od7 an7:Option Addr} {sl7:Array (Option Value)} {oc7 kV7 dc7 pm7 cd7 ct7:Value}
    {f8:Addr} {od8 an8:Option Addr} {sl8:Array (Option Value)} {oc8 kV8 dc8 pm8 cd8 ct8:Value}
    {f9:Addr} {od9 an9:Option Addr} {sl9:Array (Option Value)} {oc9 kV9 dc9 pm9 cd9 ct9:Value}
    {f10:Addr} {od10 an10:Option Addr} {sl10:Array (Option Value)} {oc10 kV10 dc10 pm10 cd10 ct10:Value}
    {f11:Addr} {od11 an11:Option Addr} {sl11:Array (Option Value)} {oc11 kV11 dc11 pm11 cd11 ct11:Value}
    {f12:Addr} {od12 an12:Option Addr} {sl12:Array (Option Value)} {oc12 kV12 dc12 pm12 cd12 ct12:Value}
    {f13:Addr} {od13 an13:Option Addr} {sl13:Array (Option Value)} {oc13 kV13 dc13 pm13 cd13 ct13:Value}
    {f14:Addr} {od14 an14:Option Addr} {sl14:Array (Option Value)} {oc14 kV14 dc14 pm14 cd14 ct14:Value}
    {f15:Addr} {od15 an15:Option Addr} {sl15:Array (Option Value)} {oc15 kV15 dc15 pm15 cd15 ct15:Value}
    {f16:Addr} {od16 an16:Option Addr} {sl16:Array (Option Value)} {oc16 kV16 dc16 pm16 cd16 ct16:Value}
    {f17:Addr} {od17 an17:Option Addr} {sl17:Array (Option Value)} {oc17 kV17 dc17 pm17 cd17 ct17:Value}
    {f18:Addr} {od18 an18:Option Addr} {sl18:Array (Option Value)} {oc18 kV18 dc18 pm18 cd18 ct18:Value}
    {f19:Addr} {od19 an19:Option Addr} {sl19:Array (Option Value)} {oc19 kV19 dc19 pm19 cd19 ct19:Value}
    {f20:Addr} {od20 an20:Option Addr} {sl20:Array (Option Value)} {oc20 kV20 dc20 pm20 cd20 ct20:Value}
    {f21:Addr} {od21 an21:Option Addr} {sl21:Array (Option Value)} {oc21 kV21 dc21 pm21 cd21 ct21:Value}
    {f22:Addr} {od22 an22:Option Addr} {sl22:Array (Option Value)} {oc22 kV22 dc22 pm22 cd22 ct22:Value}
    {f23:Addr} {od23 an23:Option Addr} {sl23:Array (Option Value)} {oc23 kV23 dc23 pm23 cd23 ct23:Value}
    {f24:Addr} {od24 an24:Option Addr} {sl24:Array (Option Value)} {oc24 kV24 dc24 pm24 cd24 ct24:Value}
    {f25:Addr} {od25 an25:Option Addr} {sl25:Array (Option Value)} {oc25 kV25 dc25 pm25 cd25 ct25:Value}
    {f26:Addr} {od26 an26:Option Addr} {sl26:Array (Option Value)} {oc26 kV26 dc26 pm26 cd26 ct26:Value}
    {f27:Addr} {od27 an27:Option Addr} {sl27:Array (Option Value)} {oc27 kV27 dc27 pm27 cd27 ct27:Value}
    {f28:Addr} {od28 an28:Option Addr} {sl28:Array (Option Value)} {oc28 kV28 dc28 pm28 cd28 ct28:Value}
    {f29:Addr} {od29 an29:Option Addr} {sl29:Array (Option Value)} {oc29 kV29 dc29 pm29 cd29 ct29:Value}
    {f30:Addr} {od30 an30:Option Addr} {sl30:Array (Option Value)} {oc30 kV30 dc30 pm30 cd30 ct30:Value}
    {f31:Addr} {od31 an31:Option Addr} {sl31:Array (Option Value)} {oc31 kV31 dc31 pm31 cd31 ct31:Value}
    (a0:PySem.W.nsIn K mainGlobals "is_number" = some (some (.ref f0))) (l0:K.lookup f0 = some ⟨oc0,od0,.func (PySem.W.fnOf "is_number" "is_number" (zB (zn 1)) (zA (zn 1)) (zj (zn 1)) .none kV0 dc0 pm0 an0 cd0 ct0),sl0⟩) (c0:PySem.W.codeIn K cd0 "is_number" = true) (k0:PySem.W.keepIn K (.ref f0) = true)
    (a1:PySem.W.nsIn K mainGlobals "is_number_within" = some (some (.ref f1))) (l1:K.lookup f1 = some ⟨oc1,od1,.func (PySem.W.fnOf "is_number_within" "is_number_within" (zB (zn 2)) (zA (zn 2)) (zj (zn 2)) .none kV1 dc1 pm1 an1 cd1 ct1),sl1⟩) (c1:PySem.W.codeIn K cd1 "is_number_within" = true) (k1:PySem.W.keepIn K (.ref f1) = true)
    (a2:PySem.W.nsIn K mainGlobals "is_tuple_of" = some (some (.ref f2))) (l2:K.lookup f2 = some ⟨oc2,od2,.func (PySem.W.fnOf "is_tuple_of" "is_tuple_of" (zB (zn 4)) (zA (zn 4)) (zj (zn 4)) .none kV2 dc2 pm2 an2 cd2 ct2),sl2⟩) (c2:PySem.W.codeIn K cd2 "is_tuple_of" = true) (k2:PySem.W.keepIn K (.ref f2) = true)
    (a3:PySem.W.nsIn K mainGlobals "is_tuple_upto" = some (some (.ref f3))) (l3:K.lookup f3 = some ⟨oc3,od3,.func (PySem.W.fnOf "is_tuple_upto" "is_tuple_upto" (zB (zn 5)) (zA (zn 5)) (zj (zn 5)) .none kV3 dc3 pm3 an3 cd3 ct3),sl3⟩) (c3:PySem.W.codeIn K cd3 "is_tuple_upto" = true) (k3:PySem.W.keepIn K (.ref f3) = true)
    (a4:PySem.W.nsIn K mainGlobals "is_pick" = some (some (.ref f4))) (l4:K.lookup f4 = some ⟨oc4,od4,.func (PySem.W.fnOf "is_pick" "is_pick" (zB (zn 7)) (zA (zn 7)) (zj (zn 7)) .none kV4 dc4 pm4 an4 cd4 ct4),sl4⟩) (c4:PySem.W.codeIn K cd4 "is_pick" = true) (k4:PySem.W.keepIn K (.ref f4) = true)
    (a5:PySem.W.nsIn K mainGlobals "are_picks" = some (some (.ref f5))) (l5:K.lookup f5 = some ⟨oc5,od5,.func (PySem.W.fnOf "are_picks" "are_picks" (zB (zn 8)) (zA (zn 8)) (zj (zn 8)) .none kV5 dc5 pm5 an5 cd5 ct5),sl5⟩) (c5:PySem.W.codeIn K cd5 "are_picks" = true) (k5:PySem.W.keepIn K (.ref f5) = true)
    (a6:PySem.W.nsIn K mainGlobals "are_lays" = some (some (.ref f6))) (l6:K.lookup f6 = some ⟨oc6,od6,.func (PySem.W.fnOf "are_lays" "are_lays" (zB (zn 9)) (zA (zn 9)) (zj (zn 9)) .none kV6 dc6 pm6 an6 cd6 ct6),sl6⟩) (c6:PySem.W.codeIn K cd6 "are_lays" = true) (k6:PySem.W.keepIn K (.ref f6) = true)
    (a7:PySem.W.nsIn K mainGlobals "is_trip" = some (some (.ref f7))) (l7:K.lookup f7 = some ⟨oc7,od7,.func (PySem.W.fnOf "is_trip" "is_trip" (zB (zn 10)) (zA (zn 10)) (zj (zn 10)) .none kV7 dc7 pm7 an7 cd7 ct7),sl7⟩) (c7:PySem.W.codeIn K cd7 "is_trip" = true) (k7:PySem.W.keepIn K (.ref f7) = true)
    (a8:PySem.W.nsIn K mainGlobals "_law_box" = some (some (.ref f8))) (l8:K.lookup f8 = some ⟨oc8,od8,.func (PySem.W.fnOf "_law_box" "_law_box" (zB (zn 12)) (zA (zn 12)) (zj (zn 12)) .none kV8 dc8 pm8 an8 cd8 ct8),sl8⟩) (c8:PySem.W.codeIn K cd8 "_law_box" = true) (k8:PySem.W.keepIn K (.ref f8) = true)
    (a9:PySem.W.nsIn K mainGlobals "_law_take" = some (some (.ref f9))) (l9:K.lookup f9 = some ⟨oc9,od9,.func (PySem.W.fnOf "_law_take" "_law_take" (zB (zn 13)) (zA (zn 13)) (zj (zn 13)) .none kV9 dc9 pm9 an9 cd9 ct9),sl9⟩) (c9:PySem.W.codeIn K cd9 "_law_take" = true) (k9:PySem.W.keepIn K (.ref f9) = true)
    (a10:PySem.W.nsIn K mainGlobals "_law_folded" = some (some (.ref f10))) (l10:K.lookup f10 = some ⟨oc10,od10,.func (PySem.W.fnOf "_law_folded" "_law_folded" (zB (zn 14)) (zA (zn 14)) (zj (zn 14)) .none kV10 dc10 pm10 an10 cd10 ct10),sl10⟩) (c10:PySem.W.codeIn K cd10 "_law_folded" = true) (k10:PySem.W.keepIn K (.ref f10) = true)
    (a11:PySem.W.nsIn K mainGlobals "_law_same" = some (some (.ref f11))) (l11:K.lookup f11 = some ⟨oc11,od11,.func (PySem.W.fnOf "_law_same" "_law_same" (zB (zn 15)) (zA (zn 15)) (zj (zn 15)) .none kV11 dc11 pm11 an11 cd11 ct11),sl11⟩) (c11:PySem.W.codeIn K cd11 "_law_same" = true) (k11:PySem.W.keepIn K (.ref f11) = true)
    (a12:PySem.W.nsIn K mainGlobals "_law_spelled" = some (some (.ref f12))) (l12:K.lookup f12 = some ⟨oc12,od12,.func (PySem.W.fnOf "_law_spelled" "_law_spelled" (zB (zn 16)) (zA (zn 16)) (zj (zn 16)) .none kV12 dc12 pm12 an12 cd12 ct12),sl12⟩) (c12:PySem.W.codeIn K cd12 "_law_spelled" = true) (k12:PySem.W.keepIn K (.ref f12) = true)
    (a13:PySem.W.nsIn K mainGlobals "_law_name" = some (some (.ref f13))) (l13:K.lookup f13 = some ⟨oc13,od13,.func (PySem.W.fnOf "_law_name" "_law_name" (zB (zn 17)) (zA (zn 17)) (zj (zn 17)) .none kV13 dc13 pm13 an13 cd13 ct13),sl13⟩) (c13:PySem.W.codeIn K cd13 "_law_name" = true) (k13:PySem.W.keepIn K (.ref f13) = true)
    (a14:PySem.W.nsIn K mainGlobals "_law_names" = some (some (.ref f14))) (l14:K.lookup f14 = some ⟨oc14,od14,.func (PySem.W.fnOf "_law_names" "_law_names" (zB (zn 18)) (zA (zn 18)) (zj (zn 18)) .none kV14 dc14 pm14 an14 cd14 ct14),sl14⟩) (c14:PySem.W.codeIn K cd14 "_law_names" = true) (k14:PySem.W.keepIn K (.ref f14) = true)
    (a15:PySem.W.nsIn K mainGlobals "_law_place" = some (some (.ref f15))) (l15:K.lookup f15 = some ⟨oc15,od15,.func (PySem.W.fnOf "_law_place" "_law_place" (zB (zn 19)) (zA (zn 19)) (zj (zn 19)) .none kV15 dc15 pm15 an15 cd15 ct15),sl15⟩) (c15:PySem.W.codeIn K cd15 "_law_place" = true) (k15:PySem.W.keepIn K (.ref f15) = true)
    (a16:PySem.W.nsIn K mainGlobals "_law_places" = some (some (.ref f16))) (l16:K.lookup f16 = some ⟨oc16,od16,.func (PySem.W.fnOf "_law_places" "_law_places" (zB (zn 20)) (zA (zn 20)) (zj (zn 20)) .none kV16 dc16 pm16 an16 cd16 ct16),sl16⟩) (c16:PySem.W.codeIn K cd16 "_law_places" = true) (k16:PySem.W.keepIn K (.ref f16) = true)
    (a17:PySem.W.nsIn K mainGlobals "_law_shuffled" = some (some (.ref f17))) (l17:K.lookup f17 = some ⟨oc17,od17,.func (PySem.W.fnOf "_law_shuffled" "_law_shuffled" (zB (zn 21)) (zA (zn 21)) (zj (zn 21)) .none kV17 dc17 pm17 an17 cd17 ct17),sl17⟩) (c17:PySem.W.codeIn K cd17 "_law_shuffled" = true) (k17:PySem.W.keepIn K (.ref f17) = true)
    (a18:PySem.W.nsIn K mainGlobals "_law_feeders" = some (some (.ref f18))) (l18:K.lookup f18 = some ⟨oc18,od18,.func (PySem.W.fnOf "_law_feeders" "_law_feeders" (zB (zn 22)) (zA (zn 22)) (zj (zn 22)) .none kV18 dc18 pm18 an18 cd18 ct18),sl18⟩) (c18:PySem.W.codeIn K cd18 "_law_feeders" = true) (k18:PySem.W.keepIn K (.ref f18) = true)
    (a19:PySem.W.nsIn K mainGlobals "_law_aheads" = some (some (.ref f19))) (l19:K.lookup f19 = some ⟨oc19,od19,.func (PySem.W.fnOf "_law_aheads" "_law_aheads" (zB (zn 23)) (zA (zn 23)) (zj (zn 23)) .none kV19 dc19 pm19 an19 cd19 ct19),sl19⟩) (c19:PySem.W.codeIn K cd19 "_law_aheads" = true) (k19:PySem.W.keepIn K (.ref f19) = true)
    (a20:PySem.W.nsIn K mainGlobals "_law_job" = some (some (.ref f20))) (l20:K.lookup f20 = some ⟨oc20,od20,.func (PySem.W.fnOf "_law_job" "_law_job" (zB (zn 24)) (zA (zn 24)) (zj (zn 24)) .none kV20 dc20 pm20 an20 cd20 ct20),sl20⟩) (c20:PySem.W.codeIn K cd20 "_law_job" = true) (k20:PySem.W.keepIn K (.ref f20) = true)
    (a21:PySem.W.nsIn K mainGlobals "_law_is_number" = some (some (.ref f21))) (l21:K.lookup f21 = some ⟨oc21,od21,.func (PySem.W.fnOf "_law_is_number" "_law_is_number" (zB (zn 25)) (zA (zn 25)) (zj (zn 25)) .none kV21 dc21 pm21 an21 cd21 ct21),sl21⟩) (c21:PySem.W.codeIn K cd21 "_law_is_number" = true) (k21:PySem.W.keepIn K (.ref f21) = true)
    (a22:PySem.W.nsIn K mainGlobals "_law_is_trip" = some (some (.ref f22))) (l22:K.lookup f22 = some ⟨oc22,od22,.func (PySem.W.fnOf "_law_is_trip" "_law_is_trip" (zB (zn 26)) (zA (zn 26)) (zj (zn 26)) .none kV22 dc22 pm22 an22 cd22 ct22),sl22⟩) (c22:PySem.W.codeIn K cd22 "_law_is_trip" = true) (k22:PySem.W.keepIn K (.ref f22) = true)
    (a23:PySem.W.nsIn K mainGlobals "_law_odd" = some (some (.ref f23))) (l23:K.lookup f23 = some ⟨oc23,od23,.func (PySem.W.fnOf "_law_odd" "_law_odd" (zB (zn 27)) (zA (zn 27)) (zj (zn 27)) .none kV23 dc23 pm23 an23 cd23 ct23),sl23⟩) (c23:PySem.W.codeIn K cd23 "_law_odd" = true) (k23:PySem.W.keepIn K (.ref f23) = true)
    (a24:PySem.W.nsIn K mainGlobals "_law_bent_word" = some (some (.ref f24))) (l24:K.lookup f24 = some ⟨oc24,od24,.func (PySem.W.fnOf "_law_bent_word" "_law_bent_word" (zB (zn 28)) (zA (zn 28)) (zj (zn 28)) .none kV24 dc24 pm24 an24 cd24 ct24),sl24⟩) (c24:PySem.W.codeIn K cd24 "_law_bent_word" = true) (k24:PySem.W.keepIn K (.ref f24) = true)
    (a25:PySem.W.nsIn K mainGlobals "_law_bent_number" = some (some (.ref f25))) (l25:K.lookup f25 = some ⟨oc25,od25,.func (PySem.W.fnOf "_law_bent_number" "_law_bent_number" (zB (zn 29)) (zA (zn 29)) (zj (zn 29)) .none kV25 dc25 pm25 an25 cd25 ct25),sl25⟩) (c25:PySem.W.codeIn K cd25 "_law_bent_number" = true) (k25:PySem.W.keepIn K (.ref f25) = true)
    (a26:PySem.W.nsIn K mainGlobals "_law_bent_row" = some (some (.ref f26))) (l26:K.lookup f26 = some ⟨oc26,od26,.func (PySem.W.fnOf "_law_bent_row" "_law_bent_row" (zB (zn 30)) (zA (zn 30)) (zj (zn 30)) .none kV26 dc26 pm26 an26 cd26 ct26),sl26⟩) (c26:PySem.W.codeIn K cd26 "_law_bent_row" = true) (k26:PySem.W.keepIn K (.ref f26) = true)
    (a27:PySem.W.nsIn K mainGlobals "_law_bent" = some (some (.ref f27))) (l27:K.lookup f27 = some ⟨oc27,od27,.func (PySem.W.fnOf "_law_bent" "_law_bent" (zB (zn 31)) (zA (zn 31)) (zj (zn 31)) .none kV27 dc27 pm27 an27 cd27 ct27),sl27⟩) (c27:PySem.W.codeIn K cd27 "_law_bent" = true) (k27:PySem.W.keepIn K (.ref f27) = true)
    (a28:PySem.W.nsIn K mainGlobals "_law_any_trip" = some (some (.ref f28))) (l28:K.lookup f28 = some ⟨oc28,od28,.func (PySem.W.fnOf "_law_any_trip" "_law_any_trip" (zB (zn 32)) (zA (zn 32)) (zj (zn 32)) .none kV28 dc28 pm28 an28 cd28 ct28),sl28⟩) (c28:PySem.W.codeIn K cd28 "_law_any_trip" = true) (k28:PySem.W.keepIn K (.ref f28) = true)
    (a29:PySem.W.nsIn K mainGlobals "_law_near" = some (some (.ref f29))) (l29:K.lookup f29 = some ⟨oc29,od29,.func (PySem.W.fnOf "_law_near" "_law_near" (zB (zn 33)) (zA (zn 33)) (zj (zn 33)) .none kV29 dc29 pm29 an29 cd29 ct29),sl29⟩) (c29:PySem.W.codeIn K cd29 "_law_near" = true) (k29:PySem.W.keepIn K (.ref f29) = true)
    (a30:PySem.W.nsIn K mainGlobals "_law_right" = some (some (.ref f30))) (l30:K.lookup f30 = some ⟨oc30,od30,.func (PySem.W.fnOf "_law_right" "_law_right" (zB (zn 34)) (zA (zn 34)) (zj (zn 34)) .none kV30 dc30 pm30 an30 cd30 ct30),sl30⟩) (c30:PySem.W.codeIn K cd30 "_law_right" = true) (k30:PySem.W.keepIn K (.ref f30) = true)
    (a31:PySem.W.nsIn K mainGlobals "law" = some (some (.ref f31))) (l31:K.lookup f31 = some ⟨oc31,od31,.func (PySem.W.fnOf "law" "law" (zB (zn 35)) (zA (zn 35)) (zj (zn 35)) .none kV31 dc31 pm31 an31 cd31 ct31),sl31⟩) (c31:PySem.W.codeIn K cd31 "law" = true) (k31:PySem.W.keepIn K (.ref f31) = true)
    (z_abs:PySem.W.nsIn K mainGlobals "abs" = some none)
    (z_all:PySem.W.nsIn K mainGlobals "all" = some none)
    (z_any:PySem.W.nsIn K mainGlobals "any" = some none)
    (z_bool:PySem.W.nsIn K mainGlobals "bool" = some none)
    (z_divmod:PySem.W.nsIn K mainGlobals "divmod" = some none)
    (z_enumerate:PySem.W.nsIn K mainGlobals "enumerate" = some none)
    (z_int:PySem.W.nsIn K mainGlobals "int" = some none)
    (z_isinstance:PySem.W.nsIn K mainGlobals "isinstance" = some none)
    (z_len:PySem.W.nsIn K mainGlobals "len" = some none)
    (z_list:PySem.W.nsIn K mainGlobals "list" = some none)
    (z_max:PySem.W.nsIn K mainGlobals "max" = some none)
    (z_range:PySem.W.nsIn K mainGlobals "range" = some none)
    (z_set:PySem.W.nsIn K mainGlobals "set" = some none)
    (z_sorted:PySem.W.nsIn K mainGlobals "sorted" = some none)
    (z_str:PySem.W.nsIn K mainGlobals "str" = some none)
    (z_tuple:PySem.W.nsIn K mainGlobals "tuple" = some none)
    (z_zip:PySem.W.nsIn K mainGlobals "zip" = some none)
    : ∃ fd:FuncData,(∀ (s:Shared) (v:Value),BindsTo s fd ⟨[v],[]⟩ [("_law_script",v)]) /\ ∀ base:Heap,K.In base -> base.Ns mainGlobals mg -> FnOk l.prog w K mg base CX0 10 fa fd ["_law_script"] (ZD K):=by
  have e:=hfa.symm.trans (PySem.W.mg_of X G a31)
  cases e
  have B:Blt mg:=⟨PySem.W.mg_none_of X G z_abs,PySem.W.mg_none_of X G z_all,PySem.W.mg_none_of X G z_any,PySem.W.mg_none_of X G z_bool,PySem.W.mg_none_of X G z_divmod,PySem.W.mg_none_of X G z_enumerate,PySem.W.mg_none_of X G z_int,PySem.W.mg_none_of X G z_isinstance,PySem.W.mg_none_of X G z_len,PySem.W.mg_none_of X G z_list,PySem.W.mg_none_of X G z_max,PySem.W.mg_none_of X G z_range,PySem.W.mg_none_of X G z_set,PySem.W.mg_none_of X G z_sorted,PySem.W.mg_none_of X G z_str,PySem.W.mg_none_of X G z_tuple,PySem.W.mg_none_of X G z_zip⟩
  have F0:=zS (st:=zn 1) l0 c0 k0
  have b0:=F0.binds (ps:=["thing"]) fun _ _ _ _ _ _ us hl=>by obtain ⟨_,rfl⟩:=JP hl;rfl
  have F1:=zS (st:=zn 2) l1 c1 k1
  have b1:=F1.binds (ps:=["thing", "least", "most"]) fun _ _ _ _ _ _ us hl=>by obtain ⟨_,_,_,rfl⟩:=yF hl;rfl
  have F2:=zS (st:=zn 4) l2 c2 k2
  have b2:=F2.binds (ps:=["thing", "many"]) fun _ _ _ _ _ _ us hl=>by obtain ⟨_,_,rfl⟩:=qE hl;rfl
  have F3:=zS (st:=zn 5) l3 c3 k3
  have b3:=F3.binds (ps:=["thing", "most"]) fun _ _ _ _ _ _ us hl=>by obtain ⟨_,_,rfl⟩:=qE hl;rfl
  have F4:=zS (st:=zn 7) l4 c4 k4
  have b4:=F4.binds (ps:=["job", "thing"]) fun _ _ _ _ _ _ us hl=>by obtain ⟨_,_,rfl⟩:=qE hl;rfl
  have F5:=zS (st:=zn 8) l5 c5 k5
  have b5:=F5.binds (ps:=["job", "thing"]) fun _ _ _ _ _ _ us hl=>by obtain ⟨_,_,rfl⟩:=qE hl;rfl
  have F6:=zS (st:=zn 9) l6 c6 k6
  have b6:=F6.binds (ps:=["job", "thing", "picks"]) fun _ _ _ _ _ _ us hl=>by obtain ⟨_,_,_,rfl⟩:=yF hl;rfl
  have F7:=zS (st:=zn 10) l7 c7 k7
  have b7:=F7.binds (ps:=["job", "thing"]) fun _ _ _ _ _ _ us hl=>by obtain ⟨_,_,rfl⟩:=qE hl;rfl
  have F8:=zS (st:=zn 12) l8 c8 k8
  have b8:=F8.binds (ps:=["_law_script", "_law_k"]) fun _ _ _ _ _ _ us hl=>by obtain ⟨_,_,rfl⟩:=qE hl;rfl
  have F9:=zS (st:=zn 13) l9 c9 k9
  have b9:=F9.binds (ps:=["_law_box_here", "_law_size"]) fun _ _ _ _ _ _ us hl=>by obtain ⟨_,_,rfl⟩:=qE hl;rfl
  have F10:=zS (st:=zn 14) l10 c10 k10
  have b10:=F10.binds (ps:=["_law_script", "_law_size"]) fun _ _ _ _ _ _ us hl=>by obtain ⟨_,_,rfl⟩:=qE hl;rfl
  have F11:=zS (st:=zn 15) l11 c11 k11
  have b11:=F11.binds (ps:=["_law_found", "_law_due"]) fun _ _ _ _ _ _ us hl=>by obtain ⟨_,_,rfl⟩:=qE hl;rfl
  have F12:=zS (st:=zn 16) l12 c12 k12
  have b12:=F12.binds (ps:=["_law_number", "_law_size"]) fun _ _ _ _ _ _ us hl=>by obtain ⟨_,_,rfl⟩:=qE hl;rfl
  have F13:=zS (st:=zn 17) l13 c13 k13
  have b13:=F13.binds (ps:=["_law_box_here", "_law_taken"]) fun _ _ _ _ _ _ us hl=>by obtain ⟨_,_,rfl⟩:=qE hl;rfl
  have F14:=zS (st:=zn 18) l14 c14 k14
  have b14:=F14.binds (ps:=["_law_box_here", "_law_many"]) fun _ _ _ _ _ _ us hl=>by obtain ⟨_,_,rfl⟩:=qE hl;rfl
  have F15:=zS (st:=zn 19) l15 c15 k15
  have b15:=F15.binds (ps:=["_law_box_here", "_law_taken"]) fun _ _ _ _ _ _ us hl=>by obtain ⟨_,_,rfl⟩:=qE hl;rfl
  have F16:=zS (st:=zn 20) l16 c16 k16
  have b16:=F16.binds (ps:=["_law_box_here", "_law_many"]) fun _ _ _ _ _ _ us hl=>by obtain ⟨_,_,rfl⟩:=qE hl;rfl
  have F17:=zS (st:=zn 21) l17 c17 k17
  have b17:=F17.binds (ps:=["_law_box_here", "_law_some"]) fun _ _ _ _ _ _ us hl=>by obtain ⟨_,_,rfl⟩:=qE hl;rfl
  have F18:=zS (st:=zn 22) l18 c18 k18
  have b18:=F18.binds (ps:=["_law_box_here", "_law_kinds", "_law_parts", "_law_plenty"]) fun _ _ _ _ _ _ us hl=>by obtain ⟨_,_,_,_,rfl⟩:=Vj hl;rfl
  have F19:=zS (st:=zn 23) l19 c19 k19
  have b19:=F19.binds (ps:=["_law_box_here", "_law_many"]) fun _ _ _ _ _ _ us hl=>by obtain ⟨_,_,rfl⟩:=qE hl;rfl
  have F20:=zS (st:=zn 24) l20 c20 k20
  have b20:=F20.binds (ps:=["_law_box_here", "_law_few", "_law_most", "_law_plenty"]) fun _ _ _ _ _ _ us hl=>by obtain ⟨_,_,_,_,rfl⟩:=Vj hl;rfl
  have F21:=zS (st:=zn 25) l21 c21 k21
  have b21:=F21.binds (ps:=["_law_thing", "_law_least", "_law_most"]) fun _ _ _ _ _ _ us hl=>by obtain ⟨_,_,_,rfl⟩:=yF hl;rfl
  have F22:=zS (st:=zn 26) l22 c22 k22
  have b22:=F22.binds (ps:=["_law_job_here", "_law_thing"]) fun _ _ _ _ _ _ us hl=>by obtain ⟨_,_,rfl⟩:=qE hl;rfl
  have F23:=zS (st:=zn 27) l23 c23 k23
  have b23:=F23.binds (ps:=["_law_box_here"]) fun _ _ _ _ _ _ us hl=>by obtain ⟨_,rfl⟩:=JP hl;rfl
  have F24:=zS (st:=zn 28) l24 c24 k24
  have b24:=F24.binds (ps:=["_law_box_here", "_law_word"]) fun _ _ _ _ _ _ us hl=>by obtain ⟨_,_,rfl⟩:=qE hl;rfl
  have F25:=zS (st:=zn 29) l25 c25 k25
  have b25:=F25.binds (ps:=["_law_box_here", "_law_number"]) fun _ _ _ _ _ _ us hl=>by obtain ⟨_,_,rfl⟩:=qE hl;rfl
  have F26:=zS (st:=zn 30) l26 c26 k26
  have b26:=F26.binds (ps:=["_law_box_here", "_law_row"]) fun _ _ _ _ _ _ us hl=>by obtain ⟨_,_,rfl⟩:=qE hl;rfl
  have F27:=zS (st:=zn 31) l27 c27 k27
  have b27:=F27.binds (ps:=["_law_box_here", "_law_thing", "_law_deep"]) fun _ _ _ _ _ _ us hl=>by obtain ⟨_,_,_,rfl⟩:=yF hl;rfl
  have F28:=zS (st:=zn 32) l28 c28 k28
  have b28:=F28.binds (ps:=["_law_box_here", "_law_job_here"]) fun _ _ _ _ _ _ us hl=>by obtain ⟨_,_,rfl⟩:=qE hl;rfl
  have F29:=zS (st:=zn 33) l29 c29 k29
  have b29:=F29.binds (ps:=["_law_box_here", "_law_job_here", "_law_trip"]) fun _ _ _ _ _ _ us hl=>by obtain ⟨_,_,_,rfl⟩:=yF hl;rfl
  have F30:=zS (st:=zn 34) l30 c30 k30
  have b30:=F30.binds (ps:=["_law_box_here"]) fun _ _ _ _ _ _ us hl=>by obtain ⟨_,rfl⟩:=JP hl;rfl
  have F31:=zS (st:=zn 35) l31 c31 k31
  refine ⟨PySem.W.fnOf "law" "law" (zB (zn 35)) (zA (zn 35)) (zj (zn 35)) .none kV31 dc31 pm31 an31 cd31 ct31,fun s v=>.of_eq rfl,fun base _ _=>?_⟩
  have D_is_number:Dfn l.prog w K mg base "is_number" 1 ["thing"] (Q9 K):=⟨_,_,VI F0 B,PySem.W.mg_of X G a0,k0,b0⟩
  have D_is_number_within:Dfn l.prog w K mg base "is_number_within" 2 ["thing", "least", "most"] (xb K):=⟨_,_,Wo F1 B D_is_number,PySem.W.mg_of X G a1,k1,b1⟩
  have D_is_tuple_of:Dfn l.prog w K mg base "is_tuple_of" 1 ["thing", "many"] (yd K):=⟨_,_,Wq F2 B,PySem.W.mg_of X G a2,k2,b2⟩
  have D_is_tuple_upto:Dfn l.prog w K mg base "is_tuple_upto" 1 ["thing", "most"] (Zb K):=⟨_,_,Wp F3 B,PySem.W.mg_of X G a3,k3,b3⟩
  have D_is_pick:Dfn l.prog w K mg base "is_pick" 3 ["job", "thing"] (Zc K):=⟨_,_,XF F4 B D_is_tuple_of D_is_number_within,PySem.W.mg_of X G a4,k4,b4⟩
  have D_are_picks:Dfn l.prog w K mg base "are_picks" 4 ["job", "thing"] (wC K):=⟨_,_,JG F5 B D_is_tuple_upto D_is_pick,PySem.W.mg_of X G a5,k5,b5⟩
  have D_are_lays:Dfn l.prog w K mg base "are_lays" 4 ["job", "thing", "picks"] (Ze K):=⟨_,_,XI F6 B D_is_tuple_of D_is_number_within,PySem.W.mg_of X G a6,k6,b6⟩
  have D_is_trip:Dfn l.prog w K mg base "is_trip" 5 ["job", "thing"] (jN K):=⟨_,_,XC F7 B D_is_tuple_of D_are_picks D_are_lays,PySem.W.mg_of X G a7,k7,b7⟩
  have D_law_box:Dfn l.prog w K mg base "_law_box" 1 ["_law_script", "_law_k"] (Jb K):=⟨_,_,VJ F8 B,PySem.W.mg_of X G a8,k8,b8⟩
  have D_law_take:Dfn l.prog w K mg base "_law_take" 1 ["_law_box_here", "_law_size"] (qz):=⟨_,_,XD F9 B,PySem.W.mg_of X G a9,k9,b9⟩
  have D_law_folded:Dfn l.prog w K mg base "_law_folded" 1 ["_law_script", "_law_size"] (Zf K):=⟨_,_,XJ F10 B,PySem.W.mg_of X G a10,k10,b10⟩
  have D_law_same:Dfn l.prog w K mg base "_law_same" 1 ["_law_found", "_law_due"] (spS K 1):=⟨_,_,ZU F11 B (PySem.W.mg_of X G a11) b11 1,PySem.W.mg_of X G a11,k11,b11⟩
  have D_law_spelled:Dfn l.prog w K mg base "_law_spelled" 1 ["_law_number", "_law_size"] (wA):=⟨_,_,JD F12 B,PySem.W.mg_of X G a12,k12,b12⟩
  have D_law_name:Dfn l.prog w K mg base "_law_name" 2 ["_law_box_here", "_law_taken"] (Ja):=⟨_,_,VE F13 B D_law_take D_law_spelled,PySem.W.mg_of X G a13,k13,b13⟩
  have D_law_names:Dfn l.prog w K mg base "_law_names" 3 ["_law_box_here", "_law_many"] (wE):=⟨_,_,JH F14 B D_law_name,PySem.W.mg_of X G a14,k14,b14⟩
  have D_law_place:Dfn l.prog w K mg base "_law_place" 2 ["_law_box_here", "_law_taken"] (xm K):=⟨_,_,JF F15 B D_law_take,PySem.W.mg_of X G a15,k15,b15⟩
  have D_law_places:Dfn l.prog w K mg base "_law_places" 3 ["_law_box_here", "_law_many"] (vd):=⟨_,_,QI F16 B D_law_place,PySem.W.mg_of X G a16,k16,b16⟩
  have D_law_shuffled:Dfn l.prog w K mg base "_law_shuffled" 2 ["_law_box_here", "_law_some"] (vb K):=⟨_,_,XE F17 B D_law_take,PySem.W.mg_of X G a17,k17,b17⟩
  have D_law_feeders:Dfn l.prog w K mg base "_law_feeders" 3 ["_law_box_here", "_law_kinds", "_law_parts", "_law_plenty"] (Zg K):=⟨_,_,XL F18 B D_law_take D_law_shuffled D_law_place,PySem.W.mg_of X G a18,k18,b18⟩
  have D_law_aheads:Dfn l.prog w K mg base "_law_aheads" 3 ["_law_box_here", "_law_many"] (vh K):=⟨_,_,QJ F19 B D_law_take D_law_shuffled,PySem.W.mg_of X G a19,k19,b19⟩
  have D_law_job:Dfn l.prog w K mg base "_law_job" 4 ["_law_box_here", "_law_few", "_law_most", "_law_plenty"] (ZF K):=⟨_,_,VH F20 B D_law_take D_law_names D_law_place D_law_places D_law_feeders D_law_aheads,PySem.W.mg_of X G a20,k20,b20⟩
  have D_law_is_number:Dfn l.prog w K mg base "_law_is_number" 1 ["_law_thing", "_law_least", "_law_most"] (xb K):=⟨_,_,VF F21 B,PySem.W.mg_of X G a21,k21,b21⟩
  have D_law_is_trip:Dfn l.prog w K mg base "_law_is_trip" 2 ["_law_job_here", "_law_thing"] (jN K):=⟨_,_,JI F22 B D_law_is_number,PySem.W.mg_of X G a22,k22,b22⟩
  have D_law_odd:Dfn l.prog w K mg base "_law_odd" 2 ["_law_box_here"] (yj K):=⟨_,_,VD F23 B D_law_take,PySem.W.mg_of X G a23,k23,b23⟩
  have D_law_bent_word:Dfn l.prog w K mg base "_law_bent_word" 2 ["_law_box_here", "_law_word"] (Za):=⟨_,_,XB F24 B D_law_take,PySem.W.mg_of X G a24,k24,b24⟩
  have D_law_bent_number:Dfn l.prog w K mg base "_law_bent_number" 2 ["_law_box_here", "_law_number"] (Zd K):=⟨_,_,XG F25 B D_law_take,PySem.W.mg_of X G a25,k25,b25⟩
  have D_law_bent_row:Dfn l.prog w K mg base "_law_bent_row" 3 ["_law_box_here", "_law_row"] (wF K):=⟨_,_,XM F26 B D_law_take D_law_odd,PySem.W.mg_of X G a26,k26,b26⟩
  have D_law_bent:Dfn l.prog w K mg base "_law_bent" 8 ["_law_box_here", "_law_thing", "_law_deep"] (vf K 5):=⟨_,_,ZV F27 B (PySem.W.mg_of X G a27) b27 D_law_take D_law_odd D_law_bent_word D_law_bent_number D_law_bent_row (5),PySem.W.mg_of X G a27,k27,b27⟩
  have D_law_any_trip:Dfn l.prog w K mg base "_law_any_trip" 3 ["_law_box_here", "_law_job_here"] (ZI K):=⟨_,_,VL F28 B D_law_take D_law_shuffled,PySem.W.mg_of X G a28,k28,b28⟩
  have D_law_near:Dfn l.prog w K mg base "_law_near" 2 ["_law_box_here", "_law_job_here", "_law_trip"] (wD K):=⟨_,_,XH F29 B D_law_take,PySem.W.mg_of X G a29,k29,b29⟩
  have D_law_right:Dfn l.prog w K mg base "_law_right" 9 ["_law_box_here"] (wB):=⟨_,_,JE F30 B D_law_take D_law_job D_law_same D_law_is_trip D_is_trip D_law_any_trip D_law_near D_law_bent,PySem.W.mg_of X G a30,k30,b30⟩
  exact VG F31 B D_law_folded D_law_box D_law_right
theorem walk {l:PySem.W.OpenLaw} {q:Program} {loose:List Str} {XP:(Str -> Option Value) -> Heap -> Prop} {YP:World -> Heap -> Prop} {d:DefRec} {K:Params -> PySem.W.Frag} (hn:l.most = some 63) (hdf:d.params.defaults = [])
    (hY:∀ (w:World) (h:Heap),YP w h -> (K w.params).In h)
    (F:∀ (w:World) (mg:Str -> Option Value) (fa:Addr) (h:Heap),(K w.params).In h -> h.Ns mainGlobals mg -> mg d.name = some (.ref fa) ->
      ∃ fd:FuncData,(∀ (s:Shared) (u:Value),BindsTo s fd ⟨[u],[]⟩ [("_law_script",u)]) /\ ∀ base:Heap,(K w.params).In base -> base.Ns mainGlobals mg -> FnOk l.prog w (K w.params) mg base CX0 10 fa fd ["_law_script"] (ZD (K w.params))) :
    PySem.W.WalkO q loose XP YP l.row.toRowW d [] (fun f vs=>PySem.call f vs):=
  L2.walk_of (n:=63) (k:=10) (x:= "_law_script") (CX:=fun _=>CX0) (sp:=fun w=>ZD (K w.params)) hn (by decide) hdf ⟨rfl,by decide,by decide,rfl⟩ hY F (fun _ _ a ns hl _ hS=>⟨a,ns,rfl,hS,hl,fun _=>rfl⟩) fun _ _ _ _ _ z=>z
end L2
open PySem PySem.W PyProof.Rows
set_option maxRecDepth 100000 in
set_option maxHeartbeats 0 in
theorem PySem.Challenge.cw_pickboard_k10_trips_or_not_holds : PySem.Challenge.rw_pickboard_k10_trips_or_not.Holds := by
  w_on;o_law;k_head;(case hw=>w_witness2)
  k_fill
  refine L2.walk (l:=PySem.Challenge.rw_pickboard_k10_trips_or_not) rfl rfl (fun w h Y=>PySem.W.kIn_of Y) ?F
  case F=>
    intro w mg fa h KX G hmg
    refine' L2.all_mk KX G hmg ?a0 ?l0 ?c0 ?k0 ?a1 ?l1 ?c1 ?k1 ?a2 ?l2 ?c2 ?k2 ?a3 ?l3 ?c3 ?k3 ?a4 ?l4 ?c4 ?k4 ?a5 ?l5 ?c5 ?k5 ?a6 ?l6 ?c6 ?k6 ?a7 ?l7 ?c7 ?k7 ?a8 ?l8 ?c8 ?k8 ?a9 ?l9 ?c9 ?k9 ?a10 ?l10 ?c10 ?k10 ?a11 ?l11 ?c11 ?k11 ?a12 ?l12 ?c12 ?k12 ?a13 ?l13 ?c13 ?k13 ?a14 ?l14 ?c14 ?k14 ?a15 ?l15 ?c15 ?k15 ?a16 ?l16 ?c16 ?k16 ?a17 ?l17 ?c17 ?k17 ?a18 ?l18 ?c18 ?k18 ?a19 ?l19 ?c19 ?k19 ?a20 ?l20 ?c20 ?k20 ?a21 ?l21 ?c21 ?k21 ?a22 ?l22 ?c22 ?k22 ?a23 ?l23 ?c23 ?k23 ?a24 ?l24 ?c24 ?k24 ?a25 ?l25 ?c25 ?k25 ?a26 ?l26 ?c26 ?k26 ?a27 ?l27 ?c27 ?k27 ?a28 ?l28 ?c28 ?k28 ?a29 ?l29 ?c29 ?k29 ?a30 ?l30 ?c30 ?k30 ?a31 ?l31 ?c31 ?k31 ?z_abs ?z_all ?z_any ?z_bool ?z_divmod ?z_enumerate ?z_int ?z_isinstance ?z_len ?z_list ?z_max ?z_range ?z_set ?z_sorted ?z_str ?z_tuple ?z_zip
    (case a0=>k_is)
    (case l0=>k_is)
    (case c0=>k_is)
    (case k0=>k_is)
    (case a1=>k_is)
    (case l1=>k_is)
    (case c1=>k_is)
    (case k1=>k_is)
    (case a2=>k_is)
    (case l2=>k_is)
    (case c2=>k_is)
    (case k2=>k_is)
    (case a3=>k_is)
    (case l3=>k_is)
    (case c3=>k_is)
    (case k3=>k_is)
    (case a4=>k_is)
    (case l4=>k_is)
    (case c4=>k_is)
    (case k4=>k_is)
    (case a5=>k_is)
    (case l5=>k_is)
    (case c5=>k_is)
    (case k5=>k_is)
    (case a6=>k_is)
    (case l6=>k_is)
    (case c6=>k_is)
    (case k6=>k_is)
    (case a7=>k_is)
    (case l7=>k_is)
    (case c7=>k_is)
    (case k7=>k_is)
    (case a8=>k_is)
    (case l8=>k_is)
    (case c8=>k_is)
    (case k8=>k_is)
    (case a9=>k_is)
    (case l9=>k_is)
    (case c9=>k_is)
    (case k9=>k_is)
    (case a10=>k_is)
    (case l10=>k_is)
    (case c10=>k_is)
    (case k10=>k_is)
    (case a11=>k_is)
    (case l11=>k_is)
    (case c11=>k_is)
    (case k11=>k_is)
    (case a12=>k_is)
    (case l12=>k_is)
    (case c12=>k_is)
    (case k12=>k_is)
    (case a13=>k_is)
    (case l13=>k_is)
    (case c13=>k_is)
    (case k13=>k_is)
    (case a14=>k_is)
    (case l14=>k_is)
    (case c14=>k_is)
    (case k14=>k_is)
    (case a15=>k_is)
    (case l15=>k_is)
    (case c15=>k_is)
    (case k15=>k_is)
    (case a16=>k_is)
    (case l16=>k_is)
    (case c16=>k_is)
    (case k16=>k_is)
    (case a17=>k_is)
    (case l17=>k_is)
    (case c17=>k_is)
    (case k17=>k_is)
    (case a18=>k_is)
    (case l18=>k_is)
    (case c18=>k_is)
    (case k18=>k_is)
    (case a19=>k_is)
    (case l19=>k_is)
    (case c19=>k_is)
    (case k19=>k_is)
    (case a20=>k_is)
    (case l20=>k_is)
    (case c20=>k_is)
    (case k20=>k_is)
    (case a21=>k_is)
    (case l21=>k_is)
    (case c21=>k_is)
    (case k21=>k_is)
    (case a22=>k_is)
    (case l22=>k_is)
    (case c22=>k_is)
    (case k22=>k_is)
    (case a23=>k_is)
    (case l23=>k_is)
    (case c23=>k_is)
    (case k23=>k_is)
    (case a24=>k_is)
    (case l24=>k_is)
    (case c24=>k_is)
    (case k24=>k_is)
    (case a25=>k_is)
    (case l25=>k_is)
    (case c25=>k_is)
    (case k25=>k_is)
    (case a26=>k_is)
    (case l26=>k_is)
    (case c26=>k_is)
    (case k26=>k_is)
    (case a27=>k_is)
    (case l27=>k_is)
    (case c27=>k_is)
    (case k27=>k_is)
    (case a28=>k_is)
    (case l28=>k_is)
    (case c28=>k_is)
    (case k28=>k_is)
    (case a29=>k_is)
    (case l29=>k_is)
    (case c29=>k_is)
    (case k29=>k_is)
    (case a30=>k_is)
    (case l30=>k_is)
    (case c30=>k_is)
    (case k30=>k_is)
    (case a31=>k_is)
    (case l31=>k_is)
    (case c31=>k_is)
    (case k31=>k_is)
    (case z_abs=>k_is)
    (case z_all=>k_is)
    (case z_any=>k_is)
    (case z_bool=>k_is)
    (case z_divmod=>k_is)
    (case z_enumerate=>k_is)
    (case z_int=>k_is)
    (case z_isinstance=>k_is)
    (case z_len=>k_is)
    (case z_list=>k_is)
    (case z_max=>k_is)
    (case z_range=>k_is)
    (case z_set=>k_is)
    (case z_sorted=>k_is)
    (case z_str=>k_is)
    (case z_tuple=>k_is)
    (case z_zip=>k_is)
