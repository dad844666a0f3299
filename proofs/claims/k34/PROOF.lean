import PyProof.Rows.All
import Wide.All
import OpenK.AllK
import Wide.FinOn
import Lean
import PyProof.EqAt
import PyProof.EqKinds
import PyProof.TupleCall
import PyProof.NeKinds
import PyProof.ReprRoads
import PyProof.ReprBulk
import PyProof.SumWalk
import PyProof.FString5
import PyProof.StrBlock2
import PyProof.StrBlockI
import PyProof.StrBlockH
import PyProof.StrWalks
import PyProof.StrLawsIn
import PyProof.AutoListH
import PyProof.CompUse
import PyProof.ListRange
import PyProof.CallFns
import PyProof.ListTruth
import PyProof.Rows.Range3
import PyProof.SeqI3
import KE.KRevSl
import PyProof.DictIter
import PyProof.DictWalks
import PyProof.DictCompW
import PyProof.Cells
import OpenK.KOwn
import PyProof.ExcClass3
import PyProof.ExcInit
import PyProof.ExcBaseAll.ValueError
import PyProof.ExcArgsOwn
import PyProof.ExcAttrAll.ValueError
import PyProof.Rows.SortWalk
import PyProof.Rows.SortStr
import PyProof.MeetsDict
import PyProof.DictUpdate
import PyProof.FactsAll.dict_3
import KE.KDictList
import PyProof.FactsAll.dict_4
import KE.KDictSum
import PyProof.IsiH_list
import PyProof.Rows.Exc
import KE.KDictOf
import PyProof.SetKind
import PyProof.Rows.SetFrom
import PyProof.FactsAll.set_1
import PyProof.FactsAll.set_2
import KE.KSortTup
import KE.KItemsList
import PyProof.Rows.SortRev
import PyProof.Rows.StrCase
import PyProof.Rows.StrLen
import KE.KPairComp
import KE.KMinKey
import PyProof.Ascii
import PySem.Challenge.RW_pickboard_k34_matchings_spoilt_anywhere
set_option Elab.async false
set_option linter.all false
set_option maxRecDepth 100000
namespace L2
open PySem PySem.Spec PyProof.Rows
abbrev Key := Sum Int Str
def vQ : Key -> Value -> Bool
  | .inl k,v => Value.isInt k v
  | .inr x,v => Value.isStrOf x v
def zam (w : World) : Key -> Int
  | .inl k => hashInt k
  | .inr x => hashStr w x
theorem qc : ∀ {k : Key} {v : Value},vQ k v = true -> (∃ i t,k = Sum.inl i /\ v = Value.int i t) \/ (∃ x t,k = Sum.inr x /\ v = Value.str x t)
  | .inl i,v,h => by
    obtain ⟨t,e⟩ := Value.isInt_shape (k := i) (v := v) h
    exact .inl ⟨i,t,rfl,e⟩
  | .inr x,v,h => by
    obtain ⟨t,e⟩ := Value.isStrOf_shape (x := x) (v := v) h
    exact .inr ⟨x,t,rfl,e⟩
theorem Jm (i : Int) (t : Tok) : vQ (.inl i) (.int i t) = true := by simp [vQ,Value.isInt]
theorem Jl (x : Str) (t : Tok) : vQ (.inr x) (.str x t) = true := by simp [vQ,Value.isStrOf]
theorem WV (a b : Int) : decide ((Sum.inl a : Key) = Sum.inl b) = (a == b) := by
  by_cases e : a = b
  · subst e;simp
  · have h : ¬ (Sum.inl a : Key) = Sum.inl b := fun q => e (Sum.inl.inj q)
    rw [decide_eq_false h]
    exact (beq_eq_false_iff_ne.mpr e).symm
theorem WS (a b : Str) : decide ((Sum.inr a : Key) = Sum.inr b) = decide (a = b) := by
  by_cases e : a = b
  · subst e;simp
  · have h : ¬ (Sum.inr a : Key) = Sum.inr b := fun q => e (Sum.inr.inj q)
    rw [decide_eq_false h,decide_eq_false e]
theorem WU (a : Int) (b : Str) : decide ((Sum.inl a : Key) = Sum.inr b) = false := decide_eq_false (fun q => nomatch q)
theorem WT (a : Str) (b : Int) : decide ((Sum.inr a : Key) = Sum.inl b) = false := decide_eq_false (fun q => nomatch q)
def zO (prog : Program) (w : World) : PySem.KeyKind prog w Key where
  is := vQ
  hash := zam w
  inj := fun v a b ha hb => by
    rcases qc ha with ⟨i,t,rfl,rfl⟩ | ⟨x,t,rfl,rfl⟩
    · rcases qc hb with ⟨j,u,rfl,e⟩ | ⟨y,u,rfl,e⟩
      · injection e with e1 _;rw [e1]
      · exact nomatch e
    · rcases qc hb with ⟨j,u,rfl,e⟩ | ⟨y,u,rfl,e⟩
      · exact nomatch e
      · injection e with e1 _;rw [e1]
  byValue := fun k v h => by
    rcases qc h with ⟨i,t,rfl,rfl⟩ | ⟨x,t,rfl,rfl⟩ <;> rfl
  pyHash := fun hv h => by
    rcases qc hv with ⟨i,t,rfl,rfl⟩ | ⟨x,t,rfl,rfl⟩
    · exact wpAny_pyHash_int h
    · exact wpAny_pyHash_str h
  eqBool := fun hu hv h => by
    rcases qc hu with ⟨i,t,rfl,rfl⟩ | ⟨x,t,rfl,rfl⟩
    · rcases qc hv with ⟨j,u,rfl,rfl⟩ | ⟨y,u,rfl,rfl⟩
      · rw [WV] at h;exact wpAny_eqBool_int h
      · rw [WU] at h;exact SeqAt.EqAt.int_str i t y u _ _ _ _ h
    · rcases qc hv with ⟨j,u,rfl,rfl⟩ | ⟨y,u,rfl,rfl⟩
      · rw [WT] at h;exact SeqAt.EqAt.str_int x t j u _ _ _ _ h
      · rw [WS] at h;exact wpAny_eqBool_str h
  «strs» := fun k x t v h => by
    rcases qc h with ⟨i,u,rfl,e⟩ | ⟨y,u,rfl,e⟩
    · exact nomatch e
    · injection e with e1 _
      subst e1
      cases v <;> rfl
theorem ZO (prog : Program) (w : World) (k : Key) (v : Value) : (zO prog w).is k v = vQ k v := rfl
theorem yZ (prog : Program) (w : World) (i : Int) (t : Tok) : (zO prog w).is (.inl i) (.int i t) = true := Jm i t
theorem yY (prog : Program) (w : World) (x : Str) (t : Tok) : (zO prog w).is (.inr x) (.str x t) = true := Jl x t
end L2
namespace L2
open PySem PySem.Spec PyProof.Rows
inductive V where
  | non | bl (b : Bool) | int (i : Int) | str (x : Str) | byt (b : Array UInt8) | flt (b : UInt64) | ref (a : Addr) | ty (n : String)
  deriving DecidableEq
def RelV : V -> Value -> Prop
  | .non,u => u = Value.none
  | .bl b,u => u = Value.bool b
  | .int i,u => ∃ t,u = Value.int i t
  | .str x,u => ∃ t,u = Value.str x t
  | .byt b,u => ∃ t,u = Value.bytes b t
  | .flt b,u => ∃ t,u = Value.float b t
  | .ref a,u => u = Value.ref a
  | .ty n,u => u = Value.type n
abbrev Vals : List V -> List Value -> Prop := Paired RelV
theorem Vals.length {xs : List V} {us : List Value} (r : Vals xs us) : xs.length = us.length := Paired.length r
theorem Vals.get : ∀ {xs : List V} {us : List Value} {i : Nat} {x : V},Vals xs us -> xs[i]? = some x -> ∃ u,us[i]? = some u /\ RelV x u
  | _,_,_,_,.nil,e => by simp at e
  | _,_,0,_,.cons r _,e => by simp at e;subst e;exact ⟨_,rfl,r⟩
  | _,_,i + 1,x,.cons _ t,e => by
    obtain ⟨u,h1,h2⟩ := Vals.get (i := i) (x := x) t (by simpa using e)
    exact ⟨u,by simpa using h1,h2⟩
theorem Vals.set {x : V} {u : Value} (r : RelV x u) : ∀ {xs : List V} {us : List Value} (i : Nat),Vals xs us -> Vals (xs.set i x) (us.set i u)
  | _,_,_,.nil => .nil
  | _,_,0,.cons _ t => .cons r t
  | _,_,i + 1,.cons q t => .cons q (Vals.set r i t)
theorem Vals.append : ∀ {xs ys : List V} {us ws : List Value},Vals xs us -> Vals ys ws -> Vals (xs ++ ys) (us ++ ws)
  | _,_,_,_,.nil,s => s
  | _,_,_,_,.cons r t,s => .cons r (Vals.append t s)
theorem Vals.take : ∀ {xs : List V} {us : List Value} (n : Nat),Vals xs us -> Vals (xs.take n) (us.take n)
  | _,_,0,_ => .nil
  | _,_,_ + 1,.nil => .nil
  | _,_,n + 1,.cons r t => .cons r (Vals.take n t)
theorem Vals.drop : ∀ {xs : List V} {us : List Value} (n : Nat),Vals xs us -> Vals (xs.drop n) (us.drop n)
  | _,_,0,r => r
  | _,_,_ + 1,.nil => .nil
  | _,_,n + 1,.cons _ t => Vals.drop n t
theorem Vals.none_of : ∀ {xs : List V} {us : List Value} {i : Nat},Vals xs us -> xs[i]? = none -> us[i]? = none := fun {xs us i} r e => by
  have h1 := r.length
  have h2 : xs.length <= i := List.getElem?_eq_none_iff.mp e
  exact List.getElem?_eq_none_iff.mpr (by omega)
def RelO : Option V -> Option Value -> Prop
  | some v,some u => RelV v u
  | none,none => True
  | _,_ => False
def KV {κ : Type} : List (κ × V) -> List (κ × Value) -> Prop := Paired fun (p : κ × V) (q : κ × Value) => p.1 = q.1 /\ RelV p.2 q.2
def kV : Key -> V
  | .inl i => .int i
  | .inr x => .str x
inductive HO where
    | lst (xs : List V)
    | tup (xs : List V)
    | dK (kvs : List (Key × V)) | dT (kvs : List (List Key × V))
    | set (S : Int -> Bool) (n : Nat)
    | ins (C dx : Addr) (fs : List (Str × V))
    | own (x : Addr)
    | xd (fs : List (Str × V))
    | met (f x : Addr)
    | rng (lo hi : Int)
    | frz (o : Obj) (u : HO)
    | tbl (ps : Array Value)
    | ext (φ : Heap -> Prop)
abbrev Hp := Addr -> Option HO
def upd (H : Hp) (a : Addr) (o : HO) : Hp := fun b => if b = a then some o else H b
theorem zi {H : Hp} {a : Addr} {o : HO} : upd H a o a = some o := by unfold upd;rw [if_pos rfl]
theorem zw {H : Hp} {a b : Addr} {o : HO} (h : b ≠ a) : upd H a o b = H b := by unfold upd;rw [if_neg h]
theorem YS {H : Hp} {a b : Addr} {o u : HO} (h : H a = some o) (h' : H b = some u) (d : o ≠ u) : a ≠ b := by
  intro e;subst e;rw [h] at h';exact d (Option.some.inj h')
theorem zr {H : Hp} {a b : Addr} {o : HO} (h : H a = some o) (h' : H b = none) : a ≠ b := by
  intro e;subst e;rw [h] at h';cases h'
section
variable (P : Program) (w : World)
def TupX (h : Heap) (a : Addr) (its : Array Value) : Prop := IsTup h a its /\ ∃ o,h.get? a = some o /\ o.dict = none
theorem TupX.by {h : Heap} {a : Addr} {its : Array Value} {n : Nat} (e : h.get? a = some { cls := .type "tuple",data := .seq its n }) : TupX h a its := ⟨⟨_,e,rfl,n,rfl⟩,_,e,rfl⟩
def ObjOk (H : Hp) (h : Heap) (a : Addr) : HO -> Prop
  | .lst xs => xs.length <= sizeLine /\ ∃ (its : List Value) (n : Nat),Vals xs its /\ h.get? a = some { cls := .type "list",data := .seq its.toArray n }
  | .tup xs => xs.length <= sizeLine /\ ∃ its : List Value,Vals xs its /\ TupX h a its.toArray
  | .dK kvs => kvs.length <= sizeLine /\ (a == sysModules) = false /\ ∃ vs,KV kvs vs /\ h.DictOf (zO P w) a vs
  | .dT kvs => kvs.length <= sizeLine /\ (a == sysModules) = false /\ ∃ xs : List (List Key × Addr × Value),
      Paired (fun (p : List Key × V) (q : List Key × Addr × Value) => p.1 = q.1 /\ H q.2.1 = some (.tup (p.1.map kV)) /\ RelV p.2 q.2.2) kvs xs /\
      ∃ o es ep,h.get? a = some o /\ o.ExactDict /\ o.data = .dict es ep /\ es.toList = xs.map (entryOfKey (tupleKind (zO P w))) /\ (xs.map (·.1)).Nodup
  | .set S n => h.SetOf (intKind P w) a S n
  | .ins C dx fs => H dx = some (.own a) /\ fs.length <= 1000 /\ dx ≠ a /\ h.get? a = some (PySem.W.instObj C dx) /\
      ∃ mA,h.Ns1 dx mA /\ (∀ f,RelO (fs.lookup f) (mA f)) /\ PySem.Within mA (fs.map (·.1))
  | .own _ => ∃ o,h.get? a = some o
  | .xd fs => ∃ mA,h.Ns1 a mA /\ ∀ f,RelO (fs.lookup f) (mA f)
  | .rng lo hi => ∃ t u v,h.get? a = some { cls := .type "range",data := .fields #[.int lo t,.int hi u,.int 1 v] }
  | .frz o u => h.get? a = some o /\ ObjOk H h a u
  | .tbl ps => h.get? a = some { cls := .none,data := .fields ps }
  | .met f x => h.get? a = some (PySem.W.methodObj (.ref f) (.ref x))
  | .ext φ => φ h /\ (∃ o,h.get? a = some o) /\ ∀ h1 h2 : Heap,φ h1 -> (∀ o,h1.get? a = some o -> h2.get? a = some o) -> φ h2
def HOk (H : Hp) (h : Heap) : Prop := ∀ a o,H a = some o -> ObjOk P w H h a o
end
section
variable {P : Program} {w : World} {H H' : Hp} {h h' : Heap} {a : Addr} {o : HO}
theorem ObjOk.lt (x : ObjOk P w H h a o) : a < h.objs.size := by
  cases o with
  | lst xs => obtain ⟨_,_,_,_,e⟩ := x;exact Heap.lt_size e
  | tup xs => obtain ⟨_,_,_,p⟩ := x;exact p.1.lt
  | dK kvs => obtain ⟨_,_,_,_,o,_,_,e,_⟩ := x;exact Heap.lt_size e
  | dT kvs => obtain ⟨_,_,_,_,o,_,_,e,_⟩ := x;exact Heap.lt_size e
  | set S n => obtain ⟨o,_,_,_,e,_⟩ := x;exact Heap.lt_size e
  | ins C dx fs => obtain ⟨_,_,_,e,_⟩ := x;exact Heap.lt_size e
  | own y => obtain ⟨_,e⟩ := x;exact Heap.lt_size e
  | xd fs => obtain ⟨_,⟨_,_,_,e,_⟩,_⟩ := x;exact Heap.lt_size e
  | rng lo hi => obtain ⟨_,_,_,e⟩ := x;exact Heap.lt_size e
  | frz ob u => obtain ⟨e,_⟩ := x;exact Heap.lt_size e
  | tbl ps => exact Heap.lt_size (show h.get? a = some _ from x)
  | met f y => exact Heap.lt_size (show h.get? a = some _ from x)
  | ext φ => obtain ⟨_,⟨_,e⟩,_⟩ := x;exact Heap.lt_size e
theorem Paired.mapP {α β : Type} {F G : α -> β -> Prop} : ∀ {l₁ : List α} {l₂ : List β},Paired F l₁ l₂ -> (∀ a b,F a b -> G a b) -> Paired G l₁ l₂
  | _,_,.nil,_ => .nil
  | _,_,.cons r t,f => .cons (f _ _ r) (Paired.mapP t f)
theorem ObjOk.stay (x : ObjOk P w H h a o) (k : ∀ b u,(b = a \/ H b = some (.own a)) -> h.get? b = some u -> h'.get? b = some u)
    (ho : ∀ b,H b = some (.own a) -> H' b = some (.own a)) (ht : ∀ b xs,H b = some (.tup xs) -> H' b = some (.tup xs)) : ObjOk P w H' h' a o := by
  induction o with
  | lst xs => obtain ⟨z,its,n,r,e⟩ := x;exact ⟨z,its,n,r,k _ _ (.inl rfl) e⟩
  | tup xs => obtain ⟨z,its,r,⟨ob,e,c⟩,o2,e2,dn⟩ := x;exact ⟨z,its,r,⟨ob,k _ _ (.inl rfl) e,c⟩,o2,k _ _ (.inl rfl) e2,dn⟩
  | dK kvs => obtain ⟨z,y,vs,r,ob,es,ep,e,c⟩ := x;exact ⟨z,y,vs,r,ob,es,ep,k _ _ (.inl rfl) e,c⟩
  | dT kvs =>
    obtain ⟨z,y,xs,r,ob,es,ep,e,c⟩ := x
    exact ⟨z,y,xs,Paired.mapP r fun p q z => ⟨z.1,ht _ _ z.2.1,z.2.2⟩,ob,es,ep,k _ _ (.inl rfl) e,c⟩
  | set S n => obtain ⟨ob,es,ep,t,e,c⟩ := x;exact ⟨ob,es,ep,t,k _ _ (.inl rfl) e,c⟩
  | ins C dx fs =>
    obtain ⟨d,z,ne,e,mA,⟨od,es,ep,e2,c⟩,r⟩ := x
    exact ⟨ho _ d,z,ne,k _ _ (.inl rfl) e,mA,⟨od,es,ep,k _ _ (.inr d) e2,c⟩,r⟩
  | own y => obtain ⟨ob,e⟩ := x;exact ⟨ob,k _ _ (.inl rfl) e⟩
  | xd fs => obtain ⟨mA,⟨od,es,ep,e,c⟩,r⟩ := x;exact ⟨mA,⟨od,es,ep,k _ _ (.inl rfl) e,c⟩,r⟩
  | rng lo hi => obtain ⟨t,u,v,e⟩ := x;exact ⟨t,u,v,k _ _ (.inl rfl) e⟩
  | frz ob u ih => obtain ⟨e,q⟩ := x;exact ⟨k _ _ (.inl rfl) e,ih q⟩
  | tbl ps =>
    have e : h.get? a = some { cls := .none,data := .fields ps } := x
    show h'.get? a = some { cls := .none,data := .fields ps }
    exact k a _ (.inl rfl) e
  | met f y =>
    have e : h.get? a = some (PySem.W.methodObj (.ref f) (.ref y)) := x
    show h'.get? a = some (PySem.W.methodObj (.ref f) (.ref y))
    exact k a _ (.inl rfl) e
  | ext φ => obtain ⟨p,⟨o,e⟩,st⟩ := x;exact ⟨st _ _ p fun o q => k _ _ (.inl rfl) q,⟨o,k _ _ (.inl rfl) e⟩,st⟩
theorem HOk.lt (x : HOk P w H h) (e : H a = some o) : a < h.objs.size := (x a o e).lt
theorem HOk.fresh (x : HOk P w H h) (e : h.objs.size <= a) : H a = none := by
  cases q : H a with
  | none => rfl
  | some u => exact absurd (Nat.lt_of_lt_of_le (x.lt q) e) (Nat.lt_irrefl _)
theorem HOk.kept (x : HOk P w H h) (k : ∀ b u,h.get? b = some u -> h'.get? b = some u) : HOk P w H h' := fun a o e =>
  (x a o e).stay (fun b u _ q => k b u q) (fun _ q => q) fun _ _ q => q
theorem HOk.laid (x : HOk P w H h) (k : ∀ b u,h.get? b = some u -> h'.get? b = some u) (hp : h.objs.size <= a) (new : ObjOk P w (upd H a o) h' a o) : HOk P w (upd H a o) h' := fun b u e => by
  have hn := x.fresh hp
  by_cases hb : b = a
  · subst hb;rw [zi] at e;cases e;exact new
  · rw [zw hb] at e
    exact (x b u e).stay (fun c v _ q => k c v q) (fun c q => by rw [zw (zr q hn)];exact q) fun c xs q => by rw [zw (zr q hn)];exact q
end
def Rd (H : Hp) (a : Addr) (u : HO) : Prop := H a = some u \/ ∃ o,H a = some (.frz o u)
theorem Rd.of {H : Hp} {a : Addr} {u : HO} (h : H a = some u) : Rd H a u := .inl h
theorem Rd.ok {P : Program} {w : World} {H : Hp} {h : Heap} {a : Addr} {u : HO} (r : Rd H a u) (x : HOk P w H h) : ObjOk P w H h a u := by
  rcases r with r | ⟨o,r⟩
  · exact x a u r
  · obtain ⟨_,q⟩ := x a _ r
    exact q
def Mut : Option HO -> Prop
  | some (.lst _) => True
  | some (.dK _) => True
  | some (.dT _) => True
  | some (.set _ _) => True
  | some (.ins _ _ _) => True
  | some (.ext _) => True
  | _ => False
section
variable {P : Program} {w : World} {H : Hp} {h h' : Heap} {x e : Addr} {o' : HO}
theorem HOk.write (ok : HOk P w H h) (mu : Mut (H x)) (he : e = x \/ H e = some (.own x)) (k : ∀ b u,b ≠ e -> h.get? b = some u -> h'.get? b = some u) (heo : ∃ u,h'.get? e = some u)
    (new : ObjOk P w (upd H x o') h' x o') : HOk P w (upd H x o') h' := fun b u q => by
  have nown : ∀ c y,H c = some (.own y) -> c ≠ x := fun c y r z => by subst z;rw [r] at mu;exact mu
  have ntup : ∀ c xs,H c = some (.tup xs) -> c ≠ x := fun c xs r z => by subst z;rw [r] at mu;exact mu
  by_cases hb : b = x
  · subst hb;rw [zi] at q;cases q;exact new
  · rw [zw hb] at q
    by_cases hbe : b = e
    · have q' : H b = some (.own x) := by
        rcases he with z | z
        · exact absurd (hbe.trans z) hb
        · rw [hbe];exact z
      rw [q] at q';cases q'
      obtain ⟨v,hv⟩ := heo
      exact ⟨v,by rw [hbe];exact hv⟩
    · refine (ok b u q).stay (fun c v hc r => k c v ?_ r) (fun c r => by rw [zw (nown c b r)];exact r) fun c xs r => by rw [zw (ntup c xs r)];exact r
      rcases hc with rfl | hc
      · exact hbe
      · rintro rfl
        rcases he with z | z
        · exact nown c b hc z
        · rw [hc] at z;cases z;exact hb rfl
end
structure Un (fs ex : List Addr) (H H' : Hp) (h h' : Heap) : Prop where
  keep : ∀ b o,h.get? b = some o -> H b = none -> b ∉ fs -> b ∉ ex -> h'.get? b = some o
  slot : ∀ b o,h.get? b = some o -> H b = none -> b ∈ fs -> b ∉ ex -> ∃ sl,h'.get? b = some { o with slots := sl }
  free : ∀ b o,h.get? b = some o -> H b = none -> b ∉ ex -> H' b = none
  there : ∀ b o,h.get? b = some o -> b ∉ ex -> ∃ o',h'.get? b = some o'
  tups : ∀ b xs,H b = some (.tup xs) -> H' b = some (.tup xs)
  frzs : ∀ b o u,H b = some (.frz o u) -> H' b = some (.frz o u)
  tbls : ∀ b ps,H b = some (.tbl ps) -> ∃ more,H' b = some (.tbl (ps ++ more))
section
variable {fs fs' ex ex' : List Addr} {H H1 H2 : Hp} {h h1 h2 h' : Heap} {a x e : Addr} {o : HO}
theorem Un.any (u : Un fs ex H H1 h h1) {b : Addr} {ob : Obj} (q : h.get? b = some ob) (n : H b = none) (hx : b ∉ ex) : ∃ sl,h1.get? b = some { ob with slots := sl } := by
  by_cases hb : b ∈ fs
  · exact u.slot b ob q n hb hx
  · exact ⟨ob.slots,u.keep b ob q n hb hx⟩
theorem Un.trans (a : Un fs ex H H1 h h1) (b : Un fs ex H1 H2 h1 h2) : Un fs ex H H2 h h2 where
  keep := fun c ob q n hc hx => b.keep c ob (a.keep c ob q n hc hx) (a.free c ob q n hx) hc hx
  slot := fun c ob q n hc hx => by
    obtain ⟨sl,e1⟩ := a.slot c ob q n hc hx
    obtain ⟨sl',e2⟩ := b.slot c _ e1 (a.free c ob q n hx) hc hx
    exact ⟨sl',e2⟩
  free := fun c ob q n hx => by
    obtain ⟨o',e1⟩ := a.there c ob q hx
    exact b.free c o' e1 (a.free c ob q n hx) hx
  there := fun c ob q hx => by
    obtain ⟨o',e1⟩ := a.there c ob q hx
    exact b.there c o' e1 hx
  tups := fun c xs q => b.tups c xs (a.tups c xs q)
  frzs := fun c ob xs q => b.frzs c ob xs (a.frzs c ob xs q)
  tbls := fun c ps q => by
    obtain ⟨m1,e1⟩ := a.tbls c ps q
    obtain ⟨m2,e2⟩ := b.tbls c _ e1
    exact ⟨m1 ++ m2,by rw [e2,Array.append_assoc]⟩
theorem Un.kept (k : ∀ b u,h.get? b = some u -> h'.get? b = some u) : Un fs ex H H h h' :=
  ⟨fun b ob q _ _ _ => k b ob q,fun b ob q _ _ _ => ⟨ob.slots,k b ob q⟩,fun _ _ _ n _ => n,fun b ob q _ => ⟨ob,k b ob q⟩,fun _ _ q => q,fun _ _ _ q => q,fun _ ps q => ⟨#[],by rw [q];simp⟩⟩
theorem Un.refl : Un fs ex H H h h := Un.kept fun _ _ q => q
theorem Un.laid (k : ∀ b u,h.get? b = some u -> h'.get? b = some u) (hp : h.objs.size <= a) (hn : H a = none) : Un fs ex H (upd H a o) h h' where
  keep := fun b u q _ _ _ => k b u q
  slot := fun b u q _ _ _ => ⟨u.slots,k b u q⟩
  free := fun b u q n _ => by rw [zw (Nat.ne_of_lt (Nat.lt_of_lt_of_le (Heap.lt_size q) hp))];exact n
  there := fun b u q _ => ⟨u,k b u q⟩
  tups := fun b xs q => by rw [zw (zr q hn)];exact q
  frzs := fun b u xs q => by rw [zw (zr q hn)];exact q
  tbls := fun b ps q => ⟨#[],by rw [zw (zr q hn),q];simp⟩
theorem Un.write (mu : Mut (H x)) (he : e = x \/ H e = some (.own x)) (k : ∀ b u,b ≠ e -> h.get? b = some u -> h'.get? b = some u) (heo : ∃ u,h'.get? e = some u) : Un fs ex H (upd H x o) h h' := by
  have hx : ∀ b,H b = none -> b ≠ x := fun b n z => by subst z;rw [n] at mu;exact mu
  have hb : ∀ b,H b = none -> b ≠ e := fun b n z => by
    subst z
    rcases he with r | r
    · exact hx b n r
    · rw [n] at r;cases r
  have hm : ∀ b u,H b = some u -> ¬ Mut (some u) -> b ≠ x := fun b u q nm z => by subst z;rw [q] at mu;exact nm mu
  refine ⟨fun b u q n _ _ => k b u (hb b n) q,fun b u q n _ _ => ⟨u.slots,k b u (hb b n) q⟩,fun b u q n _ => by rw [zw (hx b n)];exact n,fun b u q _ => ?_,
    fun b xs q => by rw [zw (hm b _ q fun z => z)];exact q,fun b u xs q => by rw [zw (hm b _ q fun z => z)];exact q,fun b ps q => ⟨#[],by rw [zw (hm b _ q fun z => z),q];simp⟩⟩
  by_cases hbe : b = e
  · subst hbe;exact heo
  · exact ⟨u,k b u hbe q⟩
theorem Un.mono (u : Un fs ex H H1 h h1) (hs : ∀ b ∈ fs,b ∈ fs') (hx : ∀ b ∈ ex,b ∈ ex') : Un fs' ex' H H1 h h1 :=
  ⟨fun b ob q n hb he => u.keep b ob q n (fun z => hb (hs b z)) fun z => he (hx b z),fun _ _ q n _ he => u.any q n fun z => he (hx _ z),fun b ob q n he => u.free b ob q n fun z => he (hx b z),fun b ob q he => u.there b ob q fun z => he (hx b z),u.tups,u.frzs,u.tbls⟩
end
def trk (h : Heap) (H : Hp) : List Addr := (List.range h.objs.size).filter fun a => (H a).isSome
def yn (h : Heap) (H : Hp) : Heap := PySem.W.hideAll h (trk h H)
theorem Jo (h : Heap) (H : Hp) : (yn h H).objs.size = h.objs.size := PySem.W.hideAll_size _ _
theorem XF {h : Heap} {H : Hp} {b : Addr} {o : Obj} (e : h.get? b = some o) (n : H b = none) : (yn h H).get? b = some o :=
  PySem.W.hideAll_get _ e fun hm => by
    have q : (H b).isSome = true := (List.mem_filter.mp hm).2
    rw [n] at q;simp at q
theorem Vw {h : Heap} {H : Hp} {b : Addr} {o : Obj} (e : (yn h H).get? b = some o) : h.get? b = some o /\ H b = none := by
  have e' : h.get? b = some o := PySem.W.of_hideAll (trk h H) e
  refine ⟨e',?_⟩
  cases q : H b with
  | none => rfl
  | some x =>
    have hm : b ∈ trk h H := List.mem_filter.mpr ⟨List.mem_range.mpr (Heap.lt_size e'),by simp [q]⟩
    have z : (yn h H).get? b = none := PySem.W.hideAll_none (trk h H) hm
    rw [z] at e;cases e
def VR (g h : Heap) (L : Addr) : List (Addr × Obj) := (List.range h.objs.size).filterMap fun a => if a = L \/ (g.get? a).isSome = true then none else (h.get? a).map fun o => (a,o)
def xF (g h : Heap) (L d : Addr) : List (Addr × Obj) := (VR g h L).filter fun p => decide (p.1 ≠ d)
end L2
namespace L2
open PySem PySem.Spec PyProof.Rows
structure Mod (K : PySem.W.Frag) (mg : Str -> Option Value) (base : Heap) : Prop where
  kin : K.In base
  glob : base.Ns mainGlobals mg
  blt : ∃ mb,base.Ns builtinsNs mb /\ ∀ x : Str,x ≠ "__name__" -> mb x = bootBuiltins x
  nolimit : base.NoLimit
structure Cx where
  prog : Program
  w : World
  K : PySem.W.Frag
  mg : Str -> Option Value
  base : Heap
  A : Around
  N : List Str
  s₀ : Shared
  H₀ : Hp
  env : Env
  outer : List Env
  stack : List Env
  ex : List Addr
  fn : Str -> Bool
  calm : Bool
  pn : List (Addr × Obj)
  xe : Value -> Shared -> Prop
def frs (l : List Env) : List Addr := l.filterMap (·.frame)
abbrev Cx.fs (X : Cx) : List Addr := frs X.outer
def Vis (sc : Scope) (x : Str) : Prop := sc.names.lookup x = some .local \/ sc.names.lookup x = some .cell \/ sc.names.lookup x = some .free
def Loc (sc : Scope) (x : Str) : Prop := sc.names.lookup x = some .local \/ sc.names.lookup x = some .cell
def zas (env : Env) (h : Heap) (m : Str -> Option Value) (x : Str) (u : Value) : Prop :=
  (env.kindOf x = some .local /\ m x = some u) \/ ((env.kindOf x = some .cell \/ env.kindOf x = some .free) /\ ∃ c,env.cells.lookup x = some c /\ h.IsCell c (some u))
structure Cx.Ok (X : Cx) : Prop where
  mod : Mod X.K X.mg X.base
  kind : X.env.scope.kind = .function
  glob : X.env.globals = mainGlobals
  blt : X.env.builtins = builtinsNs
  above : X.s₀.heap.objs.size <= X.env.locals
  inj : ∀ x y c,X.env.cells.lookup x = some c -> X.env.cells.lookup y = some c -> x = y
  has : ∀ x,(X.env.kindOf x = some .cell \/ X.env.kindOf x = some .free) -> ∃ c,X.env.cells.lookup x = some c
  cab : ∀ x c,X.fn x = true -> X.env.cells.lookup x = some c -> X.s₀.heap.objs.size <= c
  hd : X.calm = true -> X.A.handled = none
  frames : X.A.frames = some X.stack
  stk : X.stack = X.outer \/ (X.stack = X.env :: X.outer /\ X.env.frame = some X.env.locals)
  exf : ∀ b ∈ X.ex,b ≠ X.env.locals /\ ∀ x c,X.env.cells.lookup x = some c -> c ≠ b
  bs : ∀ b o,X.base.get? b = some o -> X.s₀.heap.get? b = some o /\ X.H₀ b = none
  bsz : X.base.objs.size <= X.s₀.heap.objs.size
  noex : ∀ b o,X.base.get? b = some o -> b ∉ X.ex
  exfs : ∀ b ∈ X.ex,b ∉ X.fs
  funs : X.s₀.heap.FunFrames X.base X.outer
  frf : ∀ b ∈ X.fs,X.H₀ b = none
structure Inv (X : Cx) (pins : List (Addr × Obj)) (σ : List (Option V)) (H : Hp) (s : Shared) : Prop where
  ok : X.Ok
  os : s.os = X.s₀.os
  bare : AllBare s.gens
  base : Un X.fs X.ex X.H₀ H X.s₀.heap s.heap
  loc : ∃ m,s.heap.Ns X.env.locals m /\ ∀ (i : Nat) (x : Str) (v : V),X.N[i]? = some x -> σ[i]? = some (some v) -> Vis X.env.scope x -> ∃ u,RelV v u /\ zas X.env s.heap m x u
  cell : ∀ x c,X.env.cells.lookup x = some c -> ∃ v,s.heap.IsCell c v
  free : H X.env.locals = none
  freeC : ∀ x c,X.env.cells.lookup x = some c -> H c = none
  pin : ∀ p ∈ X.pn ++ pins,s.heap.get? p.1 = some p.2 /\ H p.1 = none /\ p.1 ≠ X.env.locals /\ p.1 ∉ X.fs /\ ∀ v,p.2.data ≠ .cell v
  hok : HOk X.prog X.w H s.heap
  len : σ.length = X.N.length
section
variable {X : Cx} {pins : List (Addr × Obj)} {σ : List (Option V)} {H H' : Hp} {s : Shared} {h' : Heap}
theorem Cx.Ok.nofr (ok : X.Ok) {b : Addr} {o : Obj} (e : X.base.get? b = some o) : b ∉ X.fs := fun hb => by
  have := (ok.funs.mem hb).1
  rw [e] at this;cases this
theorem Inv.bs (I : Inv X pins σ H s) : ∀ b o,X.base.get? b = some o -> s.heap.get? b = some o /\ H b = none := fun b o e =>
  ⟨I.base.keep b o (I.ok.bs b o e).1 (I.ok.bs b o e).2 (I.ok.nofr e) (I.ok.noex b o e),I.base.free b o (I.ok.bs b o e).1 (I.ok.bs b o e).2 (I.ok.noex b o e)⟩
theorem Inv.bk (I : Inv X pins σ H s) : ∀ b o,X.base.get? b = some o -> s.heap.get? b = some o := fun b o e => (I.bs b o e).1
theorem Inv.mod (I : Inv X pins σ H s) : Mod X.K X.mg X.base := I.ok.mod
theorem Inv.kIn (I : Inv X pins σ H s) : X.K.In s.heap := I.ok.mod.kin.keeps I.bk
theorem Inv.nolimit (I : Inv X pins σ H s) : s.heap.NoLimit := I.ok.mod.nolimit.keeps I.bk
theorem Inv.fr (I : Inv X pins σ H s) : ∃ m,Fr X.base X.env.locals s.heap m :=
  let ⟨m,hn,_⟩ := I.loc
  ⟨m,hn,I.bk,Nat.le_trans I.ok.bsz I.ok.above⟩
theorem Inv.lt (I : Inv X pins σ H s) : X.env.locals < s.heap.objs.size := let ⟨_,hn,_⟩ := I.loc;hn.lt
theorem Inv.sz (I : Inv X pins σ H s) : X.s₀.heap.objs.size <= s.heap.objs.size := Nat.le_trans I.ok.above (Nat.le_of_lt I.lt)
theorem Inv.nofs (I : Inv X pins σ H s) {a : Addr} (h : s.heap.objs.size <= a) : a ∉ X.fs := fun hb => by
  obtain ⟨_,o,ho,_⟩ := I.ok.funs.mem hb
  exact absurd (Nat.lt_of_lt_of_le (Heap.lt_size ho) (Nat.le_trans I.sz h)) (Nat.lt_irrefl _)
theorem Inv.cne (I : Inv X pins σ H s) : ∀ x c,X.env.cells.lookup x = some c -> c ≠ X.env.locals := fun x c e z => by
  obtain ⟨v,o,ho,hd⟩ := I.cell x c e
  obtain ⟨m,⟨o',es,ep,ho',hd',_⟩,_⟩ := I.loc
  rw [z,ho'] at ho;cases ho;rw [hd'] at hd;cases hd
theorem Inv.funs (I : Inv X pins σ H s) : s.heap.FunFrames X.base X.outer := by
  have all : ∀ (l : List Env),(∀ b ∈ frs l,b ∈ X.fs) -> X.s₀.heap.FunFrames X.base l -> s.heap.FunFrames X.base l := by
    intro l
    induction l with
    | nil => intro _ _;trivial
    | cons env r ih =>
      intro hs hl
      obtain ⟨hk,⟨L,o,hf,hn,ho,hd⟩,hr⟩ := hl
      have hL : L ∈ X.fs := hs L (by unfold frs;rw [List.filterMap_cons,hf];exact List.mem_cons_self)
      obtain ⟨sl,e⟩ := I.base.slot L o ho (I.ok.frf L hL) hL fun z => I.ok.exfs L z hL
      exact ⟨hk,⟨L,_,hf,hn,e,hd⟩,ih (fun b hb => hs b (by unfold frs;rw [List.filterMap_cons,hf];exact List.mem_cons_of_mem _ hb)) hr⟩
  exact all X.outer (fun _ hb => hb) I.ok.funs
theorem Inv.stack (I : Inv X pins σ H s) : s.heap.FunFrames X.base X.stack := by
  rcases I.ok.stk with e | ⟨e,hf⟩
  · rw [e];exact I.funs
  · rw [e]
    obtain ⟨m,hn,_⟩ := I.loc
    refine .cons (by rw [I.ok.kind];decide) hf hn ?_ I.funs
    exact Heap.get?_none_of_le (Nat.le_trans I.ok.bsz I.ok.above)
theorem Inv.stkSub (I : Inv X pins σ H s) : ∀ b ∈ frs X.stack,b ∈ X.env.locals :: X.fs := fun b hb => by
  rcases I.ok.stk with e | ⟨e,hf⟩
  · rw [e] at hb;exact List.mem_cons_of_mem _ hb
  · rw [e] at hb
    unfold frs at hb
    rw [List.filterMap_cons,hf] at hb
    exact hb
theorem Inv.stkFree (I : Inv X pins σ H s) : ∀ b ∈ frs X.stack,H b = none := fun b hb => by
  rcases List.mem_cons.mp (I.stkSub b hb) with e | hb
  · rw [e];exact I.free
  · obtain ⟨_,o,ho,_⟩ := I.ok.funs.mem hb
    exact I.base.free b o ho (I.ok.frf b hb) fun z => I.ok.exfs b z hb
theorem Inv.step {g' : Array GenState} {t' : Nat} {d' : Drawn} {ch : List Addr} (I : Inv X pins σ H s)
    (hch : ∀ b ∈ ch,(b ∈ X.ex \/ X.s₀.heap.objs.size <= b) /\ b ≠ X.env.locals /\ (∀ x c,X.env.cells.lookup x = some c -> c ≠ b) /\ ∀ p ∈ X.pn ++ pins,p.1 ≠ b)
    (keep : ∀ b o,b ≠ X.env.locals -> b ∉ X.fs -> b ∉ ch -> s.heap.get? b = some o -> H b = none -> h'.get? b = some o)
    (slot : ∀ b o,b ≠ X.env.locals -> b ∈ X.fs -> b ∉ ch -> s.heap.get? b = some o -> H b = none -> ∃ sl,h'.get? b = some { o with slots := sl }) (free : ∀ b o,b ∉ ch -> s.heap.get? b = some o -> H b = none -> H' b = none)
    (there : ∀ b o,b ∉ ch -> s.heap.get? b = some o -> ∃ o',h'.get? b = some o')
    (tups : ∀ b xs,H b = some (.tup xs) -> H' b = some (.tup xs)) (frzs : ∀ b o u,H b = some (.frz o u) -> H' b = some (.frz o u)) (tbls : ∀ b ps,H b = some (.tbl ps) -> ∃ more,H' b = some (.tbl (ps ++ more)))
    (ns : ∀ m,s.heap.Ns X.env.locals m -> h'.Ns X.env.locals m) (hok : HOk X.prog X.w H' h') (hg : AllBare g') :
    Inv X pins σ H' { s with heap := h',gens := g',drawn := d',toks := t' } := by
  have neL : ∀ b o,X.s₀.heap.get? b = some o -> b ≠ X.env.locals := fun b o e => Nat.ne_of_lt (Nat.lt_of_lt_of_le (Heap.lt_size e) I.ok.above)
  have neC : ∀ b o,X.s₀.heap.get? b = some o -> b ∉ X.ex -> b ∉ ch := fun b o e hx hb => by
    rcases (hch b hb).1 with z | z
    · exact hx z
    · exact absurd (Nat.lt_of_lt_of_le (Heap.lt_size e) z) (Nat.lt_irrefl _)
  have cellK : ∀ x c,X.env.cells.lookup x = some c -> ∀ v,s.heap.IsCell c v -> h'.IsCell c v := fun x c e v ⟨o,ho,hd⟩ => by
    have nch : c ∉ ch := fun z => (hch c z).2.2.1 x c e rfl
    by_cases hc : c ∈ X.fs
    · obtain ⟨sl,q⟩ := slot c o (I.cne x c e) hc nch ho (I.freeC x c e)
      exact ⟨_,q,hd⟩
    · exact ⟨o,keep c o (I.cne x c e) hc nch ho (I.freeC x c e),hd⟩
  refine ⟨I.ok,I.os,hg,⟨fun b o e n hb hx => ?_,fun b o e n hb hx => ?_,fun b o e n hx => ?_,fun b o e hx => ?_,fun b xs e => tups b xs (I.base.tups b xs e),fun b o xs e => frzs b o xs (I.base.frzs b o xs e),fun b ps e => ?_⟩,?_,fun x c e => ?_,?_,fun x c e => ?_,fun p hp => ?_,hok,I.len⟩
  · exact keep b o (neL b o e) hb (neC b o e hx) (I.base.keep b o e n hb hx) (I.base.free b o e n hx)
  · obtain ⟨sl,e1⟩ := I.base.slot b o e n hb hx
    obtain ⟨sl',e2⟩ := slot b _ (neL b o e) hb (neC b o e hx) e1 (I.base.free b o e n hx)
    exact ⟨sl',e2⟩
  · obtain ⟨o',e1⟩ := I.base.there b o e hx
    exact free b o' (neC b o e hx) e1 (I.base.free b o e n hx)
  · obtain ⟨o',e1⟩ := I.base.there b o e hx
    exact there b o' (neC b o e hx) e1
  · obtain ⟨m1,e1⟩ := I.base.tbls b ps e
    obtain ⟨m2,e2⟩ := tbls b _ e1
    exact ⟨m1 ++ m2,by rw [e2,Array.append_assoc]⟩
  · obtain ⟨m,hn,hl⟩ := I.loc
    refine ⟨m,ns m hn,fun i x v e1 e2 e3 => ?_⟩
    obtain ⟨u,r,l⟩ := hl i x v e1 e2 e3
    refine ⟨u,r,?_⟩
    rcases l with l | ⟨k,c,e,z⟩
    · exact .inl l
    · exact .inr ⟨k,c,e,cellK x c e _ z⟩
  · obtain ⟨v,z⟩ := I.cell x c e
    exact ⟨v,cellK x c e v z⟩
  · obtain ⟨m,⟨o,_,_,ho,_⟩,_⟩ := I.loc
    exact free _ o (fun z => (hch _ z).2.1 rfl) ho I.free
  · obtain ⟨v,o,ho,hd⟩ := I.cell x c e
    exact free c o (fun z => (hch c z).2.2.1 x c e rfl) ho (I.freeC x c e)
  · obtain ⟨e,n,ne,nf,d⟩ := I.pin p hp
    have nch : p.1 ∉ ch := fun z => (hch p.1 z).2.2.2 p hp rfl
    exact ⟨keep p.1 p.2 ne nf nch e n,free p.1 p.2 nch e n,ne,nf,d⟩
theorem Inv.un {t' : Nat} (I : Inv X pins σ H s) (u : Un X.fs [] H H' s.heap h') (hok : HOk X.prog X.w H' h') : Inv X pins σ H' { s with heap := h',toks := t' } := by
  obtain ⟨m,⟨o,es,ep,ho,r⟩,_⟩ := id I.loc
  obtain ⟨sl,hL⟩ := u.any ho I.free (by simp)
  exact I.step (g' := s.gens) (d' := s.drawn) (ch := []) (fun _ z => nomatch z) (fun b o _ hb _ e n => u.keep b o e n hb (by simp)) (fun b o _ hb _ e n => u.slot b o e n hb (by simp)) (fun b o _ e n => u.free b o e n (by simp)) (fun b o _ e => u.there b o e (by simp)) u.tups u.frzs u.tbls (fun m' hm => by
    obtain ⟨o',es',ep',ho',r'⟩ := hm
    rw [ho] at ho';cases ho'
    exact ⟨_,es',ep',hL,r'⟩) hok I.bare
theorem Inv.call {g' : Array GenState} {t' : Nat} {d' : Drawn} {ch : List Addr} (I : Inv X pins σ H s) (u : Un (frs X.stack) ch H H' s.heap h') (hok : HOk X.prog X.w H' h') (hg : AllBare g')
    (hch : ∀ b ∈ ch,(b ∈ X.ex \/ X.s₀.heap.objs.size <= b) /\ b ≠ X.env.locals /\ (∀ x c,X.env.cells.lookup x = some c -> c ≠ b) /\ ∀ p ∈ X.pn ++ pins,p.1 ≠ b) :
    Inv X pins σ H' { s with heap := h',gens := g',drawn := d',toks := t' } := by
  obtain ⟨m,⟨o,es,ep,ho,r⟩,_⟩ := id I.loc
  obtain ⟨sl,hL⟩ := u.any ho I.free fun z => (hch _ z).2.1 rfl
  exact I.step (ch := ch) hch (fun b o hL hb hc e n => u.keep b o e n (fun z => (List.mem_cons.mp (I.stkSub b z)).elim hL hb) hc) (fun b o _ _ hc e n => u.any e n hc) (fun b o hc e n => u.free b o e n hc) (fun b o hc e => u.there b o e hc) u.tups u.frzs u.tbls (fun m' hm => by
    obtain ⟨o',es',ep',ho',r'⟩ := hm
    rw [ho] at ho';cases ho'
    exact ⟨_,es',ep',hL,r'⟩) hok hg
theorem Inv.turned {t' : Nat} {it : Addr} (I : Inv X pins σ H s) (k : ∀ b o,b ≠ it -> s.heap.get? b = some o -> h'.get? b = some o) (hn : H it = none) (hL : it ≠ X.env.locals)
    (h1 : it ∈ X.ex \/ X.s₀.heap.objs.size <= it) (h2 : ∀ x c,X.env.cells.lookup x = some c -> c ≠ it) (h3 : ∀ p ∈ X.pn ++ pins,p.1 ≠ it) : Inv X pins σ H { s with heap := h',toks := t' } := by
  have nit : ∀ b u,H b = some u -> b ≠ it := fun b u e z => by rw [z,hn] at e;cases e
  refine I.step (g' := s.gens) (d' := s.drawn) (ch := [it]) (fun b hb => ?_) (fun b o _ _ hc e _ => k b o (fun z => hc (by simp [z])) e) (fun b o _ _ hc e _ => ⟨o.slots,k b o (fun z => hc (by simp [z])) e⟩) (fun _ _ _ _ n => n)
    (fun b o hc e => ⟨o,k b o (fun z => hc (by simp [z])) e⟩) (fun _ _ e => e) (fun _ _ _ e => e) (fun b ps e => ⟨#[],by rw [e];simp⟩) (fun m hm => ?_) (fun b u e => ?_) I.bare
  · have e : b = it := by simpa using hb
    subst e
    exact ⟨h1,hL,h2,h3⟩
  · obtain ⟨o,es,ep,ho,r⟩ := hm
    exact ⟨o,es,ep,k _ o (Ne.symm hL) ho,r⟩
  · refine (I.hok b u e).stay (fun c v hc q => k c v ?_ q) (fun _ q => q) fun _ _ q => q
    rcases hc with z | z
    · rw [z];exact nit b u e
    · exact nit c _ z
theorem Inv.tok (I : Inv X pins σ H s) (t : Nat) : Inv X pins σ H { s with toks := t } := I.un (h' := s.heap) (t' := t) Un.refl I.hok
theorem Inv.kept {t' : Nat} (I : Inv X pins σ H s) (k : ∀ b u,s.heap.get? b = some u -> h'.get? b = some u) : Inv X pins σ H { s with heap := h',toks := t' } := I.un (Un.kept k) (I.hok.kept k)
theorem Inv.laid {a : Addr} {o : HO} {t' : Nat} (I : Inv X pins σ H s) (k : ∀ b u,s.heap.get? b = some u -> h'.get? b = some u) (hp : s.heap.objs.size <= a) (new : ObjOk X.prog X.w (upd H a o) h' a o) :
    Inv X pins σ (upd H a o) { s with heap := h',toks := t' } := I.un (Un.laid k hp (I.hok.fresh hp)) (I.hok.laid k hp new)
theorem Inv.write {x e : Addr} {o : HO} {t' : Nat} (I : Inv X pins σ H s) (mu : Mut (H x)) (he : e = x \/ H e = some (.own x)) (k : ∀ b u,b ≠ e -> s.heap.get? b = some u -> h'.get? b = some u) (heo : ∃ u,h'.get? e = some u)
    (new : ObjOk X.prog X.w (upd H x o) h' x o) : Inv X pins σ (upd H x o) { s with heap := h',toks := t' } := I.un (Un.write mu he k heo) (I.hok.write mu he k heo new)
theorem Inv.weak {σ' : List (Option V)} (I : Inv X pins σ H s) (hl : σ'.length = σ.length) (w : ∀ (i : Nat) v,σ'[i]? = some (some v) -> σ[i]? = some (some v)) : Inv X pins σ' H s :=
  ⟨I.ok,I.os,I.bare,I.base,let ⟨m,hn,hl'⟩ := I.loc;⟨m,hn,fun i x v e1 e2 e3 => hl' i x v e1 (w i v e2) e3⟩,I.cell,I.free,I.freeC,I.pin,I.hok,hl.trans I.len⟩
theorem Inv.pins_of {pins' : List (Addr × Obj)} (I : Inv X pins σ H s) (h : ∀ p ∈ pins',s.heap.get? p.1 = some p.2 /\ H p.1 = none /\ p.1 ≠ X.env.locals /\ p.1 ∉ X.fs /\ ∀ v,p.2.data ≠ .cell v) : Inv X pins' σ H s :=
  ⟨I.ok,I.os,I.bare,I.base,I.loc,I.cell,I.free,I.freeC,fun p hp => (List.mem_append.mp hp).elim (fun z => I.pin p (List.mem_append_left _ z)) (h p),I.hok,I.len⟩
theorem yX {N : List Str} (hN : N.Nodup) {i j : Nat} {x : Str} (a : N[i]? = some x) (b : N[j]? = some x) : i = j := by
  obtain ⟨h1,e1⟩ := List.getElem?_eq_some_iff.mp a
  obtain ⟨h2,e2⟩ := List.getElem?_eq_some_iff.mp b
  exact (List.getElem_inj hN).mp (e1.trans e2.symm)
theorem Q5 {M : Model} {A : Around} {E : Value -> Shared -> Prop} {i : Nat} {x : Str} {v : V} {u : Value} {Q : Unit -> Shared -> Prop} (I : Inv X pins σ H s) (hN : X.N.Nodup) (hi : X.N[i]? = some x) (hx : Loc X.env.scope x) (r : RelV v u)
    (h : ∀ s',Inv X pins (σ.set i (some v)) H s' -> (∃ a,Heap.SameBut a s.heap s'.heap /\ (a = X.env.locals \/ X.env.cells.lookup x = some a)) -> Q () s') (hf : X.fn x = true \/ X.env.scope.names.lookup x = some .local := by first | exact .inl rfl | exact .inr rfl | assumption) : wpAny M A (storeName X.env x u) Q E s := by
  obtain ⟨m,hn,hl⟩ := id I.loc
  have hcls : (X.env.scope.kind == .class || (X.env.scope.kind == .module && X.env.locals != X.env.globals)) = false := by rw [I.ok.kind];rfl
  have hiσ : i < σ.length := by rw [I.len];exact (List.getElem?_eq_some_iff.mp hi).1
  have cne := I.cne
  have tracked : ∀ {a : Addr} {h' : Heap},(∃ o,s.heap.get? a = some o /\ H a = none) -> Heap.SameBut a s.heap h' -> HOk X.prog X.w H h' := fun {a h'} ha hs b ob e => by
    obtain ⟨_,_,hfree⟩ := ha
    refine (I.hok b ob e).stay (fun c w' hc q => (hs.2 c ?_).trans q) (fun _ q => q) fun _ _ q => q
    rintro rfl
    rcases hc with rfl | hc
    · rw [hfree] at e;cases e
    · rw [hfree] at hc;cases hc
  rcases hx with hk | hk
  · refine wpAny_storeName_local hk hn (fun h' hn' hs => ?_) hcls
    obtain ⟨oL,_,_,hoL,_⟩ := id hn
    refine h _ ⟨I.ok,I.os,I.bare,⟨fun b o e n hb hx => ?_,fun b o e n hb hx => ?_,I.base.free,fun b o e hx => ?_,I.base.tups,I.base.frzs,I.base.tbls⟩,⟨_,hn',fun j y v' e1 e2 e3 => ?_⟩,fun y c e => ?_,I.free,I.freeC,fun p hp => ?_,tracked ⟨oL,hoL,I.free⟩ hs,by simpa using I.len⟩ ⟨_,hs,.inl rfl⟩
    · exact (hs.2 b (Nat.ne_of_lt (Nat.lt_of_lt_of_le (Heap.lt_size e) I.ok.above))).trans (I.base.keep b o e n hb hx)
    · obtain ⟨sl,e1⟩ := I.base.slot b o e n hb hx
      exact ⟨sl,(hs.2 b (Nat.ne_of_lt (Nat.lt_of_lt_of_le (Heap.lt_size e) I.ok.above))).trans e1⟩
    · obtain ⟨o',e1⟩ := I.base.there b o e hx
      exact ⟨o',(hs.2 b (Nat.ne_of_lt (Nat.lt_of_lt_of_le (Heap.lt_size e) I.ok.above))).trans e1⟩
    · by_cases hj : j = i
      · subst hj
        rw [hi] at e1;cases e1
        rw [List.getElem?_set_self hiσ] at e2
        cases e2
        exact ⟨u,r,.inl ⟨hk,by simp⟩⟩
      · rw [List.getElem?_set_ne (Ne.symm hj)] at e2
        obtain ⟨u',r',q⟩ := hl j y v' e1 e2 e3
        refine ⟨u',r',?_⟩
        rcases q with ⟨k,e⟩ | ⟨k,c,e,z⟩
        · refine .inl ⟨k,?_⟩
          have : y ≠ x := fun e => hj (yX hN e1 (e ▸ hi))
          simp [this,e]
        · exact .inr ⟨k,c,e,z.sameBut hs (cne y c e)⟩
    · obtain ⟨w',z⟩ := I.cell y c e
      exact ⟨w',z.sameBut hs (cne y c e)⟩
    · obtain ⟨e,n,ne,nf,d⟩ := I.pin p hp
      exact ⟨(hs.2 p.1 ne).trans e,n,ne,nf,d⟩
  · have hfn : X.fn x = true := by
      rcases hf with z | z
      · exact z
      · rw [z] at hk;cases hk
    obtain ⟨c,hc⟩ := I.ok.has x (.inl hk)
    obtain ⟨w',z⟩ := I.cell x c hc
    refine wpAny_storeName_cell I.ok.kind hk hc z (fun h' hc' hs => ?_)
    obtain ⟨oc,hoc,hocd⟩ := id z
    refine h { s with heap := h' } ⟨I.ok,I.os,I.bare,⟨fun b o e n hb hx => ?_,fun b o e n hb hx => ?_,I.base.free,fun b o e hx => ?_,I.base.tups,I.base.frzs,I.base.tbls⟩,⟨m,hn.sameBut hs (Ne.symm (cne x c hc)),fun j y v' e1 e2 e3 => ?_⟩,fun y c' e => ?_,I.free,I.freeC,fun p hp => ?_,tracked ⟨oc,hoc,I.freeC x c hc⟩ hs,by simpa using I.len⟩ ⟨c,hs,.inr hc⟩
    · exact (hs.2 b (Nat.ne_of_lt (Nat.lt_of_lt_of_le (Heap.lt_size e) (I.ok.cab x c hfn hc)))).trans (I.base.keep b o e n hb hx)
    · obtain ⟨sl,e1⟩ := I.base.slot b o e n hb hx
      exact ⟨sl,(hs.2 b (Nat.ne_of_lt (Nat.lt_of_lt_of_le (Heap.lt_size e) (I.ok.cab x c hfn hc)))).trans e1⟩
    · obtain ⟨o',e1⟩ := I.base.there b o e hx
      exact ⟨o',(hs.2 b (Nat.ne_of_lt (Nat.lt_of_lt_of_le (Heap.lt_size e) (I.ok.cab x c hfn hc)))).trans e1⟩
    · by_cases hj : j = i
      · subst hj
        rw [hi] at e1;cases e1
        rw [List.getElem?_set_self hiσ] at e2
        cases e2
        exact ⟨u,r,.inr ⟨.inl hk,c,hc,hc'⟩⟩
      · rw [List.getElem?_set_ne (Ne.symm hj)] at e2
        obtain ⟨u',r',q⟩ := hl j y v' e1 e2 e3
        refine ⟨u',r',?_⟩
        rcases q with q | ⟨k,c',e,z'⟩
        · exact .inl q
        · refine .inr ⟨k,c',e,z'.sameBut hs ?_⟩
          rintro rfl
          exact hj (yX hN e1 (I.ok.inj _ _ _ e hc ▸ hi))
    · by_cases hcc : c' = c
      · subst hcc;exact ⟨_,hc'⟩
      · obtain ⟨w2,z2⟩ := I.cell y c' e
        exact ⟨w2,z2.sameBut hs hcc⟩
    · obtain ⟨e,n,ne,nf,d⟩ := I.pin p hp
      refine ⟨(hs.2 p.1 ?_).trans e,n,ne,nf,d⟩
      intro q
      rw [q,hoc] at e
      have q' : oc = p.2 := Option.some.inj e
      exact d w' (by rw [<- q'];exact hocd)
theorem xg {M : Model} {A : Around} {E : Value -> Shared -> Prop} {i : Nat} {x : Str} {v : V} {u : Value} {Q : Unit -> Shared -> Prop} (I : Inv X pins σ H s) (hN : X.N.Nodup) (hi : X.N[i]? = some x) (hx : Loc X.env.scope x) (r : RelV v u)
    (h : ∀ s',Inv X pins (σ.set i (some v)) H s' -> Q () s') (hf : X.fn x = true \/ X.env.scope.names.lookup x = some .local := by first | exact .inl rfl | exact .inr rfl | assumption) : wpAny M A (storeName X.env x u) Q E s :=
  Q5 I hN hi hx r (fun s' I' _ => h s' I') hf
theorem Inv.call' {s' : Shared} {ch : List Addr} (I : Inv X pins σ H s) (ho : s'.os = s.os) (u : Un (frs X.stack) ch H H' s.heap s'.heap) (hok : HOk X.prog X.w H' s'.heap) (hg : AllBare s'.gens)
    (hch : ∀ b ∈ ch,(b ∈ X.ex \/ X.s₀.heap.objs.size <= b) /\ b ≠ X.env.locals /\ (∀ x c,X.env.cells.lookup x = some c -> c ≠ b) /\ ∀ p ∈ X.pn ++ pins,p.1 ≠ b) : Inv X pins σ H' s' := by
  obtain ⟨h',g',d',t',o'⟩ := s'
  have e : o' = s.os := ho
  subst e
  exact I.call (g' := g') (t' := t') (d' := d') u hok hg hch
end
abbrev XK := Value -> Option Addr -> Hp -> Prop
abbrev St := List (Option V)
abbrev VK := V -> Hp -> Prop
abbrev TE := St -> Hp -> VK -> Prop
abbrev TT := St -> Hp -> (Bool -> Hp -> Prop) -> Prop
abbrev TA := St -> Hp -> (List V -> Hp -> Prop) -> Prop
structure wv where
  nx : St -> Hp -> Prop
  rt : VK
  bk : St -> Hp -> Prop := fun _ _ => False
  ct : St -> Hp -> Prop := fun _ _ => False
abbrev TS := wv -> St -> Hp -> Prop
def EP (X : Cx) (pins : List (Addr × Obj)) (σ : St) (Q : VK) (u : Value) (s' : Shared) : Prop := ∃ v H',Inv X pins σ H' s' /\ RelV v u /\ Q v H'
def TP (X : Cx) (pins : List (Addr × Obj)) (σ : St) (Q : Bool -> Hp -> Prop) (b : Bool) (s' : Shared) : Prop := ∃ H',Inv X pins σ H' s' /\ Q b H'
def AP (X : Cx) (pins : List (Addr × Obj)) (σ : St) (Q : List V -> Hp -> Prop) (us : List Value) (s' : Shared) : Prop := ∃ vs H',Inv X pins σ H' s' /\ Vals vs us /\ Q vs H'
def SP (X : Cx) (pins : List (Addr × Obj)) (D : wv) (f : Flow) (s' : Shared) : Prop :=
  match f with
  | .next => ∃ σ' H',Inv X pins σ' H' s' /\ D.nx σ' H'
  | .brk => ∃ σ' H',Inv X pins σ' H' s' /\ D.bk σ' H'
  | .cont => ∃ σ' H',Inv X pins σ' H' s' /\ D.ct σ' H'
  | .ret u => ∃ v σ' H',Inv X pins σ' H' s' /\ RelV v u /\ D.rt v H'
def PE (X : Cx) (e : Expr) (t : TE) : Prop :=
  ∀ (pins : List (Addr × Obj)) (s : Shared) (σ : St) (H : Hp) (Q : VK),Inv X pins σ H s -> t σ H Q -> wpAny (model X.prog X.w) X.A (eval e X.env) (EP X pins σ Q) X.xe s
def PT (X : Cx) (e : Expr) (t : TT) : Prop :=
  ∀ (pins : List (Addr × Obj)) (s : Shared) (σ : St) (H : Hp) (Q : Bool -> Hp -> Prop),Inv X pins σ H s -> t σ H Q -> wpAny (model X.prog X.w) X.A (isTrue e X.env (eval e X.env)) (TP X pins σ Q) X.xe s
def PW (X : Cx) (e : Expr) (t : TT) : Prop :=
  ∀ (whole : Sem Value) (pins : List (Addr × Obj)) (s : Shared) (σ : St) (H : Hp) (Q : Bool -> Hp -> Prop),Inv X pins σ H s -> t σ H Q -> wpAny (model X.prog X.w) X.A (isTrue e X.env whole) (TP X pins σ Q) X.xe s
theorem PW.pt {X : Cx} {e : Expr} {t : TT} (h : PW X e t) : PT X e t := h _
def PA (X : Cx) (es : List Expr) (t : TA) : Prop :=
  ∀ (pos : Pos) (pins : List (Addr × Obj)) (s : Shared) (σ : St) (H : Hp) (Q : List V -> Hp -> Prop),Inv X pins σ H s -> t σ H Q -> wpAny (model X.prog X.w) X.A (spliced (backTo pos (starEach es X.env))) (AP X pins σ Q) X.xe s
def PS (X : Cx) (st : Stmt) (t : TS) : Prop :=
  ∀ (pins : List (Addr × Obj)) (s : Shared) (σ : St) (H : Hp) (D : wv),Inv X pins σ H s -> t D σ H -> wpAny (model X.prog X.w) X.A (exec st X.env) (SP X pins D) X.xe s
def PSs (X : Cx) (st : List Stmt) (t : TS) : Prop :=
  ∀ (pins : List (Addr × Obj)) (s : Shared) (σ : St) (H : Hp) (D : wv),Inv X pins σ H s -> t D σ H -> wpAny (model X.prog X.w) X.A (execs st X.env) (SP X pins D) X.xe s
theorem thn {α : Type} {t : Sem α} {Q Q' : α -> Shared -> Prop} {M : Model} {A : Around} {E : Value -> Shared -> Prop} {s : Shared} (h : wpAny M A t Q E s) (hQ : ∀ a s,Q a s -> Q' a s) : wpAny M A t Q' E s := wpAny_mono h hQ fun _ _ x => x
end L2
namespace L2
open PySem PySem.Spec PyProof.Rows
section
variable {X : Cx}
inductive IsB (x : V) (H : Hp) (Q : Bool -> Hp -> Prop) : Prop
  | mk (c : Bool) (h : x = .bl c) (q : Q c H) : IsB x H Q
inductive IsI (x : V) (H : Hp) (Q : Int -> Hp -> Prop) : Prop
  | mk (i : Int) (h : x = .int i) (q : Q i H) : IsI x H Q
inductive Y4 (vs : List V) (H : Hp) (Q : V -> V -> Hp -> Prop) : Prop
  | mk (v w : V) (h : vs = [v,w]) (q : Q v w H) : Y4 vs H Q
inductive Wk (i : Nat) (σ : St) (H : Hp) (Q : VK) : Prop
  | mk (v : _) (_ : σ[i]? = some (some v)) (_ : Q v H) : Wk i σ H Q
def tC (v : V) : TE := fun _ H Q => Q v H
theorem WB {i : Nat} {x : Str} {pos : Pos} (hN : X.N[i]? = some x) (hv : Vis X.env.scope x) (hd : (x == ("__debug__" : Str)) = false := by decide) (hcd : (x == ("__classdict__" : Str)) = false := by decide) : PE X (.Name x pos) (Wk i) := by
  intro pins s σ H Q I h
  obtain ⟨v,e,h⟩ := h
  obtain ⟨m,hn,hl⟩ := I.loc
  obtain ⟨u,r,l⟩ := hl i x v hN e hv
  have fin : EP X pins σ Q u s := ⟨v,H,I,r,h⟩
  rcases l with ⟨hk,hm⟩ | ⟨hk,c,hc,hcell⟩
  · exact wpAny_Name (wpAny_loadName_local I.ok.kind hk hn hm fin) hd
  · rcases hk with hk | hk
    · exact wpAny_Name (wpAny_loadName_cell I.ok.kind hk hc hcell fin) hd
    · exact wpAny_Name (wpAny_loadName_free I.ok.kind hk hc hcell fin hcd) hd
theorem zj {i j pos} : PE X (.Constant (.int i) j pos) (tC (.int i)) := fun _ _ _ H _ I h => wpAny_Constant_int ⟨.int i,H,I.tok _,⟨_,rfl⟩,h⟩
theorem qJ {b j pos} : PE X (.Constant (.bool b) j pos) (tC (.bl b)) := fun _ _ _ H _ I h => Constant_bool ⟨.bl b,H,I,rfl,h⟩
theorem Xg {j pos} : PE X (.Constant .none j pos) (tC .non) := fun _ _ _ H _ I h => Constant_none ⟨.non,H,I,rfl,h⟩
theorem yf {x j pos} : PE X (.Constant (.str x) j pos) (tC (.str x)) := fun _ _ _ H _ I h => Calls.Constant_str ⟨.str x,H,I.tok _,⟨_,rfl⟩,h⟩
def Gl (X : Cx) (x : Str) : Prop := X.env.kindOf x = some .globalImplicit
theorem VB {E : Value -> Shared -> Prop} {pins : List (Addr × Obj)} {s : Shared} {σ : St} {H : Hp} {x : Str} {u : Value} {pos : Pos} {Q : Value -> Shared -> Prop} (I : Inv X pins σ H s) (hg : Gl X x) (hm : X.mg x = some u) (h : Q u s)
    (hd : (x == ("__debug__" : Str)) = false := by decide) : wpAny (model X.prog X.w) X.A (eval (.Name x pos) X.env) Q E s :=
  Calls.Name_function_global I.ok.kind hg (Calls.loadGlobal_global (by rw [I.ok.glob];exact I.mod.glob.keeps I.bk) hm h) hd
theorem jH {E : Value -> Shared -> Prop} {pins : List (Addr × Obj)} {s : Shared} {σ : St} {H : Hp} {x : Str} {u : Value} {pos : Pos} {Q : Value -> Shared -> Prop} (I : Inv X pins σ H s) (hg : Gl X x) (hm : X.mg x = none) (hv : bootBuiltins x = some u) (h : Q u s)
    (hn : x ≠ "__name__" := by decide) (hd : (x == ("__debug__" : Str)) = false := by decide) : wpAny (model X.prog X.w) X.A (eval (.Name x pos) X.env) Q E s := by
  obtain ⟨mb,h1,h2⟩ := I.mod.blt
  exact Calls.Name_function_global I.ok.kind hg (Calls.loadGlobal_builtin (by rw [I.ok.glob];exact I.mod.glob.keeps I.bk) hm (by rw [I.ok.blt];exact h1.keeps I.bk) ((h2 x hn).trans hv) h) hd
theorem zN {x : Str} {v : V} {u : Value} {pos : Pos} (hg : Gl X x) (hm : X.mg x = none) (hv : bootBuiltins x = some u) (r : RelV v u) (hn : x ≠ "__name__" := by decide) (hd : (x == ("__debug__" : Str)) = false := by decide) : PE X (.Name x pos) (tC v) :=
  fun _ _ _ H _ I h => jH I hg hm hv ⟨v,H,I,r,h⟩ hn hd
variable {a b : Expr} {ta tb : TE} {pos : Pos}
def PC (X : Cx) (op : CmpOp) (a b : Expr) (t : TE) : Prop :=
  ∀ (pins : List (Addr × Obj)) (s : Shared) (σ : St) (H : Hp) (Q : VK),Inv X pins σ H s -> t σ H Q ->
    wpAny (model X.prog X.w) X.A (eval a X.env) (fun v s₁ => wpAny (model X.prog X.w) X.A (eval b X.env) (fun u s₂ => wpAny (model X.prog X.w) X.A (compareOp op v u) (EP X pins σ Q) X.xe s₂) X.xe s₁) X.xe s
theorem Xr (b : Expr) {op : CmpOp} (h : op ≠ .In) (h2 : op ≠ .NotIn) : behindInMarks op b = false := by
  have e1 : (op == CmpOp.In) = false := by cases op <;> first | rfl | exact absurd rfl h
  have e2 : (op == CmpOp.NotIn) = false := by cases op <;> first | rfl | exact absurd rfl h2
  cases b <;> simp [behindInMarks,e1,e2]
def tB (t : TE) : TT := fun σ H Q => t σ H fun x H1 => IsB x H1 Q
theorem Ww {op : CmpOp} {t : TE} (h : PC X op a b t) (h1 : behindInMarks op b = false := by first | exact Xr _ (by decide) (by decide) | rfl) : PT X (.Compare a [op] [b] pos) (tB t) := by
  intro pins s σ H Q I hw
  refine wpAny_isTrue_Compare1 (thn (h pins s σ H _ I hw) fun v s1 h1 => thn h1 fun u s2 h2 => thn h2 fun c s3 ⟨x,H1,I1,r1,q1⟩ => ?_) h1
  obtain ⟨d,rfl,q⟩ := q1
  cases r1
  exact wpAny_truthy_bool ⟨H1,I1,q⟩
theorem zZ {e : Expr} {t : TE} (h : PE X e t) (he : ∀ whole,isTrue e X.env whole = (do let v <- whole;standAt e.pos;holding [v] (truthy v)) := by intro _;rfl) : PT X e (tB t) := by
  intro pins s σ H Q I hw
  refine isTrue_plain (thn (h pins s σ H _ I hw) fun v s1 ⟨x,H1,I1,r1,q1⟩ => ?_) (he _)
  obtain ⟨d,rfl,q⟩ := q1
  cases r1
  exact wpAny_truthy_bool ⟨H1,I1,q⟩
variable {tA tB' : TT} {xF : List Expr}
def zak (t u : TT) : TT := fun σ H Q => t σ H fun c H1 => if c = true then u σ H1 Q else Q false H1
def tOr (t u : TT) : TT := fun σ H Q => t σ H fun c H1 => if c = true then Q true H1 else u σ H1 Q
def zad (t : TT) : TT := fun σ H Q => t σ H fun c H1 => Q (!c) H1
theorem vh (ha : PT X a tA) : PW X (.BoolOp .And [a] pos) tA := by
  intro wh pins s σ H Q I h
  refine isTrue_and (thn (ha pins s σ H Q I h) fun c s1 e => ?_)
  cases c with
  | true => exact isTrue_and_nil e
  | false => exact e
theorem qW (ha : PT X a tA) : PW X (.BoolOp .Or [a] pos) tA := by
  intro wh pins s σ H Q I h
  refine isTrue_or (thn (ha pins s σ H Q I h) fun c s1 e => ?_)
  cases c with
  | false => exact isTrue_or_nil e
  | true => exact e
theorem ya (ha : PT X a tA) (hb : PW X (.BoolOp .And (b :: xF) pos) tB') : PW X (.BoolOp .And (a :: b :: xF) pos) (zak tA tB') := by
  intro wh pins s σ H Q I h
  refine isTrue_and (thn (ha pins s σ H _ I h) fun c s1 ⟨H1,I1,q1⟩ => ?_)
  cases c with
  | true => exact hb wh pins s1 σ H1 Q I1 q1
  | false => exact ⟨H1,I1,q1⟩
theorem jz (ha : PT X a tA) (hb : PW X (.BoolOp .Or (b :: xF) pos) tB') : PW X (.BoolOp .Or (a :: b :: xF) pos) (tOr tA tB') := by
  intro wh pins s σ H Q I h
  refine isTrue_or (thn (ha pins s σ H _ I h) fun c s1 ⟨H1,I1,q1⟩ => ?_)
  cases c with
  | true => exact ⟨H1,I1,q1⟩
  | false => exact hb wh pins s1 σ H1 Q I1 q1
theorem qv (ha : PT X a tA) : PT X (.UnaryOp .Not a pos) (zad tA) := by
  intro pins s σ H Q I h
  exact isTrue_not (ha pins s σ H (fun c H1 => Q (!c) H1) I h)
def Yg (ta tb : TE) : TE := fun σ H Q => ta σ H fun x H1 => IsB x H1 fun c H1 => if c = true then tb σ H1 Q else Q (.bl false) H1
def Yc (ta : TE) : TE := fun σ H Q => ta σ H fun x H1 => IsB x H1 fun c H1 => Q (.bl (!c)) H1
theorem jt {op} {t : TE} (h : PE X a t) : PE X (.BoolOp op [a] pos) t := fun pins s σ H Q I hw => BoolOp_one (h pins s σ H Q I hw)
theorem qQ (ha : PE X a ta) (hb : PE X (.BoolOp .And (b :: xF) pos) tb) : PE X (.BoolOp .And (a :: b :: xF) pos) (Yg ta tb) := by
  intro pins s σ H Q I h
  refine BoolOp_and (thn (ha pins s σ H _ I h) fun v s1 ⟨x,H1,I1,r1,q1⟩ => ?_)
  obtain ⟨c,rfl,q1⟩ := q1
  cases r1
  refine wpAny_truthy_bool ?_
  cases c with
  | true => exact hb pins s1 σ H1 Q I1 q1
  | false => exact ⟨.bl false,H1,I1,rfl,q1⟩
theorem Xf (ha : PE X a ta) : PE X (.UnaryOp .Not a pos) (Yc ta) := by
  intro pins s σ H Q I h
  refine UnaryOp_ (thn (ha pins s σ H _ I h) fun v s1 ⟨x,H1,I1,r1,q1⟩ => ?_)
  obtain ⟨c,rfl,q1⟩ := q1
  cases r1
  exact not_of (wpAny_truthy_bool ⟨.bl (!c),H1,I1,rfl,q1⟩)
def tIf (t : TT) (ta tb : TE) : TE := fun σ H Q => t σ H fun c H1 => if c = true then ta σ H1 Q else tb σ H1 Q
theorem jn {c : Expr} (hc : PT X c tA) (ha : PE X a ta) (hb : PE X b tb) : PE X (.IfExp c a b pos) (tIf tA ta tb) := by
  intro pins s σ H Q I h
  refine wpAny_IfExp (thn (hc pins s σ H _ I h) fun d s1 ⟨H1,I1,q1⟩ => ?_)
  cases d with
  | true => exact ha pins s1 σ H1 Q I1 q1
  | false => exact hb pins s1 σ H1 Q I1 q1
end
end L2
namespace L2
open PySem PySem.Spec PyProof.Rows
def SqL (K : PySem.W.Frag) (H : Hp) (a : Addr) (xs : List V) : Prop :=
  Rd H a (.lst xs) \/
    ∃ (o : Obj) (its : Array Value) (n : Nat),K.lookup a = some o /\ o.cls = .type "list" /\ o.dict = none /\ o.data = .seq its n /\ its.size <= sizeLine /\ Vals xs its.toList
def SqT (K : PySem.W.Frag) (H : Hp) (a : Addr) (xs : List V) : Prop :=
  Rd H a (.tup xs) \/
    ∃ (o : Obj) (its : Array Value) (n : Nat),K.lookup a = some o /\ o.cls = .type "tuple" /\ o.data = .seq its n /\ its.size <= sizeLine /\ Vals xs its.toList
def zaq : Value -> Option V
  | .none => some .non
  | .bool b => some (.bl b)
  | .int i _ => some (.int i)
  | .str x _ => some (.str x)
  | .bytes b _ => some (.byt b)
  | .float b _ => some (.flt b)
  | .ref a => some (.ref a)
  | .type n => some (.ty n)
  | _ => none
theorem RelV.abs {x : V} {u : Value} (r : RelV x u) : zaq u = some x := by
  cases x with
  | non => cases r;rfl
  | bl _ => cases r;rfl
  | int _ => obtain ⟨t,rfl⟩ := r;rfl
  | str _ => obtain ⟨t,rfl⟩ := r;rfl
  | byt _ => obtain ⟨t,rfl⟩ := r;rfl
  | flt _ => obtain ⟨t,rfl⟩ := r;rfl
  | ref _ => cases r;rfl
  | ty _ => cases r;rfl
theorem RelV.inj {x y : V} {u : Value} (r : RelV x u) (q : RelV y u) : x = y := Option.some.inj (r.abs.symm.trans q.abs)
theorem Vals.inj : ∀ {xs ys : List V} {us : List Value},Vals xs us -> Vals ys us -> xs = ys
  | _,_,_,.nil,.nil => rfl
  | _,_,_,.cons r t,.cons r' t' => by rw [r.inj r',Vals.inj t t']
section
variable {X : Cx} {pins : List (Addr × Obj)} {σ : St} {H : Hp} {s : Shared} {a : Addr} {xs ys : List V}
theorem SqL.of {K : PySem.W.Frag} (h : H a = some (.lst xs)) : SqL K H a xs := .inl (.inl h)
theorem SqT.of {K : PySem.W.Frag} (h : H a = some (.tup xs)) : SqT K H a xs := .inl (.inl h)
theorem Inv.list (I : Inv X pins σ H s) (h : SqL X.K H a xs) : ∃ its : List Value,Vals xs its /\ PlainL s.heap a its.toArray /\ xs.length <= sizeLine := by
  rcases h with h | ⟨o,its,n,hk,hc,hd,hs,hz,r⟩
  · obtain ⟨z,its,n,r,e⟩ := h.ok I.hok
    exact ⟨its,r,⟨_,n,e,rfl,rfl,rfl⟩,z⟩
  · refine ⟨its.toList,r,⟨o,n,I.kIn a o hk,hc,hd,by simpa using hs⟩,?_⟩
    have e := r.length
    simp only [Array.length_toList] at e
    omega
theorem Inv.tuple (I : Inv X pins σ H s) (h : SqT X.K H a xs) : ∃ its : List Value,Vals xs its /\ IsTup s.heap a its.toArray /\ xs.length <= sizeLine := by
  rcases h with h | ⟨o,its,n,hk,hc,hs,hz,r⟩
  · obtain ⟨z,its,r,p⟩ := h.ok I.hok
    exact ⟨its,r,p.1,z⟩
  · refine ⟨its.toList,r,⟨o,I.kIn a o hk,hc,n,by simpa using hs⟩,?_⟩
    have e := r.length
    simp only [Array.length_toList] at e
    omega
theorem Inv.list_inj (I : Inv X pins σ H s) (h : SqL X.K H a xs) (h' : SqL X.K H a ys) : xs = ys := by
  obtain ⟨its,r,⟨o,n,e,_,_,d⟩,_⟩ := I.list h
  obtain ⟨its',r',⟨o',n',e',_,_,d'⟩,_⟩ := I.list h'
  rw [e] at e';cases e'
  rw [d] at d'
  injection d' with d1 _
  have : its = its' := by simpa using congrArg Array.toList d1
  subst this
  exact r.inj r'
theorem Inv.tuple_inj (I : Inv X pins σ H s) (h : SqT X.K H a xs) (h' : SqT X.K H a ys) : xs = ys := by
  obtain ⟨its,r,⟨o,e,_,n,d⟩,_⟩ := I.tuple h
  obtain ⟨its',r',⟨o',e',_,n',d'⟩,_⟩ := I.tuple h'
  rw [e] at e';cases e'
  rw [d] at d'
  injection d' with d1 _
  have : its = its' := by simpa using congrArg Array.toList d1
  subst this
  exact r.inj r'
end
abbrev Cx.wish (X : Cx) (E : Value -> Shared -> Prop) : Cx := { X with xe := E }
abbrev Cx.nox (X : Cx) : Cx := X.wish fun _ _ => False
theorem Cx.Ok.wish {X : Cx} (ok : X.Ok) (E : Value -> Shared -> Prop) : (X.wish E).Ok :=
  ⟨ok.mod,ok.kind,ok.glob,ok.blt,ok.above,ok.inj,ok.has,ok.cab,ok.hd,ok.frames,ok.stk,ok.exf,ok.bs,ok.bsz,ok.noex,ok.exfs,ok.funs,ok.frf⟩
theorem Cx.Ok.unwish {X : Cx} {E : Value -> Shared -> Prop} (ok : (X.wish E).Ok) : X.Ok :=
  ⟨ok.mod,ok.kind,ok.glob,ok.blt,ok.above,ok.inj,ok.has,ok.cab,ok.hd,ok.frames,ok.stk,ok.exf,ok.bs,ok.bsz,ok.noex,ok.exfs,ok.funs,ok.frf⟩
section
variable {X : Cx} {pins : List (Addr × Obj)} {σ : St} {H : Hp} {s : Shared} {E : Value -> Shared -> Prop}
theorem Inv.wish (I : Inv X pins σ H s) (E : Value -> Shared -> Prop) : Inv (X.wish E) pins σ H s := ⟨I.ok.wish E,I.os,I.bare,I.base,I.loc,I.cell,I.free,I.freeC,I.pin,I.hok,I.len⟩
theorem Inv.unwish (I : Inv (X.wish E) pins σ H s) : Inv X pins σ H s := ⟨I.ok.unwish,I.os,I.bare,I.base,I.loc,I.cell,I.free,I.freeC,I.pin,I.hok,I.len⟩
theorem SP.unwish {D : wv} {f : Flow} {s' : Shared} (h : SP (X.wish E) pins D f s') : SP X pins D f s' := by
  cases f with
  | next => obtain ⟨σ',H',I,q⟩ := h;exact ⟨σ',H',I.unwish,q⟩
  | brk => obtain ⟨σ',H',I,q⟩ := h;exact ⟨σ',H',I.unwish,q⟩
  | cont => obtain ⟨σ',H',I,q⟩ := h;exact ⟨σ',H',I.unwish,q⟩
  | ret u => obtain ⟨v,σ',H',I,r,q⟩ := h;exact ⟨v,σ',H',I.unwish,r,q⟩
theorem PE.nox {e : Expr} {t : TE} (h : PE X.nox e t) : PE X e t := fun pins s σ H Q I hw =>
  wpAny_mono (h pins s σ H Q (I.wish _) hw) (fun _ _ ⟨v,H',I',r,q⟩ => ⟨v,H',I'.unwish,r,q⟩) fun _ _ z => False.elim z
theorem PT.nox {e : Expr} {t : TT} (h : PT X.nox e t) : PT X e t := fun pins s σ H Q I hw =>
  wpAny_mono (h pins s σ H Q (I.wish _) hw) (fun _ _ ⟨H',I',q⟩ => ⟨H',I'.unwish,q⟩) fun _ _ z => False.elim z
theorem PSs.nox {st : List Stmt} {t : TS} (h : PSs X.nox st t) : PSs X st t := fun pins s σ H D I hw =>
  wpAny_mono (h pins s σ H D (I.wish _) hw) (fun _ _ q => q.unwish) fun _ _ z => False.elim z
end
section
variable {X : Cx} {st : Stmt} {xF : List Stmt} {t u : TS} {e : Expr} {te : TE} {pos : Pos}
def Yd : TS := fun D σ H => D.nx σ H
def zaa (t u : TS) : TS := fun D σ H => t { D with nx := u D } σ H
theorem zU : PSs X [] Yd := fun _ _ σ H _ I h => wpAny_execs_nil ⟨σ,H,I,h⟩
theorem zn (h1 : PS X st t) (h2 : PSs X xF u) : PSs X (st :: xF) (zaa t u) := by
  intro pins s σ H D I h
  refine wpAny_execs_cons (thn (h1 pins s σ H { D with nx := u D } I h) fun f s1 q => ?_)
  cases f with
  | next =>
    obtain ⟨σ',H',I',q⟩ := q
    exact h2 pins s1 σ' H' D I' q
  | ret v => exact q
  | brk => exact q
  | cont => exact q
theorem zu (h1 : PS X st t) : PSs X [st] t := by
  intro pins s σ H D I h
  refine wpAny_execs_cons (thn (h1 pins s σ H D I h) fun f s1 q => ?_)
  cases f with
  | next => exact wpAny_execs_nil q
  | ret v => exact q
  | brk => exact q
  | cont => exact q
theorem Inv.quiet {pins : List (Addr × Obj)} {σ : St} {H : Hp} {s : Shared} (I : Inv X pins σ H s) : interactive X.env = false := by simp [interactive,I.ok.kind]
def Yf (te : TE) : TS := fun D σ H => te σ H fun _ H1 => D.nx σ H1
theorem yc (he : PE X e te) (hs : swapsWith e none pos.line X.env = pure false := by rfl) : PS X (.Expr e pos) (Yf te) := by
  intro pins s σ H D I h
  exact wpAny_Expr_any (thn (he pins s σ H _ I h) fun v s1 ⟨x,H1,I1,r1,q1⟩ => ⟨σ,H1,I1,q1⟩) I.quiet hs
def zab (te : TE) : TS := fun D σ H => te σ H D.rt
theorem zA (he : PE X e te) : PS X (.Return (some e) pos) (zab te) := by
  intro pins s σ H D I h
  exact wpAny_Return_some (thn (he pins s σ H _ I h) fun v s1 ⟨x,H1,I1,r1,q1⟩ => ⟨x,σ,H1,I1,r1,q1⟩)
def zaf (c : TT) (t u : TS) : TS := fun D σ H => c σ H fun b H1 => if b = true then t D σ H1 else u D σ H1
theorem qg {c : Expr} {a b : List Stmt} {tc : TT} (hc : PT X c tc) (ha : PSs X a t) (hb : PSs X b u) : PS X (.If c a b pos) (zaf tc t u) := by
  intro pins s σ H D I h
  refine wpAny_If (thn (hc pins s σ H _ I h) fun d s1 ⟨H1,I1,q1⟩ => ?_)
  cases d with
  | true => exact ha pins s1 σ H1 D I1 q1
  | false => exact hb pins s1 σ H1 D I1 q1
end
abbrev TG := V -> St -> Hp -> (St -> Hp -> Prop) -> Prop
abbrev TGs := List V -> St -> Hp -> (St -> Hp -> Prop) -> Prop
def PG (X : Cx) (target : Expr) (t : TG) : Prop :=
  ∀ (pins : List (Addr × Obj)) (s : Shared) (σ : St) (H : Hp) (v : V) (u : Value) (Q : St -> Hp -> Prop),Inv X pins σ H s -> RelV v u -> t v σ H Q ->
    wpAny (model X.prog X.w) X.A (assign target X.env u) (fun _ s' => ∃ σ' H',Inv X pins σ' H' s' /\ Q σ' H') X.xe s
def PGs (X : Cx) (ts : List Expr) (t : TGs) : Prop :=
  ∀ (pins : List (Addr × Obj)) (s : Shared) (σ : St) (H : Hp) (vs : List V) (us : List Value) (Q : St -> Hp -> Prop),Inv X pins σ H s -> Vals vs us -> t vs σ H Q ->
    wpAny (model X.prog X.w) X.A (assignInOrder ((assignEach ts X.env).map (·.2)) us) (fun _ s' => ∃ σ' H',Inv X pins σ' H' s' /\ Q σ' H') X.xe s
abbrev W6 := V -> V -> V -> Hp -> (Hp -> Prop) -> Prop
def Y3 (X : Cx) (t : W6) : Prop :=
  ∀ (pins : List (Addr × Obj)) (s : Shared) (σ : St) (H : Hp) (o i v : V) (ov iv u : Value) (Q : Hp -> Prop),Inv X pins σ H s -> RelV o ov -> RelV i iv -> RelV v u -> t o i v H Q ->
    wpAny (model X.prog X.w) X.A (setItem ov iv u) (fun _ s' => ∃ H',Inv X pins σ H' s' /\ Q H') X.xe s
section
variable {X : Cx} {pos : Pos}
def jo (i : Nat) : TG := fun v σ H Q => Q (σ.set i (some v)) H
theorem zV {i : Nat} {x : Str} (hN : X.N.Nodup) (hi : X.N[i]? = some x) (hx : Loc X.env.scope x) (hf : X.fn x = true \/ X.env.scope.names.lookup x = some .local := by first | exact .inl rfl | exact .inr rfl | assumption) : PG X (.Name x pos) (jo i) := by
  intro pins s σ H v u Q I r h
  exact wpAny_assign_Name (xg I hN hi hx r (fun s' I' => ⟨_,H,I',h⟩) hf)
def XH : TGs := fun vs σ H Q => vs = [] /\ Q σ H
inductive j4 (t : TG) (u : TGs) (vs : List V) (σ : St) (H : Hp) (Q : St -> Hp -> Prop) : Prop
  | mk (v r : _) (_ : vs = v :: r) (_ : t v σ H fun σ' H' => u r σ' H' Q) : j4 t u vs σ H Q
theorem qC : PGs X [] XH := by
  intro pins s σ H vs us Q I r h
  obtain ⟨e,h⟩ := h
  subst e
  cases r
  exact assignInOrder_nil ⟨σ,H,I,h⟩
theorem zK {e : Expr} {es : List Expr} {t : TG} {u : TGs} (h1 : PG X e t) (h2 : PGs X es u)
    (hs : (assignEach (e :: es) X.env).map (·.2) = assign e X.env :: (assignEach es X.env).map (·.2) := by rfl) : PGs X (e :: es) (j4 t u) := by
  intro pins s σ H vs us Q I r h
  obtain ⟨v,vr,e1,h⟩ := h
  subst e1
  cases r with
  | cons r rr =>
    rw [hs]
    refine assignInOrder_cons (thn (h1 pins s σ H _ _ _ I r h) fun _ s1 ⟨σ1,H1,I1,q1⟩ => ?_)
    exact h2 pins s1 σ1 H1 _ _ Q I1 rr q1
inductive Jp (K : PySem.W.Frag) (n : Nat) (t : TGs) (v : V) (σ : St) (H : Hp) (Q : St -> Hp -> Prop) : Prop
  | mk (a xs : _) (_ : v = .ref a) (_ : SqT K H a xs) (_ : xs.length = n) (_ : t xs σ H Q) : Jp K n t v σ H Q
theorem qN {es : List Expr} {k : Nat} {t : TGs} {n : Nat} (hc : X.calm = true) (h : PGs X es t)
    (hn : (assignEach es X.env).length = n := by rfl) (hst : (assignEach es X.env).findIdx? (·.1) = none := by rfl) : PG X (.Tuple es k pos) (Jp X.K n t) := by
  intro pins s σ H v u Q I r hw
  obtain ⟨a,xs,e1,hq,hl,hw⟩ := hw
  subst e1
  cases r
  obtain ⟨its,rv,ht,hz⟩ := I.tuple hq
  refine assign_Tuple_tuple (I.ok.hd hc) ht (by simp [hn,<- hl,rv.length]) hst fun h' hx => ?_
  have I1 : Inv X pins σ H { s with heap := h' } := I.kept (t' := s.toks) fun b o e => hx b o (Nat.ne_of_lt (Heap.lt_size e)) e
  exact h pins _ σ H xs _ Q I1 (by simpa using rv) hw
def zao (to ti : TE) (t : W6) : TG := fun v σ H Q => to σ H fun o H1 => ti σ H1 fun i H2 => t o i v H2 fun H3 => Q σ H3
theorem jr {o i : Expr} {to ti : TE} {t : W6} (ho : PE X o to) (hi : PE X i ti) (hs : Y3 X t)
    (ha : ∀ v,assign (.Subscript o i pos) X.env v = (do
      let ov <- holding [v] (eval o X.env)
      let iv <- holding [v,ov] (eval i X.env)
      standAt pos
      holding [v,ov,iv] (setItem ov iv v)
      release [v,ov,iv] []) := by intro _;rfl) : PG X (.Subscript o i pos) (zao to ti t) := by
  intro pins s σ H v u Q I r h
  rw [ha]
  refine wpAny_bind (wpAny_holding (thn (ho pins s σ H _ I h) fun ov s1 ⟨x,H1,I1,r1,q1⟩ => ?_))
  refine wpAny_bind (wpAny_holding (thn (hi pins s1 σ H1 _ I1 q1) fun iv s2 ⟨y,H2,I2,r2,q2⟩ => ?_))
  refine wpAny_bind (wpAny_standAt (wpAny_bind (wpAny_holding (thn (hs pins s2 σ H2 x y v ov iv u _ I2 r1 r2 r q2) fun _ s3 ⟨H3,I3,q3⟩ => ?_))))
  exact wpAny_release ⟨σ,H3,I3,q3⟩
def JK (te : TE) (g : TG) : TS := fun D σ H => te σ H fun x H1 => g x σ H1 D.nx
theorem qX {tg e : Expr} {te : TE} {g : TG} (he : PE X e te) (hg : PG X tg g) (hs : swapsWithSole [tg] e pos.line X.env = pure false := by rfl) (hw : swappedStores [tg] e X.env = pure none := by rfl)
    (h1 : (assignEach [tg] X.env).map (·.2) = [assign tg X.env] := by rfl) : PS X (.Assign [tg] e pos) (JK te g) := by
  intro pins s σ H D I h
  refine wpAny_Assign_stores (thn (he pins s σ H _ I h) fun v s1 ⟨x,H1,I1,r1,q1⟩ => ?_) hs hw
  rw [h1]
  exact thn (hg pins s1 σ H1 x v _ I1 r1 q1) fun _ s2 q => q
theorem zL {i : Nat} {x : Str} {e : Expr} {te : TE} {pos' : Pos} (hN : X.N.Nodup) (hi : X.N[i]? = some x) (hx : Loc X.env.scope x) (he : PE X e te) (hs : swapsWith e (some (.Name x pos')) pos.line X.env = pure false := by rfl) (hf : X.fn x = true \/ X.env.scope.names.lookup x = some .local := by first | exact .inl rfl | exact .inr rfl | assumption) :
    PS X (.Assign [.Name x pos'] e pos) (JK te (jo i)) := by
  intro pins s σ H D I h
  refine wpAny_Assign_Name (thn (he pins s σ H _ I h) fun v s1 ⟨y,H1,I1,r1,q1⟩ => ?_) hs
  exact xg I1 hN hi hx r1 (fun s2 I2 => ⟨_,H1,I2,q1⟩) hf
def zac (i j : Nat) (ta : TA) : TS := fun D σ H => ta σ H fun vs H1 => Y4 vs H1 fun v w H1 => D.nx ((σ.set i (some v)).set j (some w)) H1
theorem ZK {i j : Nat} {x y : Str} {a b : Expr} {ta : TA} {px py pt : Pos} {kt k2 pt2} (hc : X.calm = true) (hN : X.N.Nodup) (hi : X.N[i]? = some x) (hj : X.N[j]? = some y) (hij : i ≠ j)
    (hx : X.env.scope.names.lookup x = some .local) (hy : X.env.scope.names.lookup y = some .local) (ha : PA X [a,b] ta)
    (hw : swappedStores [.Tuple [.Name x px,.Name y py] kt pt] (.Tuple [a,b] k2 pt2) X.env = pure (some [x,y]))
    (hs : swapsWithSole [.Tuple [.Name x px,.Name y py] kt pt] (.Tuple [a,b] k2 pt2) pos.line X.env = pure false := by rfl) :
    PS X (.Assign [.Tuple [.Name x px,.Name y py] kt pt] (.Tuple [a,b] k2 pt2) pos) (zac i j ta) := by
  intro pins s σ H D I h
  rw [exec_Assign_arm]
  refine wpAny_bind (wpAny_standAt ?_)
  rw [hs]
  refine wpAny_bind (wpAny_pure ?_)
  rw [if_neg (by decide)]
  refine wpAny_bind (Tuple_ (thn (ha _ pins s σ H _ I h) fun us s1 ⟨vs,H1,I1,r1,q1⟩ => ?_))
  obtain ⟨v,w,e1,q1⟩ := q1
  subst e1
  obtain ⟨u1,u2,rfl,rv,rw'⟩ : ∃ u1 u2,us = [u1,u2] /\ RelV v u1 /\ RelV w u2 := by
    cases r1 with
    | cons p q =>
      cases q with
      | cons p' q' =>
        cases q'
        exact ⟨_,_,rfl,p,p'⟩
  refine wpAny_newObj_type ?_ (by show 2 <= sizeLine;decide)
  have I2 : Inv X pins σ H1 { s1 with heap := s1.heap.push { cls := .type "tuple",data := .seq [u1,u2].toArray } } := I1.kept (t' := s1.toks) fun b o e => Heap.get?_push_of_some _ e
  rw [hw]
  refine wpAny_bind (wpAny_pure ?_)
  show wpAny (model X.prog X.w) X.A (do rule "assign.swapped-stores";let items <- unpackItems (.ref s1.heap.objs.size) 2 none;assignInOrder [fun v => bindName X.env y v,fun v => bindName X.env x v] items.reverse;pure Flow.next) _ _ _
  refine wpAny_bind (wpAny_rule (wpAny_bind (unpackItems_tuple (items := #[u1,u2]) (I.ok.hd hc) (IsTup.new s1.heap _) fun h' hx' => ?_)))
  have I3 := I2.kept (h' := h') (t' := s1.toks) fun b o e => hx' b o (Nat.ne_of_lt (Heap.lt_size e)) e
  show wpAny _ _ (assignInOrder [fun v => bindName X.env y v,fun v => bindName X.env x v] [u2,u1] >>= fun _ => pure Flow.next) _ _ _
  refine wpAny_bind (assignInOrder_cons (wpAny_bindName (xg I3 hN hj (.inl hy) rw' (fun s2 I4 => ?_) (.inr hy))))
  refine assignInOrder_cons (wpAny_bindName (xg I4 hN hi (.inl hx) rv (fun s3 I5 => assignInOrder_nil (wpAny_pure ?_)) (.inr hx)))
  rw [List.set_comm _ _ (Ne.symm hij)] at I5
  exact ⟨_,H1,I5,q1⟩
end
section
variable {X : Cx} {pos : Pos}
def Wj (c : TT) (tb : TS) : TS := fun D σ H => ∃ W : Nat -> St -> Hp -> Prop,(∃ m,W m σ H) /\ ∀ m σ H,W m σ H ->
  c σ H fun b H1 => if b = true then ∃ N : St -> Hp -> Prop,(∀ σ' H',N σ' H' -> ∃ m',m' < m /\ W m' σ' H') /\ tb { D with nx := N,ct := N,bk := D.nx } σ H1 else D.nx σ H1
theorem Xd {c : Expr} {body : List Stmt} {tc : TT} {tb : TS} (hp : PassesOwn (model X.prog X.w) X.A X.env X.xe) (hc : PT X c tc) (hb : PSs X body tb) : PS X (.While c body [] pos) (Wj tc tb) := by
  intro pins s σ H D I h
  obtain ⟨W,⟨m0,w0⟩,turn⟩ := h
  refine wpAny_While (codeAny_whileLoop (fun n s' => ∃ σ' H',Inv X pins σ' H' s' /\ W n σ' H') ?_ m0 ⟨σ,H,I,w0⟩)
  rintro n s1 ⟨σ1,H1,I1,w1⟩
  refine wpAny_passesOwn hp (thn (hc pins s1 σ1 H1 _ I1 (turn n σ1 H1 w1)) fun b s2 ⟨H2,I2,q2⟩ => ?_)
  cases b with
  | true =>
    obtain ⟨N,hN,q2⟩ := q2
    rw [if_pos rfl]
    refine wpAny_passesOwn hp (thn (hb pins s2 σ1 H2 _ I2 q2) fun f s3 q3 => ?_)
    cases f with
    | next =>
      obtain ⟨σ3,H3,I3,n3⟩ := q3
      obtain ⟨m',hm,w3⟩ := hN σ3 H3 n3
      exact ⟨m',hm,σ3,H3,I3,w3⟩
    | cont =>
      obtain ⟨σ3,H3,I3,n3⟩ := q3
      obtain ⟨m',hm,w3⟩ := hN σ3 H3 n3
      exact ⟨m',hm,σ3,H3,I3,w3⟩
    | brk => exact q3
    | ret v => exact q3
  | false =>
    rw [if_neg Bool.false_ne_true]
    exact wpAny_execs_nil ⟨σ1,H2,I2,q2⟩
end
structure It where
  go : Nat -> Hp -> Prop
  yld : Nat -> Hp -> V -> Hp -> Prop
  stop : Nat -> Hp -> Prop
def qZ (X : Cx) (pins : List (Addr × Obj)) (H : Hp) (b : Addr) : Prop :=
  H b = none /\ b ≠ X.env.locals /\ b ∉ X.fs /\ (b ∈ X.ex \/ X.s₀.heap.objs.size <= b) /\ (∀ x c,X.env.cells.lookup x = some c -> c ≠ b) /\ ∀ p ∈ X.pn ++ pins,p.1 ≠ b
theorem Inv.fpOk {X : Cx} {pins : List (Addr × Obj)} {σ : St} {H H' : Hp} {s : Shared} {b : Addr} (I : Inv X pins σ H s) (hb : s.heap.objs.size <= b) (hn : H' b = none) : qZ X pins H' b := by
  refine ⟨hn,Nat.ne_of_gt (Nat.lt_of_lt_of_le I.lt hb),I.nofs hb,.inr (Nat.le_trans I.sz hb),fun x c e z => ?_,fun p hp z => ?_⟩
  · obtain ⟨v,q⟩ := I.cell x c e
    exact absurd (Nat.lt_of_lt_of_le q.lt (by rw [z];exact hb)) (Nat.lt_irrefl _)
  · exact absurd (Nat.lt_of_lt_of_le (Heap.lt_size (I.pin p hp).1) (by rw [z];exact hb)) (Nat.lt_irrefl _)
structure Zy (P : Program) (w : World) (K : PySem.W.Frag) (tg : Expr) (J : It) (fp : List Addr) (it : Addr) (tn : Nat -> Heap -> Prop) : Prop where
  mem : it ∈ fp
  obj : ∀ i h,tn i h -> ∀ b ∈ fp,∃ o,h.get? b = some o /\ ∀ v,o.data ≠ .cell v
  keep : ∀ i h h',tn i h -> (∀ b ∈ fp,∀ o,h.get? b = some o -> h'.get? b = some o) -> tn i h'
  item : ∀ (X : Cx),X.prog = P -> X.w = w -> X.K = K -> X.calm = true -> ∀ (i : Nat) (pins : List (Addr × Obj)) (s : Shared) (σ : St) (H : Hp) (E : Value -> Shared -> Prop),Inv X pins σ H s -> (∀ b ∈ fp,qZ X pins H b) -> tn i s.heap -> J.go i H ->
    wpAny (model P w) X.A (pyNext (.ref it)) (fun r s1 => ∃ u,r = some u /\
      wpAny (model P w) X.A (letOwnedTupleGo tg (.ref it) u) (fun _ s2 => ∃ x H',Inv X pins σ H' s2 /\ RelV x u /\ J.yld i H x H' /\ tn (i + 1) s2.heap /\ ∀ b ∈ fp,H' b = none) E s1) E s
  done : ∀ (X : Cx),X.prog = P -> X.w = w -> X.K = K -> X.calm = true -> ∀ (i : Nat) (pins : List (Addr × Obj)) (s : Shared) (σ : St) (H : Hp) (E : Value -> Shared -> Prop),Inv X pins σ H s -> (∀ b ∈ fp,qZ X pins H b) -> tn i s.heap -> J.stop i H ->
    wpAny (model P w) X.A (pyNext (.ref it)) (fun r s1 => r = none /\ Inv X pins σ H s1) E s
  self : ∀ (A : Around) (i : Nat) (s : Shared) (Q : Value -> Shared -> Prop) (E : Value -> Shared -> Prop),tn i s.heap -> Q (.ref it) s -> wpAny (model P w) A (pyIter (.ref it)) Q E s
abbrev TI := St -> Hp -> (It -> Hp -> Prop) -> Prop
def PIE (X : Cx) (pins : List (Addr × Obj)) (σ : St) (tg : Expr) (R : It -> Hp -> Prop) (itv : Value) (s2 : Shared) : Prop :=
  ∃ (it : Addr) (fp : List Addr) (tn : Nat -> Heap -> Prop) (J : It) (H' : Hp),itv = .ref it /\ Inv X pins σ H' s2 /\ Zy X.prog X.w X.K tg J fp it tn /\ tn 0 s2.heap /\ (∀ b ∈ fp,qZ X pins H' b) /\ R J H'
def PI (X : Cx) (tg iter : Expr) (wi : TI) : Prop :=
  ∀ (pins : List (Addr × Obj)) (s : Shared) (σ : St) (H : Hp) (R : It -> Hp -> Prop),Inv X pins σ H s -> wi σ H R ->
    wpAny (model X.prog X.w) X.A (eval iter X.env) (fun v s1 => wpAny (model X.prog X.w) X.A (pyIter v) (PIE X pins σ tg R) X.xe s1) X.xe s
theorem XG {M : Model} {A : Around} {E : Value -> Shared -> Prop} {s : Shared} {tg : Expr} {it : Addr} {u : Value} {o : Obj} {n : String} {vs : Array Value} {Q : Unit -> Shared -> Prop} (ho : s.heap.get? it = some o) (hc : o.cls = .type n) (hd : o.data = .fields vs)
    (hn : ["enumerate", "zip", "dict_itemiterator", "dict_reverseitemiterator", "odict_iterator", "itertools.zip_longest", "itertools.pairwise"].contains n = false) (hQ : Q () s) : wpAny M A (letOwnedTupleGo tg (.ref it) u) Q E s := by
  unfold letOwnedTupleGo
  cases tg <;> first
    | exact wpAny_pure hQ
    | (cases u <;> first
        | exact wpAny_pure hQ
        | (refine wpAny_bind (wpAny_load ho ?_)
           rw [hc,hd]
           show wpAny M A (if (["enumerate", "zip", "dict_itemiterator", "dict_reverseitemiterator", "odict_iterator", "itertools.zip_longest", "itertools.pairwise"].contains n && vs[0]? == some (rawInt _)) = true then _ else _) Q E s
           rw [if_neg (by intro h;rw [hn,Bool.false_and] at h;cases h)]
           exact wpAny_pure hQ))
def Itl (K : PySem.W.Frag) (a : Addr) : It :=
  ⟨fun i H => ∃ xs x,SqL K H a xs /\ xs[i]? = some x,fun i H x H' => H' = H /\ ∀ xs,SqL K H a xs -> xs[i]? = some x,fun i H => ∃ xs,SqL K H a xs /\ xs.length <= i⟩
def Itt (K : PySem.W.Frag) (a : Addr) : It :=
  ⟨fun i H => ∃ xs x,SqT K H a xs /\ xs[i]? = some x,fun i H x H' => H' = H /\ ∀ xs,SqT K H a xs -> xs[i]? = some x,fun i H => ∃ xs,SqT K H a xs /\ xs.length <= i⟩
def Itr (lo : Int) (n : Nat) : It := ⟨fun i _ => i < n,fun i H x H' => H' = H /\ x = .int (lo + i),fun i _ => n <= i⟩
theorem Q0 {P : Program} {w : World} {K : PySem.W.Frag} {tg : Expr} (a it : Addr) : Zy P w K tg (Itl K a) [it] it (fun i h => h.IsListIter it a i) where
  mem := by simp
  obj := fun i h st b hb => by
    have e : b = it := by simpa using hb
    subst e
    obtain ⟨o,e,c,d⟩ := st
    exact ⟨o,e,fun v z => by rw [d] at z;cases z⟩
  keep := fun i h h' st k => st.at fun o e => k it (by simp) o e
  item := by
    intro X hP hw hK hc i pins s σ H E I hf st hg
    subst hP hw hK
    obtain ⟨xs,x,hq,hx⟩ := hg
    obtain ⟨its,rv,p,hz⟩ := I.list hq
    obtain ⟨u,hu,ru⟩ := rv.get hx
    obtain ⟨f0,f1,f2,f3,f4,f5⟩ := hf it (by simp)
    refine wpAny_pyNext_list_item st p.isList (x := u) (by simpa using hu) fun h' st' sb => ?_
    have I1 : Inv X pins σ H { s with heap := h' } := I.turned (t' := s.toks) (fun b o hb e => (sb.2 b hb).trans e) f0 f1 f3 f4 f5
    obtain ⟨o,e,c,d⟩ := id st'
    exact ⟨u,rfl,XG (s := { s with heap := h' }) e c d (by decide) ⟨x,H,I1,ru,⟨rfl,fun ys hy => by rw [I.list_inj hy hq];exact hx⟩,st',fun b hb => (hf b hb).1⟩⟩
  done := by
    intro X hP hw hK hc i pins s σ H E I hf st hg
    subst hP hw hK
    obtain ⟨xs,hq,hx⟩ := hg
    obtain ⟨its,rv,p,hz⟩ := I.list hq
    obtain ⟨f0,f1,f2,f3,f4,f5⟩ := hf it (by simp)
    have hl := rv.length
    exact wpAny_pyNext_list_end (I.ok.hd hc) st p.isList (by simp;omega) fun h' eb => ⟨rfl,I.turned (t' := s.toks) (fun b o hb e => eb b o hb e) f0 f1 f3 f4 f5⟩
  self := fun _ _ _ _ _ st h => wpAny_pyIter_listiter st h
theorem ZC {P : Program} {w : World} {K : PySem.W.Frag} {tg : Expr} (a it : Addr) : Zy P w K tg (Itt K a) [it] it (fun i h => h.IsTupleIter it a i) where
  mem := by simp
  obj := fun i h st b hb => by
    have e : b = it := by simpa using hb
    subst e
    obtain ⟨o,e,c,d⟩ := st
    exact ⟨o,e,fun v z => by rw [d] at z;cases z⟩
  keep := fun i h h' st k => st.at fun o e => k it (by simp) o e
  item := by
    intro X hP hw hK hc i pins s σ H E I hf st hg
    subst hP hw hK
    obtain ⟨xs,x,hq,hx⟩ := hg
    obtain ⟨its,rv,p,hz⟩ := I.tuple hq
    obtain ⟨u,hu,ru⟩ := rv.get hx
    obtain ⟨f0,f1,f2,f3,f4,f5⟩ := hf it (by simp)
    refine wpAny_pyNext_tuple_item st (show s.heap.IsTuple a its.toArray from p) (x := u) (by simpa using hu) fun h' st' sb => ?_
    have I1 : Inv X pins σ H { s with heap := h' } := I.turned (t' := s.toks) (fun b o hb e => (sb.2 b hb).trans e) f0 f1 f3 f4 f5
    obtain ⟨o,e,c,d⟩ := id st'
    exact ⟨u,rfl,XG (s := { s with heap := h' }) e c d (by decide) ⟨x,H,I1,ru,⟨rfl,fun ys hy => by rw [I.tuple_inj hy hq];exact hx⟩,st',fun b hb => (hf b hb).1⟩⟩
  done := by
    intro X hP hw hK hc i pins s σ H E I hf st hg
    subst hP hw hK
    obtain ⟨xs,hq,hx⟩ := hg
    obtain ⟨its,rv,p,hz⟩ := I.tuple hq
    obtain ⟨f0,f1,f2,f3,f4,f5⟩ := hf it (by simp)
    have hl := rv.length
    exact wpAny_pyNext_tuple_end (I.ok.hd hc) st (show s.heap.IsTuple a its.toArray from p) (by simp;omega) fun h' eb => ⟨rfl,I.turned (t' := s.toks) (fun b o hb e => eb b o hb e) f0 f1 f3 f4 f5⟩
  self := fun _ _ _ _ _ st h => wpAny_pyIter_tupleiter st h
theorem ZD {P : Program} {w : World} {K : PySem.W.Frag} {tg : Expr} (it : Addr) (lo : Int) (n : Nat) : Zy P w K tg (Itr lo n) [it] it (fun i h => IsRangeIter h it (lo + (i : Nat) * 1) ((n : Int) - (i : Nat)) 1) where
  mem := by simp
  obj := fun i h st b hb => by
    have e : b = it := by simpa using hb
    subst e
    exact ⟨_,st,fun v z => by
      have z' : Data.fields _ = Data.cell v := z
      cases z'⟩
  keep := fun i h h' st k => k it (by simp) _ st
  item := by
    intro X hP hw hK hc i pins s σ H E I hf st hg
    subst hP hw hK
    obtain ⟨f0,f1,f2,f3,f4,f5⟩ := hf it (by simp)
    have W := Walks.range (prog := X.prog) (w := X.w) (I.ok.hd hc) it lo 1 n
    refine W.item i s _ _ hg st fun v h' tk hv st' kk => ?_
    obtain ⟨t,rfl⟩ := hv
    have I1 : Inv X pins σ H { s with heap := h',toks := tk } := I.turned (fun b o hb e => kk b o (by simpa using hb) e) f0 f1 f3 f4 f5
    refine ⟨_,rfl,XG (s := { s with heap := h',toks := tk }) (n := "range_iterator") st' rfl rfl (by decide) ⟨.int (lo + i),H,I1,⟨t,?_⟩,⟨rfl,rfl⟩,st',fun b hb => (hf b hb).1⟩⟩
    rw [Int.mul_one]
  done := by
    intro X hP hw hK hc i pins s σ H E I hf st hg
    subst hP hw hK
    obtain ⟨f0,f1,f2,f3,f4,f5⟩ := hf it (by simp)
    exact wpAny_pyNext_range_end (I.ok.hd hc) st (by have : n <= i := hg;omega) fun h' eb => ⟨rfl,I.turned (t' := s.toks) (fun b o hb e => eb b o hb e) f0 f1 f3 f4 f5⟩
  self := fun _ _ _ _ _ st h => wpAny_pyIter_rangeiter st h
end L2
namespace L2
open PySem PySem.Spec PyProof.Rows
section
variable {X : Cx} {tg : Expr}
inductive InL (K : PySem.W.Frag) (x : V) (H : Hp) (R : It -> Hp -> Prop) : Prop
  | mk (a : Addr) (h : x = .ref a) (e : ∃ xs,SqL K H a xs) (r : R (Itl K a) H) : InL K x H R
inductive InT (K : PySem.W.Frag) (x : V) (H : Hp) (R : It -> Hp -> Prop) : Prop
  | mk (a : Addr) (h : x = .ref a) (e : ∃ xs,SqT K H a xs) (r : R (Itt K a) H) : InT K x H R
def YX (K : PySem.W.Frag) (tl : TE) : TI := fun σ H R => tl σ H fun x H1 => InL K x H1 R
def zan (K : PySem.W.Frag) (tl : TE) : TI := fun σ H R => tl σ H fun x H1 => InT K x H1 R
theorem qT {l : Expr} {tl : TE} (hl : PE X l tl) : PI X tg l (YX X.K tl) := by
  intro pins s σ H R I h
  refine thn (hl pins s σ H _ I h) fun v s1 ⟨x,H1,I1,r1,q1⟩ => ?_
  obtain ⟨a,e,⟨xs,hq⟩,q⟩ := q1
  subst e
  cases r1
  obtain ⟨its,rv,p,hz⟩ := I1.list hq
  refine wpAny_pyIter_list p.isList ?_
  refine ⟨s1.heap.objs.size,[s1.heap.objs.size],_,_,H1,rfl,I1.kept (t' := s1.toks) fun b o e => Heap.get?_push_of_some _ e,Q0 a _,⟨_,Heap.get?_push_size _ rfl,rfl,rfl⟩,fun b hb => ?_,q⟩
  have e : b = s1.heap.objs.size := by simpa using hb
  subst e
  exact I1.fpOk (Nat.le_refl _) (I1.hok.fresh (Nat.le_refl _))
theorem Wz {l : Expr} {tl : TE} (hl : PE X l tl) : PI X tg l (zan X.K tl) := by
  intro pins s σ H R I h
  refine thn (hl pins s σ H _ I h) fun v s1 ⟨x,H1,I1,r1,q1⟩ => ?_
  obtain ⟨a,e,⟨xs,hq⟩,q⟩ := q1
  subst e
  cases r1
  obtain ⟨its,rv,p,hz⟩ := I1.tuple hq
  refine wpAny_pyIter_tuple (show s1.heap.IsTuple a its.toArray from p) ?_
  refine ⟨s1.heap.objs.size,[s1.heap.objs.size],_,_,H1,rfl,I1.kept (t' := s1.toks) fun b o e => Heap.get?_push_of_some _ e,ZC a _,⟨_,Heap.get?_push_size _ rfl,rfl,rfl⟩,fun b hb => ?_,q⟩
  have e : b = s1.heap.objs.size := by simpa using hb
  subst e
  exact I1.fpOk (Nat.le_refl _) (I1.hok.fresh (Nat.le_refl _))
theorem Xb {pins : List (Addr × Obj)} {σ : St} {H : Hp} {s : Shared} {R : It -> Hp -> Prop} {E : Value -> Shared -> Prop} {lo hi : Int} {t u v : Tok} {tk : Nat} (I : Inv X pins σ H s) (h1 : -(2 ^ 62) <= lo) (h2 : lo < 2 ^ 62) (h3 : -(2 ^ 62) <= hi) (h4 : hi < 2 ^ 62)
    (q : R (Itr lo (hi - lo).toNat) H) : wpAny (model X.prog X.w) X.A (pyIter (.ref s.heap.objs.size)) (PIE X pins σ tg R) E { s with heap := s.heap.push { cls := .type "range",data := .fields #[.int lo t,.int hi u,.int 1 v] },toks := tk } := by
  refine wpAny_pyIter_range (IsRange.new ..) (small_one h1 h2 h3 h4) ?_
  have I1 : Inv X pins σ H { s with heap := s.heap.push { cls := .type "range",data := .fields #[.int lo t,.int hi u,.int 1 v] },toks := tk } := I.kept fun b o e => Heap.get?_push_of_some _ e
  refine ⟨(s.heap.push { cls := .type "range",data := .fields #[.int lo t,.int hi u,.int 1 v] }).objs.size,[(s.heap.push { cls := .type "range",data := .fields #[.int lo t,.int hi u,.int 1 v] }).objs.size],_,_,H,rfl,
    I1.kept (t' := tk) fun b o e => Heap.get?_push_of_some _ e,ZD _ lo (hi - lo).toNat,?_,fun b hb => ?_,q⟩
  · have e1 : lo + ((0 : Nat) : Int) * 1 = lo := by simp
    have e2 : (((hi - lo).toNat : Nat) : Int) - ((0 : Nat) : Int) = Builtin.Range.rangeSize lo hi 1 := by rw [rangeSize_one];split <;> omega
    show IsRangeIter _ _ (lo + ((0 : Nat) : Int) * 1) ((((hi - lo).toNat : Nat) : Int) - ((0 : Nat) : Int)) 1
    rw [e1,e2]
    exact Heap.get?_push_size _ rfl
  · have e : b = (s.heap.push { cls := .type "range",data := .fields #[.int lo t,.int hi u,.int 1 v] }).objs.size := by simpa using hb
    subst e
    exact I1.fpOk (Nat.le_refl _) (I1.hok.fresh (Nat.le_refl _))
inductive Y5 (vs : List V) (H : Hp) (R : It -> Hp -> Prop) : Prop
  | mk (j : Int) (h : vs = [.int j]) (h1 : -(2 ^ 62) <= j) (h2 : j < 2 ^ 62) (r : R (Itr 0 j.toNat) H) : Y5 vs H R
def YW (ta : TA) : TI := fun σ H R => ta σ H fun vs H1 => Y5 vs H1 R
theorem qG {a : Expr} {ta : TA} {p pos : Pos} (hg : Gl X "range") (hm : X.mg "range" = none) (ha : PA X [a] ta) (hs : starEach [a] X.env = [(false,eval a X.env)] := by rfl) : PI X tg (.Call (.Name "range" p) [a] [] pos) (YW ta) := by
  intro pins s σ H R I h
  refine Call_ (jH I hg hm boot_range (PyProof.Rows.callWith_type1 (thn (ha pos pins s σ H _ I h) fun us s1 ⟨vs,H1,I1,r1,q1⟩ => ?_) hs rfl))
  obtain ⟨j,e,q1,q2,q⟩ := q1
  subst e
  cases r1 with
  | cons r rr =>
    cases rr
    obtain ⟨t,rfl⟩ := r
    exact call_range_1 (Xb I1 (by omega) (by omega) q1 q2 (by simpa using q))
def zah (wi : TI) (g : TG) (tb : TS) : TS := fun D σ H => wi σ H fun J H1 => ∃ W : Nat -> Nat -> St -> Hp -> Prop,(∃ m,W 0 m σ H1) /\ ∀ i m σ H,W i m σ H ->
  (J.stop i H /\ D.nx σ H) \/ (J.go i H /\ ∃ N : St -> Hp -> Prop,(∀ σ' H',N σ' H' -> ∃ m',m' < m /\ W (i + 1) m' σ' H') /\ ∀ x H',J.yld i H x H' -> g x σ H' fun σ2 H2 => tb { D with nx := N,ct := N,bk := D.nx } σ2 H2)
def zD (fp : List Addr) (h : Heap) : List (Addr × Obj) := fp.filterMap fun b => (h.get? b).map fun o => (b,o)
theorem zX {fp : List Addr} {h : Heap} {b : Addr} {o : Obj} (hb : b ∈ fp) (e : h.get? b = some o) : (b,o) ∈ zD fp h := List.mem_filterMap.mpr ⟨b,hb,by rw [e];rfl⟩
theorem qV {fp : List Addr} {h : Heap} {p : Addr × Obj} (hp : p ∈ zD fp h) : p.1 ∈ fp /\ h.get? p.1 = some p.2 := by
  obtain ⟨b,hb,e⟩ := List.mem_filterMap.mp hp
  cases q : h.get? b with
  | none => rw [q] at e;cases e
  | some o =>
    rw [q] at e
    have e' : (b,o) = p := Option.some.inj e
    subst e'
    exact ⟨hb,q⟩
theorem Inv.pinned {pins : List (Addr × Obj)} {σ : St} {H : Hp} {s : Shared} {fp : List Addr} (I : Inv X pins σ H s) (hf : ∀ b ∈ fp,qZ X pins H b) (ho : ∀ b ∈ fp,∃ o,s.heap.get? b = some o /\ ∀ v,o.data ≠ .cell v) : Inv X (pins ++ zD fp s.heap) σ H s :=
  I.pins_of fun p hp => (List.mem_append.mp hp).elim (fun z => I.pin p (List.mem_append_right _ z)) fun z => by
    obtain ⟨hb,e⟩ := qV z
    obtain ⟨f0,f1,f2,_⟩ := hf p.1 hb
    obtain ⟨o,e',d⟩ := ho p.1 hb
    rw [e] at e';cases e'
    exact ⟨e,f0,f1,f2,d⟩
theorem Inv.unpinned {pins pl : List (Addr × Obj)} {σ : St} {H : Hp} {s : Shared} (I : Inv X (pins ++ pl) σ H s) : Inv X pins σ H s := I.pins_of fun p hp => I.pin p (List.mem_append_right _ (List.mem_append_left _ hp))
theorem jg {iter : Expr} {body : List Stmt} {wi : TI} {g : TG} {tb : TS} {pos : Pos} (hp : PassesOwn (model X.prog X.w) X.A X.env X.xe) (hc : X.calm = true) (hi : PI X tg iter wi) (hg : PG X tg g) (hb : PSs X body tb)
    (hs : ∀ x,foldedSetIterable iter X.env x = pure x := by intro _;rfl) : PS X (.For tg iter body [] pos) (zah wi g tb) := by
  intro pins s σ H D I h
  refine wpAny_For (thn (hi pins s σ H _ I h) fun v s1 h1 => thn h1 fun itv s2 h2 => ?_) hs
  obtain ⟨it,fp,tn,J,H2,e,I2,T,st2,f2,W,⟨m0,w0⟩,turn⟩ := h2
  subst e
  have stat : ∀ {H' : Hp},(∀ b ∈ fp,H' b = none) -> ∀ b ∈ fp,qZ X pins H' b := fun hn b hb => ⟨hn b hb,(f2 b hb).2⟩
  refine codeAny_forLoop_any (fun n s' => ∃ i σ' H',Inv X pins σ' H' s' /\ tn i s'.heap /\ (∀ b ∈ fp,H' b = none) /\ W i n σ' H') ?_ m0 ⟨0,σ,H2,I2,st2,fun b hb => (f2 b hb).1,w0⟩
  rintro n s3 ⟨i,σ3,H3,I3,st3,fr3,w3⟩
  rcases turn i n σ3 H3 w3 with ⟨stop,qn⟩ | ⟨go,N,hN,step⟩
  · refine wpAny_passesOwn hp (thn (T.done X rfl rfl rfl hc i pins s3 σ3 H3 X.xe I3 (stat fr3) st3 stop) fun r s4 ⟨hr,I4⟩ => ?_)
    subst hr
    exact wpAny_execs_nil ⟨σ3,H3,I4,qn⟩
  · refine wpAny_passesOwn hp (thn (T.item X rfl rfl rfl hc i pins s3 σ3 H3 X.xe I3 (stat fr3) st3 go) fun r s4 ⟨u,hr,h4⟩ => ?_)
    subst hr
    refine wpAny_passesOwn hp (thn h4 fun _ s5 ⟨x,H5,I5,r5,y5,st5,fr5⟩ => ?_)
    have I5' := I5.pinned (stat fr5) (T.obj _ _ st5)
    refine wpAny_passesOwn hp (thn (hg _ s5 σ3 H5 x u _ I5' r5 (step x H5 y5)) fun _ s6 ⟨σ6,H6,I6,q6⟩ => ?_)
    refine wpAny_passesOwn hp (thn (hb _ s6 σ6 H6 _ I6 q6) fun f s7 q7 => ?_)
    have again : ∀ {σ7 : St} {H7 : Hp},Inv X (pins ++ zD fp s5.heap) σ7 H7 s7 -> N σ7 H7 -> ∃ m,m < n /\ ∃ i σ' H',Inv X pins σ' H' s7 /\ tn i s7.heap /\ (∀ b ∈ fp,H' b = none) /\ W i m σ' H' := fun {σ7 H7} I7 n7 => by
      obtain ⟨m',hm,w7⟩ := hN σ7 H7 n7
      refine ⟨m',hm,i + 1,σ7,H7,I7.unpinned,T.keep _ _ _ st5 fun b hb o e => (I7.pin (b,o) (List.mem_append_right _ (List.mem_append_right _ (zX hb e)))).1,fun b hb => ?_,w7⟩
      obtain ⟨o,e,d⟩ := T.obj _ _ st5 b hb
      exact (I7.pin (b,o) (List.mem_append_right _ (List.mem_append_right _ (zX hb e)))).2.1
    cases f with
    | next => obtain ⟨σ7,H7,I7,n7⟩ := q7;exact again I7 n7
    | cont => obtain ⟨σ7,H7,I7,n7⟩ := q7;exact again I7 n7
    | brk => obtain ⟨σ7,H7,I7,q7⟩ := q7;exact ⟨σ7,H7,I7.unpinned,q7⟩
    | ret v => obtain ⟨x7,σ7,H7,I7,r7,q7⟩ := q7;exact ⟨x7,σ7,H7,I7.unpinned,r7,q7⟩
end
theorem XL {K : PySem.W.Frag} {a : Addr} {xs : List V} {g : TG} {tb : TS} {D : wv} {σ : St} {H : Hp} (Pv : Nat -> St -> Hp -> Prop) (h0 : Pv 0 σ H) (hl : ∀ i σ H,i <= xs.length -> Pv i σ H -> SqL K H a xs)
    (hs : ∀ i x σ H,xs[i]? = some x -> Pv i σ H -> g x σ H fun σ2 H2 => tb { D with nx := Pv (i + 1),ct := Pv (i + 1),bk := D.nx } σ2 H2) (hd : ∀ σ H,Pv xs.length σ H -> D.nx σ H) :
    ∃ W : Nat -> Nat -> St -> Hp -> Prop,(∃ m,W 0 m σ H) /\ ∀ i m σ H,W i m σ H ->
      ((Itl K a).stop i H /\ D.nx σ H) \/ ((Itl K a).go i H /\ ∃ N : St -> Hp -> Prop,(∀ σ' H',N σ' H' -> ∃ m',m' < m /\ W (i + 1) m' σ' H') /\ ∀ x H',(Itl K a).yld i H x H' -> g x σ H' fun σ2 H2 => tb { D with nx := N,ct := N,bk := D.nx } σ2 H2) := by
  refine ⟨fun i m σ H => m = xs.length - i /\ i <= xs.length /\ Pv i σ H,⟨xs.length,by simp,Nat.zero_le _,h0⟩,?_⟩
  rintro i m σ H ⟨rfl,hi,p⟩
  have q := hl i σ H hi p
  by_cases hlt : i < xs.length
  · refine .inr ⟨⟨xs,xs[i],q,by simp [hlt]⟩,Pv (i + 1),fun σ' H' p' => ⟨xs.length - (i + 1),by omega,rfl,hlt,p'⟩,fun x H' y => ?_⟩
    obtain ⟨e,y⟩ := y
    subst e
    exact hs i x σ _ (y xs q) p
  · have e : i = xs.length := by omega
    subst e
    exact .inl ⟨⟨xs,q,Nat.le_refl _⟩,hd σ H p⟩
theorem VH {K : PySem.W.Frag} {a : Addr} {xs : List V} {g : TG} {tb : TS} {D : wv} {σ : St} {H : Hp} (Pv : Nat -> St -> Hp -> Prop) (h0 : Pv 0 σ H) (hl : ∀ i σ H,i <= xs.length -> Pv i σ H -> SqT K H a xs)
    (hs : ∀ i x σ H,xs[i]? = some x -> Pv i σ H -> g x σ H fun σ2 H2 => tb { D with nx := Pv (i + 1),ct := Pv (i + 1),bk := D.nx } σ2 H2) (hd : ∀ σ H,Pv xs.length σ H -> D.nx σ H) :
    ∃ W : Nat -> Nat -> St -> Hp -> Prop,(∃ m,W 0 m σ H) /\ ∀ i m σ H,W i m σ H ->
      ((Itt K a).stop i H /\ D.nx σ H) \/ ((Itt K a).go i H /\ ∃ N : St -> Hp -> Prop,(∀ σ' H',N σ' H' -> ∃ m',m' < m /\ W (i + 1) m' σ' H') /\ ∀ x H',(Itt K a).yld i H x H' -> g x σ H' fun σ2 H2 => tb { D with nx := N,ct := N,bk := D.nx } σ2 H2) := by
  refine ⟨fun i m σ H => m = xs.length - i /\ i <= xs.length /\ Pv i σ H,⟨xs.length,by simp,Nat.zero_le _,h0⟩,?_⟩
  rintro i m σ H ⟨rfl,hi,p⟩
  have q := hl i σ H hi p
  by_cases hlt : i < xs.length
  · refine .inr ⟨⟨xs,xs[i],q,by simp [hlt]⟩,Pv (i + 1),fun σ' H' p' => ⟨xs.length - (i + 1),by omega,rfl,hlt,p'⟩,fun x H' y => ?_⟩
    obtain ⟨e,y⟩ := y
    subst e
    exact hs i x σ _ (y xs q) p
  · have e : i = xs.length := by omega
    subst e
    exact .inl ⟨⟨xs,q,Nat.le_refl _⟩,hd σ H p⟩
theorem jW {lo : Int} {n : Nat} {g : TG} {tb : TS} {D : wv} {σ : St} {H : Hp} (Pv : Nat -> St -> Hp -> Prop) (h0 : Pv 0 σ H)
    (hs : ∀ i σ H,i < n -> Pv i σ H -> g (.int (lo + i)) σ H fun σ2 H2 => tb { D with nx := Pv (i + 1),ct := Pv (i + 1),bk := D.nx } σ2 H2) (hd : ∀ σ H,Pv n σ H -> D.nx σ H) :
    ∃ W : Nat -> Nat -> St -> Hp -> Prop,(∃ m,W 0 m σ H) /\ ∀ i m σ H,W i m σ H ->
      ((Itr lo n).stop i H /\ D.nx σ H) \/ ((Itr lo n).go i H /\ ∃ N : St -> Hp -> Prop,(∀ σ' H',N σ' H' -> ∃ m',m' < m /\ W (i + 1) m' σ' H') /\ ∀ x H',(Itr lo n).yld i H x H' -> g x σ H' fun σ2 H2 => tb { D with nx := N,ct := N,bk := D.nx } σ2 H2) := by
  refine ⟨fun i m σ H => m = n - i /\ i <= n /\ Pv i σ H,⟨n,by simp,Nat.zero_le _,h0⟩,?_⟩
  rintro i m σ H ⟨rfl,hi,p⟩
  by_cases hlt : i < n
  · refine .inr ⟨hlt,Pv (i + 1),fun σ' H' p' => ⟨n - (i + 1),by omega,rfl,hlt,p'⟩,fun x H' y => ?_⟩
    obtain ⟨e,y⟩ := y
    subst e y
    exact hs i σ _ hlt p
  · have e : i = n := by omega
    subst e
    exact .inl ⟨Nat.le_refl _,hd σ H p⟩
end L2
namespace L2
open PySem PySem.Spec PyProof.Rows
abbrev R2 := V -> V -> Hp -> VK -> Prop
def OpR (X : Cx) (f : Value -> Value -> Sem Value) (r : R2) : Prop :=
  ∀ (pins : List (Addr × Obj)) (s : Shared) (σ : St) (H : Hp) (x y : V) (v u : Value) (Q : VK),Inv X pins σ H s -> RelV x v -> RelV y u -> r x y H Q ->
    wpAny (model X.prog X.w) X.A (f v u) (EP X pins σ Q) X.xe s
def UnR (X : Cx) (f : Value -> Sem Value) (r : V -> Hp -> VK -> Prop) : Prop :=
  ∀ (pins : List (Addr × Obj)) (s : Shared) (σ : St) (H : Hp) (x : V) (v : Value) (Q : VK),Inv X pins σ H s -> RelV x v -> r x H Q ->
    wpAny (model X.prog X.w) X.A (f v) (EP X pins σ Q) X.xe s
def CallR (X : Cx) (f : Value) (r : List V -> Hp -> VK -> Prop) : Prop :=
  ∀ (pins : List (Addr × Obj)) (s : Shared) (σ : St) (H : Hp) (xs : List V) (us : List Value) (Q : VK),Inv X pins σ H s -> Vals xs us -> r xs H Q ->
    wpAny (model X.prog X.w) X.A (call f us) (EP X pins σ Q) X.xe s
def tOp (r : R2) (ta tb : TE) : TE := fun σ H Q => ta σ H fun x H1 => tb σ H1 fun y H2 => r x y H2 Q
def tUn (r : V -> Hp -> VK -> Prop) (ta : TE) : TE := fun σ H Q => ta σ H fun x H1 => r x H1 Q
inductive rI (C : Int -> Int -> Prop) (g : Int -> Int -> V) (x : V) (y : V) (H : Hp) (Q : VK) : Prop
  | mk (i j : _) (_ : x = .int i) (_ : y = .int j) (_ : C i j) (_ : Q (g i j) H) : rI C g x y H Q
inductive rI0 (g : Int -> Int -> V) (x : V) (y : V) (H : Hp) (Q : VK) : Prop
  | mk (i j : _) (_ : x = .int i) (_ : y = .int j) (_ : Q (g i j) H) : rI0 g x y H Q
inductive rU (g : Int -> V) (x : V) (H : Hp) (Q : VK) : Prop
  | mk (i : _) (_ : x = .int i) (_ : Q (g i) H) : rU g x H Q
section
variable {X : Cx} {a b c : Expr} {ta tb tc : TE} {pos : Pos}
theorem W5 (ha : PE X a ta) (hb : PE X b tb) {pins : List (Addr × Obj)} {s : Shared} {σ : St} {H : Hp} {R : V -> V -> Hp -> Prop} (I : Inv X pins σ H s)
    (h : ta σ H fun x H1 => tb σ H1 fun y H2 => R x y H2) {Q : Value -> Shared -> Prop} {f : Value -> Value -> Sem Value}
    (hf : ∀ v u s2 x y H2,Inv X pins σ H2 s2 -> RelV x v -> RelV y u -> R x y H2 -> wpAny (model X.prog X.w) X.A (f v u) Q X.xe s2) :
    wpAny (model X.prog X.w) X.A (eval a X.env) (fun v s₁ => wpAny (model X.prog X.w) X.A (eval b X.env) (fun u s₂ => wpAny (model X.prog X.w) X.A (f v u) Q X.xe s₂) X.xe s₁) X.xe s := by
  refine thn (ha pins s σ H _ I h) fun v s1 ⟨x,H1,I1,r1,q1⟩ => ?_
  refine thn (hb pins s1 σ H1 _ I1 q1) fun u s2 ⟨y,H2,I2,r2,q2⟩ => ?_
  exact hf v u s2 x y H2 I2 r1 r2 q2
theorem zE {op : Operator} {r : R2} (ho : OpR X (binaryOp op) r) (ha : PE X a ta) (hb : PE X b tb) : PE X (.BinOp a op b pos) (tOp r ta tb) := by
  intro pins s σ H Q I h
  exact wpAny_BinOp (W5 ha hb I h fun v u s2 x y H2 I2 rx ry q => ho pins s2 σ H2 x y v u Q I2 rx ry q)
theorem Xe {op : UnaryOp} {r : V -> Hp -> VK -> Prop} (ho : UnR X (unaryOp op) r) (ha : PE X a ta) : PE X (.UnaryOp op a pos) (tUn r ta) := by
  intro pins s σ H Q I h
  exact UnaryOp_ (thn (ha pins s σ H _ I h) fun v s1 ⟨x,H1,I1,r1,q1⟩ => ho pins s1 σ H1 x v Q I1 r1 q1)
theorem opI {f : Value -> Value -> Sem Value} {C : Int -> Int -> Prop} {g : Int -> Int -> Int}
    (rule : ∀ (i j : Int) (t u : Tok) (s : Shared) (Q : Value -> Shared -> Prop) (E : Value -> Shared -> Prop),C i j -> Q (.int (g i j) s.toks) { s with toks := s.toks + 1 } -> wpAny (model X.prog X.w) X.A (f (.int i t) (.int j u)) Q E s) :
    OpR X f (rI C fun i j => .int (g i j)) := by
  intro pins s σ H x y v u Q I rx ry h
  obtain ⟨i,j,rfl,rfl,hc,q⟩ := h
  obtain ⟨t,rfl⟩ := rx
  obtain ⟨t',rfl⟩ := ry
  exact rule i j t t' s _ _ hc ⟨.int (g i j),H,I.tok _,⟨_,rfl⟩,q⟩
theorem YE {f : Value -> Value -> Sem Value} {g : Int -> Int -> Int}
    (rule : ∀ (i j : Int) (t u : Tok) (s : Shared) (Q : Value -> Shared -> Prop) (E : Value -> Shared -> Prop),Q (.int (g i j) s.toks) { s with toks := s.toks + 1 } -> wpAny (model X.prog X.w) X.A (f (.int i t) (.int j u)) Q E s) :
    OpR X f (rI0 fun i j => .int (g i j)) := by
  intro pins s σ H x y v u Q I rx ry h
  obtain ⟨i,j,rfl,rfl,q⟩ := h
  obtain ⟨t,rfl⟩ := rx
  obtain ⟨t',rfl⟩ := ry
  exact rule i j t t' s _ _ ⟨.int (g i j),H,I.tok _,⟨_,rfl⟩,q⟩
theorem Vq {f : Value -> Value -> Sem Value} {g : Int -> Int -> Bool}
    (rule : ∀ (i j : Int) (t u : Tok) (s : Shared) (Q : Value -> Shared -> Prop) (E : Value -> Shared -> Prop),Q (.bool (g i j)) s -> wpAny (model X.prog X.w) X.A (f (.int i t) (.int j u)) Q E s) :
    OpR X f (rI0 fun i j => .bl (g i j)) := by
  intro pins s σ H x y v u Q I rx ry h
  obtain ⟨i,j,rfl,rfl,q⟩ := h
  obtain ⟨t,rfl⟩ := rx
  obtain ⟨t',rfl⟩ := ry
  exact rule i j t t' s _ _ ⟨.bl (g i j),H,I,rfl,q⟩
def Y6 (i j : Int) : Prop := 0 < j /\ j < 1073741824
def zat (i j : Int) : Prop := 0 <= j /\ j <= 1000000 /\ i.natAbs < 2 ^ 64
def CMul (i j : Int) : Prop := (-(2 ^ 64) < i /\ i < 2 ^ 64) \/ (-(2 ^ 64) < j /\ j < 2 ^ 64)
theorem CMul.ok {i j : Int} (h : CMul i j) : IntMulOk i j := by
  rcases h with ⟨h1,h2⟩ | ⟨h1,h2⟩
  · exact .of_left (intBits_le_64 h1 h2)
  · exact .of_right (intBits_le_64 h1 h2)
theorem z0 : OpR X (binaryOp .Add) (rI0 fun i j => .int (i + j)) := YE fun _ _ _ _ _ _ _ q => add_int q
theorem jG : OpR X (binaryOp .Sub) (rI0 fun i j => .int (i - j)) := YE fun _ _ _ _ _ _ _ q => sub_int q
theorem jw : OpR X (binaryOp .Mult) (rI CMul fun i j => .int (i * j)) := opI fun _ _ _ _ _ _ _ hc q => mul_int q hc.ok
theorem Vo : OpR X (binaryOp .FloorDiv) (rI Y6 fun i j => .int (i / j)) := opI fun i j _ _ _ _ _ hc q => by
  have h1 : (0 : Int) < j := hc.1
  have h2 : j < 1073741824 := hc.2
  exact floordiv_int (by omega) (by rw [Int.fdiv_eq_ediv_of_nonneg i (by omega)];exact q) (.inl (PyProof.noPylong_small (by omega)))
theorem ji : OpR X (binaryOp .Mod) (rI (fun _ j => 0 < j) fun i j => .int (i % j)) := opI fun i j _ _ _ _ _ hc q => by
  have h1 : (0 : Int) < j := hc
  exact mod_int' (by omega) (by rw [Int.fmod_eq_emod_of_nonneg i (by omega)];exact q)
theorem ZM : OpR X (binaryOp .Pow) (rI zat fun i j => .int (i ^ j.toNat)) := opI fun _ _ _ _ _ _ _ hc q => pow_int_small hc.1 hc.2.1 hc.2.2 q
theorem unI {f : Value -> Sem Value} {g : Int -> Int}
    (rule : ∀ (i : Int) (t : Tok) (s : Shared) (Q : Value -> Shared -> Prop) (E : Value -> Shared -> Prop),Q (.int (g i) s.toks) { s with toks := s.toks + 1 } -> wpAny (model X.prog X.w) X.A (f (.int i t)) Q E s) :
    UnR X f (rU fun i => .int (g i)) := by
  intro pins s σ H x v Q I rx h
  obtain ⟨i,rfl,q⟩ := h
  obtain ⟨t,rfl⟩ := rx
  exact rule i t s _ _ ⟨.int (g i),H,I.tok _,⟨_,rfl⟩,q⟩
theorem ZA : UnR X (unaryOp .USub) (rU fun i => .int (-i)) := unI fun _ _ _ _ _ q => neg_int q
end
def Yh : V -> V -> Bool
  | .non,.non => true | .non,.int _ => true | .int _,.non => true | .non,.bl _ => true | .bl _,.non => true | .non,.str _ => true | .str _,.non => true
  | .int _,.int _ => true | .bl _,.bl _ => true | .str _,.str _ => true | .byt _,.byt _ => true
  | .int _,.str _ => true | .str _,.int _ => true | .bl _,.str _ => true | .str _,.bl _ => true
  | _,_ => false
def rEq : R2 := fun x y H Q => Yh x y = true /\ Q (.bl (decide (x = y))) H
def rNe : R2 := fun x y H Q => Yh x y = true /\ Q (.bl (!decide (x = y))) H
theorem QC {i j : Int} : decide (V.int i = V.int j) = (i == j) := by
  rw [Bool.eq_iff_iff]
  simp
theorem XQ {i j : Bool} : decide (V.bl i = V.bl j) = (i == j) := by
  rw [Bool.eq_iff_iff]
  simp
theorem QB {i j : Str} : decide (V.str i = V.str j) = (i == j) := by
  rw [Bool.eq_iff_iff]
  simp
theorem QD {i j : Array UInt8} : decide (V.byt i = V.byt j) = (i.toList == j.toList) := by
  rw [Bool.eq_iff_iff]
  cases i
  cases j
  simp
section
variable {X : Cx} {a b c : Expr} {ta tb tc : TE} {pos : Pos}
theorem zS {pins : List (Addr × Obj)} {σ : St} {H : Hp} {s : Shared} {Q : VK} {k k' : Bool} (I : Inv X pins σ H s) (q : Q (.bl k) H) (e : k = k') : EP X pins σ Q (.bool k') s := by
  subst e
  exact ⟨.bl k,H,I,rfl,q⟩
theorem qB : OpR X (compareOp .Eq) rEq := by
  intro pins s σ H x y v u Q I rx ry h
  obtain ⟨hs,q⟩ := h
  cases x with
  | non =>
    cases rx
    cases y with
    | non => cases ry;exact PySem.EqNone.eq_none_none (zS I q (by simp))
    | bl j => cases ry;exact PySem.EqNone.eq_none_bool (zS I q (by simp))
    | int j => obtain ⟨t',rfl⟩ := ry;exact PySem.EqNone.eq_none_int (zS I q (by simp))
    | str j => obtain ⟨t',rfl⟩ := ry;exact PySem.EqNone.eq_none_str (zS I q (by simp))
    | _ => exact absurd (show false = true from hs) Bool.false_ne_true
  | bl i =>
    cases rx
    cases y with
    | non => cases ry;exact PySem.EqNone.eq_bool_none (zS I q (by simp))
    | bl j => cases ry;exact eq_bool (zS I q XQ)
    | str j => obtain ⟨t',rfl⟩ := ry;exact PySem.EqMixed.eq_bool_str (zS I q (by simp))
    | _ => exact absurd (show false = true from hs) Bool.false_ne_true
  | int i =>
    obtain ⟨t,rfl⟩ := rx
    cases y with
    | non => cases ry;exact PySem.EqNone.eq_int_none (zS I q (by simp))
    | int j => obtain ⟨t',rfl⟩ := ry;exact eq_int (zS I q QC)
    | str j => obtain ⟨t',rfl⟩ := ry;exact PySem.EqMixed.eq_int_str (zS I q (by simp))
    | _ => exact absurd (show false = true from hs) Bool.false_ne_true
  | str i =>
    obtain ⟨t,rfl⟩ := rx
    cases y with
    | non => cases ry;exact PySem.EqNone.eq_str_none (zS I q (by simp))
    | bl j => cases ry;exact PySem.EqMixed.eq_str_bool (zS I q (by simp))
    | int j => obtain ⟨t',rfl⟩ := ry;exact PySem.EqMixed.eq_str_int (zS I q (by simp))
    | str j => obtain ⟨t',rfl⟩ := ry;exact eq_str (zS I q QB)
    | _ => exact absurd (show false = true from hs) Bool.false_ne_true
  | byt i =>
    obtain ⟨t,rfl⟩ := rx
    cases y with
    | byt j => obtain ⟨t',rfl⟩ := ry;exact PySem.W.eq_bytes (zS I q QD)
    | _ => exact absurd (show false = true from hs) Bool.false_ne_true
  | _ => cases y <;> exact absurd (show false = true from hs) Bool.false_ne_true
theorem yW : OpR X (compareOp .NotEq) rNe := by
  intro pins s σ H x y v u Q I rx ry h
  obtain ⟨hs,q⟩ := h
  cases x with
  | non =>
    cases rx
    cases y with
    | non => cases ry;exact PySem.EqNone.ne_none_none (zS I q (by simp))
    | bl j => cases ry;exact PySem.EqNone.ne_none_bool (zS I q (by simp))
    | int j => obtain ⟨t',rfl⟩ := ry;exact PySem.EqNone.ne_none_int (zS I q (by simp))
    | str j => obtain ⟨t',rfl⟩ := ry;exact PySem.EqNone.ne_none_str (zS I q (by simp))
    | _ => exact absurd (show false = true from hs) Bool.false_ne_true
  | bl i =>
    cases rx
    cases y with
    | non => cases ry;exact PySem.EqNone.ne_bool_none (zS I q (by simp))
    | bl j => cases ry;exact ne_bool (zS I q (congrArg not XQ))
    | str j => obtain ⟨t',rfl⟩ := ry;exact PySem.EqMixed.ne_bool_str (zS I q (by simp))
    | _ => exact absurd (show false = true from hs) Bool.false_ne_true
  | int i =>
    obtain ⟨t,rfl⟩ := rx
    cases y with
    | non => cases ry;exact PySem.EqNone.ne_int_none (zS I q (by simp))
    | int j => obtain ⟨t',rfl⟩ := ry;exact ne_int (zS I q (congrArg not QC))
    | str j => obtain ⟨t',rfl⟩ := ry;exact PySem.EqMixed.ne_int_str (zS I q (by simp))
    | _ => exact absurd (show false = true from hs) Bool.false_ne_true
  | str i =>
    obtain ⟨t,rfl⟩ := rx
    cases y with
    | non => cases ry;exact PySem.EqNone.ne_str_none (zS I q (by simp))
    | bl j => cases ry;exact PySem.EqMixed.ne_str_bool (zS I q (by simp))
    | int j => obtain ⟨t',rfl⟩ := ry;exact PySem.EqMixed.ne_str_int (zS I q (by simp))
    | str j => obtain ⟨t',rfl⟩ := ry;exact ne_str (zS I q (congrArg not QB))
    | _ => exact absurd (show false = true from hs) Bool.false_ne_true
  | byt i =>
    obtain ⟨t,rfl⟩ := rx
    cases y with
    | byt j => obtain ⟨t',rfl⟩ := ry;exact PySem.W.ne_bytes (zS I q (congrArg not QD))
    | _ => exact absurd (show false = true from hs) Bool.false_ne_true
  | _ => cases y <;> exact absurd (show false = true from hs) Bool.false_ne_true
theorem Xn : OpR X (compareOp .Lt) (rI0 fun i j => .bl (decide (i < j))) := Vq fun _ _ _ _ _ _ _ q => lt_int q
theorem wD : OpR X (compareOp .LtE) (rI0 fun i j => .bl (decide (i <= j))) := Vq fun _ _ _ _ _ _ _ q => le_int q
theorem wE : OpR X (compareOp .Gt) (rI0 fun i j => .bl (decide (j < i))) := Vq fun _ _ _ _ _ _ _ q => gt_int q
theorem YD : OpR X (compareOp .GtE) (rI0 fun i j => .bl (decide (j <= i))) := Vq fun _ _ _ _ _ _ _ q => ge_int q
theorem WE : OpR X (compareOp .Is) (fun x y H Q => y = .non /\ Q (.bl (decide (x = .non))) H) := by
  intro pins s σ H x y v u Q I rx ry h
  obtain ⟨rfl,q⟩ := h
  cases ry
  refine is_none_gen (zS I q ?_)
  cases x <;> first
    | (cases rx;rfl)
    | (obtain ⟨t,rfl⟩ := rx;rfl)
theorem OpR.or {f : Value -> Value -> Sem Value} {r r' : R2} (h : OpR X f r) (h' : OpR X f r') : OpR X f (fun x y H Q => r x y H Q \/ r' x y H Q) := by
  intro pins s σ H x y v u Q I rx ry q
  rcases q with q | q
  · exact h pins s σ H x y v u Q I rx ry q
  · exact h' pins s σ H x y v u Q I rx ry q
theorem zI (b : Expr) {op : CmpOp} (h : op ≠ .In := by decide) (h2 : op ≠ .NotIn := by decide) : behindInMarks op b = false := by
  have e1 : (op == CmpOp.In) = false := by cases op <;> first | rfl | exact absurd rfl h
  have e2 : (op == CmpOp.NotIn) = false := by cases op <;> first | rfl | exact absurd rfl h2
  cases b <;> simp [behindInMarks,e1,e2]
theorem qh {op : CmpOp} {r : R2} (ho : OpR X (compareOp op) r) (ha : PE X a ta) (hb : PE X b tb) (hm : behindInMarks op b = false) : PE X (.Compare a [op] [b] pos) (tOp r ta tb) := by
  intro pins s σ H Q I h
  exact wpAny_Compare1 (W5 ha hb I h fun v u s2 x y H2 I2 rx ry q => ho pins s2 σ H2 x y v u Q I2 rx ry q) hm
def Ya (t : TE) : TT := fun σ H Q => t σ H fun x H' => IsB x H' Q
theorem zQ {op : CmpOp} {r : R2} (ho : OpR X (compareOp op) r) (ha : PE X a ta) (hb : PE X b tb) (hm : behindInMarks op b = false) : PT X (.Compare a [op] [b] pos) (Ya (tOp r ta tb)) := by
  intro pins s σ H Q I h
  refine wpAny_isTrue_Compare1 (thn (ha pins s σ H _ I h) fun v s1 ⟨x,H1,I1,r1,q1⟩ => thn (hb pins s1 σ H1 _ I1 q1) fun u s2 ⟨y,H2,I2,r2,q2⟩ =>
    thn (ho pins s2 σ H2 x y v u _ I2 r1 r2 q2) fun c s3 ⟨z,H3,I3,r3,k,e,q3⟩ => ?_) hm
  subst e
  cases r3
  exact wpAny_truthy_bool ⟨H3,I3,q3⟩
def Wn (r r' : R2) (ta tb tc : TE) : TE := fun σ H Q => ta σ H fun x H1 => tb σ H1 fun y H2 => r x y H2 fun z H3 => ∃ k,z = .bl k /\
  (if k = true then tc σ H3 fun w' H4 => r' y w' H4 Q else Q (.bl false) H3)
theorem yT {op op' : CmpOp} {r r' : R2} (ho : OpR X (compareOp op) r) (ho' : OpR X (compareOp op') r') (ha : PE X a ta) (hb : PE X b tb) (hc : PE X c tc)
    (hm : lastMarks [op,op'] [b,c] = false := by with_unfolding_all rfl) : PE X (.Compare a [op,op'] [b,c] pos) (Wn r r' ta tb tc) := by
  intro pins s σ H Q I h
  refine Compare_chain (thn (ha pins s σ H _ I h) fun v s1 ⟨x,H1,I1,r1,q1⟩ => chain_link (thn (hb pins s1 σ H1 _ I1 q1) fun u s2 ⟨y,H2,I2,r2,q2⟩ =>
    thn (ho pins s2 σ H2 x y v u _ I2 r1 r2 q2) fun d s3 ⟨z,H3,I3,r3,k,e,q3⟩ => ?_)) hm
  subst e
  cases r3
  refine wpAny_truthy_bool ?_
  cases k with
  | false => exact ite_ff ⟨.bl false,H3,I3,rfl,q3⟩
  | true => exact ite_tt (chain_last (thn (hc pins s3 σ H3 _ I3 q3) fun w' s4 ⟨z',H4,I4,r4,q4⟩ => ho' pins s4 σ H4 y z' u w' Q I4 r2 r4 q4))
theorem vP : (sizeLine : Nat) < 2 ^ 63 := by rw [sizeLine_eq];decide
theorem ja {x : V} {us : List Value} (r : Vals [x] us) : ∃ u,us = [u] /\ RelV x u := by
  cases r with
  | cons r1 r2 => cases r2;exact ⟨_,rfl,r1⟩
theorem vo {x y : V} {us : List Value} (r : Vals [x,y] us) : ∃ u w',us = [u,w'] /\ RelV x u /\ RelV y w' := by
  cases r with
  | cons r1 r2 =>
    cases r2 with
    | cons r3 r4 => cases r4;exact ⟨_,_,rfl,r1,r3⟩
inductive we (xs : List V) (H : Hp) (Q : VK) : Prop
  | mk (i : _) (_ : xs = [.int i]) (_ : Q (.int (if i < 0 then -i else i)) H) : we xs H Q
theorem Zq : CallR X (.builtin "abs") (we) := by
  intro pins s σ H xs us Q I r h
  obtain ⟨i,rfl,q⟩ := h
  obtain ⟨u,rfl,t,rfl⟩ := ja r
  exact call_abs_int fun u tk => ⟨.int (if i < 0 then -i else i),H,I.tok _,⟨_,rfl⟩,q⟩
inductive x4 (xs : List V) (H : Hp) (Q : VK) : Prop
  | mk (i j : _) (_ : xs = [.int i,.int j]) (_ : Q (.int (if j > i then j else i)) H) : x4 xs H Q
theorem Jw (hc : X.calm = true) : CallR X (.builtin "max") (x4) := by
  intro pins s σ H xs us Q I r h
  obtain ⟨i,j,rfl,q⟩ := h
  obtain ⟨u,w',rfl,⟨t,rfl⟩,⟨t',rfl⟩⟩ := vo r
  refine max_two_ints (I.ok.hd hc) fun h' tk k => ⟨_,H,I.kept k,?_,q⟩
  by_cases hj : j > i
  · rw [if_pos hj,if_pos hj];exact ⟨_,rfl⟩
  · rw [if_neg hj,if_neg hj];exact ⟨_,rfl⟩
inductive xZ (xs : List V) (H : Hp) (Q : VK) : Prop
  | mk (i j : _) (_ : xs = [.int i,.int j]) (_ : Q (.int (if j < i then j else i)) H) : xZ xs H Q
theorem Jv (hc : X.calm = true) : CallR X (.builtin "min") (xZ) := by
  intro pins s σ H xs us Q I r h
  obtain ⟨i,j,rfl,q⟩ := h
  obtain ⟨u,w',rfl,⟨t,rfl⟩,⟨t',rfl⟩⟩ := vo r
  refine min_two_ints (I.ok.hd hc) fun h' tk k => ⟨_,H,I.kept k,?_,q⟩
  by_cases hj : j < i
  · rw [if_pos hj,if_pos hj];exact ⟨_,rfl⟩
  · rw [if_neg hj,if_neg hj];exact ⟨_,rfl⟩
theorem Jx : CallR X (.type "int") (fun xs H Q => (∃ i,xs = [.int i] /\ Q (.int i) H) \/ ∃ k,xs = [.bl k] /\ Q (.int (if k then 1 else 0)) H) := by
  intro pins s σ H xs us Q I r h
  rcases h with ⟨i,rfl,q⟩ | ⟨k,rfl,q⟩
  · obtain ⟨u,rfl,t,rfl⟩ := ja r
    exact call_int_int ⟨.int i,H,I,⟨_,rfl⟩,q⟩
  · obtain ⟨u,rfl,r1⟩ := ja r
    cases r1
    exact call_int_bool ⟨.int (if k then 1 else 0),H,I.tok _,⟨_,rfl⟩,q⟩
inductive jL (xs : List V) (H : Hp) (Q : VK) : Prop
  | mk (i : _) (_ : xs = [.int i]) (_ : i.natAbs.log2 < 1920) (_ : Q (.str (toString i)) H) : jL xs H Q
theorem yt : CallR X (.type "str") (jL) := by
  intro pins s σ H xs us Q I r h
  obtain ⟨i,rfl,hz,q⟩ := h
  obtain ⟨u,rfl,t,rfl⟩ := ja r
  exact PySem.P.str_of_int hz ⟨.str _,H,I.tok _,⟨_,rfl⟩,q⟩
inductive j5 (xs : List V) (H : Hp) (Q : VK) : Prop
  | mk (i j : _) (_ : xs = [.int i,.int j]) (_ : Y6 i j) (_ : ∀ p,H p = none -> Q (.ref p) (upd H p (.tup [.int (i / j),.int (i % j)]))) : j5 xs H Q
theorem Zp : CallR X (.builtin "divmod") (j5) := by
  intro pins s σ H xs us Q I r h
  obtain ⟨i,j,rfl,⟨h1,h2⟩,q⟩ := h
  obtain ⟨u,w',rfl,⟨t,rfl⟩,⟨t',rfl⟩⟩ := vo r
  refine divmod_int (by omega) ?_ (.inl (PyProof.noPylong_small (by omega)))
  rw [Int.fdiv_eq_ediv_of_nonneg i (by omega),Int.fmod_eq_emod_of_nonneg i (by omega)]
  have hn : H s.heap.objs.size = none := I.hok.fresh (Nat.le_refl _)
  refine ⟨.ref s.heap.objs.size,_,?_,rfl,q _ hn⟩
  refine I.laid (fun b o e => Heap.get?_push_of_some _ e) (Nat.le_refl _) ⟨by simp only [List.length_cons,List.length_nil];rw [sizeLine_eq];decide,[.int (i / j) s.toks,.int (i % j) (s.toks + 1)],.cons ⟨_,rfl⟩ (.cons ⟨_,rfl⟩ .nil),?_⟩
  exact ⟨⟨_,Heap.get?_push_size s.heap rfl,rfl,0,rfl⟩,_,Heap.get?_push_size s.heap rfl,rfl⟩
end
end L2
namespace L2
open PySem PySem.Spec PyProof.Rows
structure ObjM (h : Heap) (x dx C : Addr) (mA : Str -> Option Value) : Prop where
  obj : h.get? x = some (PySem.W.instObj C dx)
  ns : h.Ns1 dx mA
  ne : dx ≠ x
theorem Jk {h : Heap} {dx : Addr} {mA : Str -> Option Value} (n : h.Ns1 dx mA) : ∃ od,h.get? dx = some od /\ ∀ name,PySem.W.lookIn name od = some (mA name) := by
  obtain ⟨o,es,ep,ho,hd,hk,_,hm⟩ := n
  refine ⟨o,ho,fun name => ?_⟩
  have e := hm name
  unfold nsFind findBy at e
  rw [<- Array.find?_toList] at e
  unfold PySem.W.lookIn
  rw [hd]
  dsimp only
  split
  · rename_i y q
    rw [q] at e
    exact congrArg some e
  · rename_i q
    rw [q] at e
    have a : es.toList.any (·.refKey) = false := by
      rw [List.any_eq_false]
      intro y hy
      obtain ⟨z,t,hkey⟩ := hk y (Array.mem_toList_iff.mp hy)
      simp [DictEntry.refKey,hkey]
    have a' : ¬ es.toList.any (·.refKey) = true := by rw [a];exact Bool.false_ne_true
    rw [if_neg a']
    exact congrArg some e
theorem ObjM.look {h : Heap} {x dx C : Addr} {mA : Str -> Option Value} (I : ObjM h x dx C mA) : ∃ od,PySem.W.InstAt h x (PySem.W.instObj C dx) C (some od) /\ ∀ name,PySem.W.lookIn name od = some (mA name) :=
  let ⟨od,ho,hl⟩ := Jk I.ns
  ⟨od,⟨I.obj,rfl,rfl,ho⟩,hl⟩
section
variable {prog : Program} {w : World} {A : Around} {E : Value -> Shared -> Prop} {s : Shared} {K : PySem.W.Frag} {x dx C f : Addr} {mA : Str -> Option Value} {name : Str} {v : Value}
end
theorem RelO.none_of {o : Option Value} (r : RelO none o) : o = none := by
  cases o with
  | none => rfl
  | some u => exact (show False from r).elim
section
variable {P : Program} {w : World} {H H' : Hp} {h h' : Heap} {a C dx : Addr} {fs fs' : List (Str × V)}
end
structure Cls (K : PySem.W.Frag) (C : Addr) : Prop where
  pg : PySem.W.plainGet K C Str.empty = true
  hd : PySem.W.hasDictIn K C = true
  po : PySem.W.plainOver K C = true
  sa : PySem.W.findIn K (.ref C) "__setattr__" = some (some (.builtin "object.__setattr__"))
theorem Cls.get {K : PySem.W.Frag} {C : Addr} (c : Cls K C) (f : Str) : PySem.W.plainGet K C f = true := c.pg
structure Con (K : PySem.W.Frag) (C : Addr) (f : Str) (v : V) (u : Value) : Prop where
  at_ : PySem.W.findIn K (.ref C) f = some (some u)
  rel : RelV v u
  get : PySem.W.specialIn K u "__get__" = some none
  cp : PySem.W.copiedNames.contains f = false
structure Meth (K : PySem.W.Frag) (C : Addr) (m : Str) (f : Addr) : Prop where
  at_ : PySem.W.findIn K (.ref C) m = some (some (.ref f))
  fn : PySem.W.isFn K (.ref f) = true
  kp : PySem.W.keepIn K (.ref f) = true
section
variable {X : Cx} {pins : List (Addr × Obj)} {σ : St} {H : Hp} {s : Shared} {a C dx : Addr} {fs : List (Str × V)} {f : Str} {v : V} {A : Around} {E : Value -> Shared -> Prop}
theorem Inv.made (I : Inv X pins σ H s) : Inv X pins σ (upd (upd H s.heap.objs.size (.own (s.heap.objs.size + 1))) (s.heap.objs.size + 1) (.ins C s.heap.objs.size []))
    { s with heap := (s.heap.push PySem.W.emptyDict).push (PySem.W.instObj C s.heap.objs.size) } := by
  have e1 : (s.heap.push PySem.W.emptyDict).get? s.heap.objs.size = some PySem.W.emptyDict := Heap.get?_push_size s.heap rfl
  have e2 : ((s.heap.push PySem.W.emptyDict).push (PySem.W.instObj C s.heap.objs.size)).get? (s.heap.objs.size + 1) = some (PySem.W.instObj C s.heap.objs.size) := by
    have := Heap.get?_push_size (s.heap.push PySem.W.emptyDict) (o := PySem.W.instObj C s.heap.objs.size) rfl
    rwa [Heap.size_push] at this
  have e3 : (s.heap.push PySem.W.emptyDict).Ns s.heap.objs.size (fun _ => none) := ⟨PySem.W.emptyDict,#[],_,e1,rfl,(fun e he => absurd he (by simp)),fun _ => rfl⟩
  have I1 := I.laid (a := s.heap.objs.size) (o := .own (s.heap.objs.size + 1)) (h' := s.heap.push PySem.W.emptyDict) (t' := s.toks) (fun b u q => Heap.get?_push_of_some _ q) (Nat.le_refl _) ⟨_,e1⟩
  refine I1.laid (a := s.heap.objs.size + 1) (o := .ins C s.heap.objs.size []) (t' := s.toks) (fun b u q => Heap.get?_push_of_some _ q) (Nat.le_of_eq (Heap.size_push _ _)) ?_
  have ne : s.heap.objs.size ≠ s.heap.objs.size + 1 := Nat.ne_of_lt (Nat.lt_succ_self _)
  refine ⟨by rw [zw ne,zi],Nat.zero_le _,ne,e2,fun _ => none,(Heap.Ns1.of_empty e3).at fun o q => Heap.get?_push_of_some _ q,fun _ => True.intro,fun y hy => absurd rfl hy⟩
end
section
variable {X : Cx} {o e value : Expr} {f : Str} {pos pos' tpos : Pos} {ta tv : TE}
end
section
variable {X : Cx} {pins : List (Addr × Obj)} {σ : St} {H : Hp} {s : Shared} {A : Around} {E : Value -> Shared -> Prop} {Q : Value -> Shared -> Prop} {c : Value} {b : Bool}
inductive v0 (K : PySem.W.Frag) (H : Hp) : V -> Value -> Prop where
  | non : v0 K H .non (.type "NoneType")
  | bl (x : Bool) : v0 K H (.bl x) (.type "bool")
  | int (i : Int) : v0 K H (.int i) (.type "int")
  | str (x : Str) : v0 K H (.str x) (.type "str")
  | flt (x : UInt64) : v0 K H (.flt x) (.type "float")
  | lst {a : Addr} {xs : List V} (e : H a = some (.lst xs)) : v0 K H (.ref a) (.type "list")
  | frz {a : Addr} {o : Obj} {xs : List V} (e : H a = some (.frz o (.lst xs))) : v0 K H (.ref a) (.type "list")
  | tup {a : Addr} {xs : List V} (e : H a = some (.tup xs)) : v0 K H (.ref a) (.type "tuple")
  | dK {a : Addr} {kvs : List (Key × V)} (e : H a = some (.dK kvs)) : v0 K H (.ref a) (.type "dict")
  | dT {a : Addr} {kvs : List (List Key × V)} (e : H a = some (.dT kvs)) : v0 K H (.ref a) (.type "dict")
  | ins {a C dx : Addr} {fs : List (Str × V)} (e : H a = some (.ins C dx fs)) (cl : Cls K C) (ha : PySem.W.findIn K (.ref C) "__class__" = some (some (.builtin "object.__class__")))
      (hn : PySem.W.specialIn K (.builtin "object.__class__") "__get__" = some (some (.builtin "getset_descriptor.__get__"))) (htk : PySem.W.takesIn K (.builtin "object.__class__") = some true)
      (hm : PySem.W.mroIn K C (.type "object") = some true) : v0 K H (.ref a) (.ref C)
end
end L2
namespace L2
open PySem PySem.Spec PyProof.Rows
structure Room (k : Nat) (A : Around) : Prop where
  hd : A.handled = none
  dp : A.depth + 3 * k + 5 < recursionLimit
  un : A.units + 16 * k + 200 < cLine
  gd : A.guards = some []
theorem Room.mono {j k : Nat} {A : Around} (r : Room k A) (h : j <= k) : Room j A := ⟨r.hd,by have := r.dp;omega,by have := r.un;omega,r.gd⟩
theorem Room.deeper {k : Nat} {A : Around} (r : Room (k + 1) A) (env : Env) : Room k (A.deeper env) :=
  ⟨r.hd,by have := r.dp;show A.depth + 1 + 3 * k + 5 < _;omega,by have := r.un;show A.units + 3 + 16 * k + 200 < _;omega,r.gd⟩
theorem Room.in1 {k : Nat} {A : Around} (r : Room (k + 1) A) : Room k A.in1 :=
  ⟨r.hd,by have := r.dp;show A.depth + 3 * k + 5 < _;omega,by have := r.un;show A.units + 1 + 16 * k + 200 < _;omega,r.gd⟩
theorem Room.depth {k : Nat} {A : Around} (r : Room k A) : A.depth < recursionLimit := by have := r.dp;omega
theorem Room.units {k : Nat} {A : Around} (r : Room k A) : A.units + 64 < cLine := by have := r.un;omega
theorem Room.units0 {k : Nat} {A : Around} (r : Room k A) : A.units < cLine := by have := r.un;omega
def X8 : TA := fun _ H Q => Q [] H
def qf (ta : TE) (tr : TA) : TA := fun σ H Q => ta σ H fun x H1 => tr σ H1 fun xs H2 => Q (x :: xs) H2
section
variable {X : Cx} {e : Expr} {es : List Expr} {te : TE} {t : TA} {pos : Pos}
theorem zg : PA X [] X8 := fun _ _ _ _ H Q I h => Calls.spliced_nil ⟨[],H,I,.nil,h⟩
theorem ze (ha : PE X e te) (hr : PA X es t) (hs : starEach (e :: es) X.env = (false,eval e X.env) :: starEach es X.env := by rfl) : PA X (e :: es) (qf te t) := by
  intro pos pins s σ H Q I h
  rw [hs]
  show wpAny _ _ (spliced ((false,eval e X.env) :: backTo pos (starEach es X.env))) _ _ s
  refine Calls.spliced_cons (thn (ha pins s σ H _ I h) fun u s1 ⟨x,H1,I1,r1,q1⟩ => ?_)
  exact thn (hr pos pins s1 σ H1 _ I1 q1) fun us s2 ⟨xs,H2,I2,r2,q2⟩ => ⟨x :: xs,H2,I2,.cons r1 r2,q2⟩
def Y9 (t : TA) : TE := fun σ H Q => t σ H fun xs H1 => xs.length <= sizeLine /\ ∀ p,H1 p = none -> Q (.ref p) (upd H1 p (.tup xs))
def zae (t : TA) : TE := fun σ H Q => t σ H fun xs H1 => xs.length <= sizeLine /\ ∀ p,H1 p = none -> Q (.ref p) (upd H1 p (.lst xs))
theorem qp {x1} (h : PA X es t) : PE X (.Tuple es x1 pos) (Y9 t) := by
  intro pins s σ H Q I hq
  refine wpAny_Tuple_spliced (thn (h pos pins s σ H _ I hq) fun us s1 ⟨xs,H1,I1,r,z,q⟩ => ⟨by rw [<- r.length];exact z,?_⟩)
  have hf : H1 s1.heap.objs.size = none := I1.hok.fresh (Nat.le_refl _)
  refine ⟨.ref s1.heap.objs.size,upd H1 s1.heap.objs.size (.tup xs),I1.laid (t' := s1.toks) (fun b u e => Heap.get?_push_of_some _ e) (Nat.le_refl _) ?_,rfl,q _ hf⟩
  exact ⟨z,us,r,⟨_,Heap.get?_push_size _ rfl,rfl,_,rfl⟩,_,Heap.get?_push_size _ rfl,rfl⟩
theorem qF (h : PA X es t) : PE X (.List es pos) (zae t) := by
  intro pins s σ H Q I hq
  refine wpAny_List_spliced (thn (h pos pins s σ H _ I hq) fun us s1 ⟨xs,H1,I1,r,z,q⟩ => ⟨by rw [<- r.length];exact z,?_⟩)
  have hf : H1 s1.heap.objs.size = none := I1.hok.fresh (Nat.le_refl _)
  refine ⟨.ref s1.heap.objs.size,upd H1 s1.heap.objs.size (.lst xs),I1.laid (t' := s1.toks) (fun b u e => Heap.get?_push_of_some _ e) (Nat.le_refl _) ?_,rfl,q _ hf⟩
  exact ⟨z,us,0,r,Heap.get?_push_size _ rfl⟩
end
abbrev Sp := List V -> Hp -> VK -> XK -> Prop
abbrev CXT := List Env -> Hp -> Shared -> XK -> Value -> Shared -> Prop
structure Env0 (P : Program) (w : World) (K : PySem.W.Frag) (mg : Str -> Option Value) (base : Heap) (A : Around) (outer : List Env) (s : Shared) (H : Hp) : Prop where
  frames : A.frames = some outer
  mod : Mod K mg base
  bs : ∀ b o,base.get? b = some o -> s.heap.get? b = some o /\ H b = none
  bsz : base.objs.size <= s.heap.objs.size
  funs : s.heap.FunFrames base outer
  frf : ∀ b ∈ frs outer,H b = none
  hok : HOk P w H s.heap
  bare : AllBare s.gens
def CE (outer : List Env) (P : Program) (w : World) (H : Hp) (s : Shared) (Q : VK) (u : Value) (s' : Shared) : Prop :=
  ∃ v H',s'.os = s.os /\ AllBare s'.gens /\ Un (frs outer) [] H H' s.heap s'.heap /\ HOk P w H' s'.heap /\ RelV v u /\ Q v H'
def CR (CX : CXT) (outer : List Env) (P : Program) (w : World) (H : Hp) (s : Shared) (Q : VK) (E : XK) (r : Result) (s' : Shared) : Prop :=
  match r with
  | .ok (.ret u) => CE outer P w H s Q u s'
  | .ok _ => False
  | .error e => CX outer H s E e s'
structure FnOk (P : Program) (w : World) (K : PySem.W.Frag) (mg : Str -> Option Value) (base : Heap) (CX : CXT) (k : Nat) (f : Addr) (fd : FuncData) (ps : List Str) (sp : Sp) : Prop where
  len : ∀ vs H Q E,sp vs H Q E -> vs.length = ps.length
  run : ∀ (A : Around) (outer : List Env) (s : Shared) (H : Hp) (args : Args) (us : List Value) (vs : List V) (Q : VK) (E : XK),Room k A -> Env0 P w K mg base A outer s H -> BindsTo s fd args (ps.zip us) -> Vals vs us -> sp vs H Q E ->
    codeAny (model P w) A (.call (.ref f) args) (CR CX outer P w H s Q E) s
theorem FnOk.mono {P : Program} {w : World} {K : PySem.W.Frag} {mg : Str -> Option Value} {base : Heap} {CX : CXT} {j k : Nat} {f : Addr} {fd : FuncData} {ps : List Str} {sp : Sp} (F : FnOk P w K mg base CX j f fd ps sp) (h : j <= k) :
    FnOk P w K mg base CX k f fd ps sp := ⟨F.len,fun A outer s H args us vs Q E hr => F.run A outer s H args us vs Q E (hr.mono h)⟩
theorem FnOk.imp {P : Program} {w : World} {K : PySem.W.Frag} {mg : Str -> Option Value} {base : Heap} {CX : CXT} {k : Nat} {f : Addr} {fd : FuncData} {ps : List Str} {sp sp' : Sp} (F : FnOk P w K mg base CX k f fd ps sp)
    (h : ∀ vs H Q E,sp' vs H Q E -> sp vs H Q E) : FnOk P w K mg base CX k f fd ps sp' :=
  ⟨fun vs H Q E q => F.len vs H Q E (h _ _ _ _ q),fun A outer s H args us vs Q E hr he hb hv hs => F.run A outer s H args us vs Q E hr he hb hv (h _ _ _ _ hs)⟩
theorem Env0.in1 {P : Program} {w : World} {K : PySem.W.Frag} {mg : Str -> Option Value} {base : Heap} {A : Around} {outer : List Env} {s : Shared} {H : Hp} (e : Env0 P w K mg base A outer s H) :
    Env0 P w K mg base A.in1 outer s H := ⟨e.frames,e.mod,e.bs,e.bsz,e.funs,e.frf,e.hok,e.bare⟩
section
variable {X : Cx} {pins : List (Addr × Obj)} {σ : St} {H : Hp} {s s' : Shared}
theorem Inv.env0 (I : Inv X pins σ H s) : Env0 X.prog X.w X.K X.mg X.base X.A X.stack s H :=
  ⟨I.ok.frames,I.ok.mod,I.bs,Nat.le_trans I.ok.bsz I.sz,I.stack,I.stkFree,I.hok,I.bare⟩
theorem Inv.after {Q : VK} {u : Value} (I : Inv X pins σ H s) (h : CE X.stack X.prog X.w H s Q u s') : EP X pins σ Q u s' := by
  obtain ⟨v,H',os,bare,un,hok,r,q⟩ := h
  obtain ⟨hh,g,d,t,os'⟩ := s'
  obtain rfl : os' = s.os := os
  exact ⟨v,H',I.call (h' := hh) (g' := g) (d' := d) (t' := t) (ch := []) un hok bare (fun b z => absurd z (by simp)),r,q⟩
end
def VU (sp : Sp) (dvs : List V) (E : XK) (t : TA) : TE := fun σ H Q => t σ H fun vs H1 => sp (vs ++ dvs) H1 Q E
def Binds (K : PySem.W.Frag) (fd : FuncData) (ps : List Str) (ds : List Value) : Prop :=
  ∀ (s : Shared) (us : List Value),K.In s.heap -> (us ++ ds).length = ps.length -> BindsTo s fd ⟨us,[]⟩ (ps.zip (us ++ ds))
theorem Binds.all {K : PySem.W.Frag} {fd : FuncData} {ps : List Str} (h : ∀ us : List Value,us.length = ps.length -> bindArgs fd ⟨us,[]⟩ = pure (ps.zip us)) : Binds K fd ps [] := fun s us _ hl => by
  rw [List.append_nil] at hl ⊢
  exact .of_eq (h us hl)
def ZW (CX : CXT) (X : Cx) (E : XK) : Prop := ∀ (pins : List (Addr × Obj)) (σ : St) (H : Hp) (s : Shared) (e : Value) (s' : Shared),Inv X pins σ H s -> CX X.stack H s E e s' -> X.xe e s'
section
variable {X : Cx} {CX : CXT} {k : Nat} {f C : Addr} {fd : FuncData} {ps : List Str} {sp : Sp} {dvs : List V} {ds : List Value} {E : XK} {x m : Str} {p pos apos : Pos} {e o : Expr} {es : List Expr} {ta : TE} {t : TA}
theorem Wu {pins : List (Addr × Obj)} {σ : St} {H : Hp} {s : Shared} {Q : VK} {us : List Value} {vs : List V} (F : FnOk X.prog X.w X.K X.mg X.base CX k f fd ps sp) (hr : Room k X.A) (hb : Binds X.K fd ps ds) (hd : Vals dvs ds) (hx : ZW CX X E)
    (I : Inv X pins σ H s) (r : Vals vs us) (h : sp (vs ++ dvs) H Q E) : wpAny (model X.prog X.w) X.A (call (.ref f) us) (EP X pins σ Q) X.xe s := by
  have r2 : Vals (vs ++ dvs) (us ++ ds) := r.append hd
  have hl : (us ++ ds).length = ps.length := by rw [<- r2.length];exact F.len _ _ _ _ h
  refine wpAny_call (codeAny_mono (F.run X.A X.stack s H ⟨us,[]⟩ (us ++ ds) (vs ++ dvs) Q E hr I.env0 (hb s us I.kIn hl) r2 h) fun r s' hq => ?_)
  cases r with
  | error e => exact hx pins σ H s e s' I hq
  | ok fl =>
    cases fl with
    | ret u => exact I.after hq
    | next => exact False.elim hq
    | brk => exact False.elim hq
    | cont => exact False.elim hq
theorem Vn (F : FnOk X.prog X.w X.K X.mg X.base CX k f fd ps sp) (hr : Room k X.A) (hg : Gl X x) (hm : X.mg x = some (.ref f)) (hk : PySem.W.keepIn X.K (.ref f) = true) (hb : Binds X.K fd ps ds) (hd : Vals dvs ds) (hx : ZW CX X E)
    (ha : PA X (e :: es) t) (hdb : (x == ("__debug__" : Str)) = false := by decide) (he : starEach (e :: es) X.env = (false,eval e X.env) :: starEach es X.env := by rfl) (hpl : (backTo pos (starEach es X.env)).any (·.1) = false := by rfl) :
    PE X (.Call (.Name x p) (e :: es) [] pos) (VU sp dvs E t) := by
  intro pins s σ H Q I h
  refine wpAny_Call_Name_kw (VB I hg hm ?_ hdb)
  refine PySem.W.callWith_K (h₀ := X.base) I.ok.mod.kin hk (thn (ha pos pins s σ H _ I h) fun us s1 ⟨vs,H1,I1,r,q⟩ => ⟨I1.kIn,?_⟩) he hpl
  exact Wu F hr hb hd hx I1 r q
structure Mk (K : PySem.W.Frag) (C f : Addr) : Prop where
  makes : PySem.W.makesIn K C = true
  init : PySem.W.findIn K (.ref C) "__init__" = some (some (.ref f))
  fn : PySem.W.isFn K (.ref f) = true
  kp : PySem.W.keepIn K (.ref C) = true
end
section
variable {X : Cx} {CX : CXT} {k : Nat} {f C : Addr} {fd : FuncData} {ps ks : List Str} {sp : Sp} {E : XK} {x m : Str} {p pos apos kpos : Pos} {e o : Expr} {es : List Expr} {kws : List Keyword} {te ta : TE} {t tk : TA} {nm : Option Str}
structure KBinds (K : PySem.W.Frag) (fd : FuncData) (ps ks : List Str) (g : List Value -> List Value -> List Value) (gV : List V -> List V -> List V) : Prop where
  to : ∀ (s : Shared) (us ws : List Value),K.In s.heap -> (g us ws).length = ps.length -> BindsTo s fd ⟨us,ks.zip ws⟩ (ps.zip (g us ws))
  rel : ∀ {vs : List V} {us : List Value} {zs : List V} {ws : List Value},Vals vs us -> Vals zs ws -> Vals (gV vs zs) (g us ws)
variable {g : List Value -> List Value -> List Value} {gV : List V -> List V -> List V}
end
structure zH (N P : List Str) (sc : Scope) : Prop where
  kind : sc.kind = .function
  co : sc.isCoroutine = false
  gen : sc.isGenerator = false
  nd : N.Nodup
  pre : N.take P.length = P
  par : ∀ x ∈ P,sc.names.lookup x = some .local \/ sc.names.lookup x = some .cell
  nofree : ∀ y ∈ sc.names,y.2 ≠ .free
theorem wP {kindOf : Str -> Option NameKind} {x : Str} : ∀ {binds : List (Str × Value)} {m : Str -> Option Value},(∀ v,(x,v) ∉ binds) -> bindL kindOf binds m x = m x
  | [],_,_ => rfl
  | (n,v) :: r,m,h => by
    unfold bindL
    rw [wP fun w hw => h w (List.mem_cons_of_mem _ hw)]
    split
    · have : x ≠ n := by rintro rfl;exact h v List.mem_cons_self
      simp [this]
    · rfl
theorem wR {kindOf : Str -> Option NameKind} {x : Str} : ∀ {binds : List (Str × Value)} {m : Str -> Option Value},(∀ v,(x,v) ∉ binds) -> bindC kindOf binds m x = m x
  | [],_,_ => rfl
  | (n,v) :: r,m,h => by
    unfold bindC
    rw [wR fun w hw => h w (List.mem_cons_of_mem _ hw)]
    split
    · rfl
    · have : x ≠ n := by rintro rfl;exact h v List.mem_cons_self
      simp [this]
theorem wQ {kindOf : Str -> Option NameKind} {x : Str} {v : Value} : ∀ {P : List Str} {vs : List Value} {i : Nat} {m : Str -> Option Value},P.Nodup -> P[i]? = some x -> vs[i]? = some v -> kindOf x = some .local ->
    bindL kindOf (P.zip vs) m x = some v
  | [],_,_,_,_,h,_,_ => by simp at h
  | _ :: _,[],_,_,_,_,h,_ => by simp at h
  | p :: P,w :: vs,0,m,nd,h1,h2,hk => by
    simp at h1 h2;subst h1;subst h2
    show bindL kindOf ((p,w) :: P.zip vs) m p = _
    unfold bindL
    rw [wP fun v hv => (List.nodup_cons.mp nd).1 (List.of_mem_zip hv).1,if_pos hk]
    simp
  | p :: P,w :: vs,i + 1,m,nd,h1,h2,hk => by
    show bindL kindOf ((p,w) :: P.zip vs) m x = _
    unfold bindL
    exact wQ (i := i) (List.nodup_cons.mp nd).2 (by simpa using h1) (by simpa using h2) hk
theorem wS {kindOf : Str -> Option NameKind} {x : Str} {v : Value} : ∀ {P : List Str} {vs : List Value} {i : Nat} {m : Str -> Option Value},P.Nodup -> P[i]? = some x -> vs[i]? = some v -> kindOf x ≠ some .local ->
    bindC kindOf (P.zip vs) m x = some v
  | [],_,_,_,_,h,_,_ => by simp at h
  | _ :: _,[],_,_,_,_,h,_ => by simp at h
  | p :: P,w :: vs,0,m,nd,h1,h2,hk => by
    simp at h1 h2;subst h1;subst h2
    show bindC kindOf ((p,w) :: P.zip vs) m p = _
    unfold bindC
    rw [wR fun v hv => (List.nodup_cons.mp nd).1 (List.of_mem_zip hv).1,if_neg hk]
    simp
  | p :: P,w :: vs,i + 1,m,nd,h1,h2,hk => by
    show bindC kindOf ((p,w) :: P.zip vs) m x = _
    unfold bindC
    exact wS (i := i) (List.nodup_cons.mp nd).2 (by simpa using h1) (by simpa using h2) hk
def xM (N : List Str) (vs : List V) : St := vs.map some ++ List.replicate (N.length - vs.length) none
def Jr (CX : CXT) (P : Program) (w : World) (K : PySem.W.Frag) (mg : Str -> Option Value) (base : Heap) (N : List Str) (qual : Str) (scope : Scope) (f : Addr) (cd : Value) (A : Around) (outer : List Env) (s : Shared) (H : Hp) (E : XK) : Cx where
  prog := P
  w := w
  K := K
  mg := mg
  base := base
  A := A.deeper (envOfC qual scope s.heap.objs.size f cd)
  N := N
  s₀ := s
  H₀ := H
  env := envOfC qual scope s.heap.objs.size f cd
  outer := outer
  stack := envOfC qual scope s.heap.objs.size f cd :: outer
  ex := []
  calm := true
  fn := fun _ => true
  pn := []
  xe := fun e s' => wpAny (model P w) (A.deeper (envOfC qual scope s.heap.objs.size f cd)) (leaving (envOfC qual scope s.heap.objs.size f cd) e) (fun _ s'' => CX outer H s E e s'') (fun e' s'' => CX outer H s E e' s'') s'
theorem Zo {sc : Scope} {n : Nat} {x : Str} (h : sc.names.lookup x = some .cell) : ∃ c,(cellsFrom n sc.names []).lookup x = some c := by
  have q := PySem.W.cellsFrom_some sc.names n [] (.inl h)
  exact Option.isSome_iff_exists.mp q
theorem Jn {CX : CXT} {P : Program} {w : World} {K : PySem.W.Frag} {mg : Str -> Option Value} {base : Heap} {N ps : List Str} {qual : Str} {scope : Scope} {f : Addr} {cd : Value} {A : Around} {outer : List Env} {s s1 : Shared} {H : Hp} {E : XK} {us : List Value} {vs : List V}
    (S : zH N ps scope) (hd : A.handled = none) (e0 : Env0 P w K mg base A outer s H) (hl : vs.length = ps.length) (r : Vals vs us)
    (x : InCallC s s.heap.objs.size (bindL (envOfC qual scope s.heap.objs.size f cd).kindOf (ps.zip us) fun _ => none) (cellsFrom (s.heap.objs.size + 1) scope.names []) (bindC (envOfC qual scope s.heap.objs.size f cd).kindOf (ps.zip us) fun _ => none) s1) :
    Inv (Jr CX P w K mg base N qual scope f cd A outer s H E) [] (xM N vs) H s1 := by
  have hpl : ps.length <= N.length := by have := congrArg List.length S.pre;rw [List.length_take] at this;omega
  obtain ⟨h1,tk,rfl,hk⟩ := x.done
  have noA : ∀ b : Addr,b ∉ (Jr CX P w K mg base N qual scope f cd A outer s H E).ex := fun b z => absurd (show b ∈ ([] : List Addr) from z) (by simp)
  refine ⟨⟨e0.mod,S.kind,rfl,rfl,Nat.le_refl _,fun y z c h1 h2 => ?_,fun y hy => ?_,fun y c _ h => ?_,fun _ => hd,Around.frames_deeper e0.frames,.inr ⟨rfl,rfl⟩,fun b z => absurd z (noA b),e0.bs,e0.bsz,fun b _ _ => noA b,fun b z => absurd z (noA b),e0.funs,e0.frf⟩,
    rfl,e0.bare,Un.kept hk,⟨_,x.toInCall.ns,fun i y v h1 h2 h3 => ?_⟩,fun y c h => ⟨_,x.cell y c h⟩,e0.hok.fresh (Nat.le_refl _),fun y c h => ?_,fun p hp => absurd (show p ∈ ([] : List (Addr × Obj)) from hp) (by simp),e0.hok.kept hk,?_⟩
  · exact name_of_addr x.apart (PySem.mem_of_lookup h1) (PySem.mem_of_lookup h2)
  · have hy : scope.names.lookup y = some .cell \/ scope.names.lookup y = some .free := hy
    rcases hy with hy | hy
    · exact Zo hy
    · exact absurd rfl (S.nofree _ (PySem.mem_of_lookup hy))
  · exact Nat.le_of_lt (x.above y c (PySem.mem_of_lookup h))
  · have hi : i < vs.length := by
      unfold xM at h2
      by_cases hi : i < vs.length
      · exact hi
      · rw [List.getElem?_append_right (by simpa using hi)] at h2
        rw [List.getElem?_replicate] at h2
        split at h2 <;> cases h2
    have ha : vs[i]? = some v := by
      unfold xM at h2
      rw [List.getElem?_append_left (by simpa using hi),List.getElem?_map] at h2
      cases e : vs[i]? with
      | none => rw [e] at h2;cases h2
      | some a => rw [e] at h2;cases h2;rfl
    obtain ⟨u,hu,rv⟩ := r.get ha
    have hp : ps[i]? = some y := by
      rw [<- S.pre,List.getElem?_take_of_lt (by omega)];exact h1
    have ndP : ps.Nodup := by rw [<- S.pre];exact S.nd.sublist (List.take_sublist _ _)
    refine ⟨u,rv,?_⟩
    rcases S.par y (List.mem_of_getElem? hp) with k | k
    · exact .inl ⟨k,wQ ndP hp hu k⟩
    · obtain ⟨c,e⟩ := Zo (n := s.heap.objs.size + 1) k
      refine .inr ⟨.inl k,c,e,?_⟩
      have q := x.cell y c e
      rw [wS ndP hp hu (by show scope.names.lookup y ≠ _;rw [k];decide)] at q
      exact q
  · exact e0.hok.fresh (Nat.le_of_lt (x.above y c (PySem.mem_of_lookup h)))
  · unfold xM
    show _ = N.length
    rw [List.length_append,List.length_map,List.length_replicate]
    omega
theorem YZ {CX : CXT} {P : Program} {w : World} {K : PySem.W.Frag} {mg : Str -> Option Value} {base : Heap} {k : Nat} {f : Addr} {name qual : Str} {params : Arguments} {body : List Stmt} {scope : Scope} {dV kV doc pm cdv ct oc : Value} {an od : Option Addr}
    {osl : Array (Option Value)} {N ps : List Str} {sp : Sp} (lk : K.lookup f = some ⟨oc,od,.func (PySem.W.fnOf name qual params body scope dV kV doc pm an cdv ct),osl⟩) (hcd : PySem.W.codeIn K cdv qual = true) (S : zH N ps scope)
    (len : ∀ vs H Q E,sp vs H Q E -> vs.length = ps.length)
    (hbody : ∀ (A : Around) (outer : List Env) (s : Shared) (H : Hp) (vs : List V) (Q : VK) (E : XK),Room k (A.deeper (envOfC qual scope s.heap.objs.size f cdv)) -> sp vs H Q E ->
      ∃ t,PSs (Jr CX P w K mg base N qual scope f cdv A outer s H E) body t /\ t { nx := fun _ H' => Q .non H',rt := Q } (xM N vs) H) :
    FnOk P w K mg base CX (k + 1) f (PySem.W.fnOf name qual params body scope dV kV doc pm an cdv ct) ps sp := by
  refine ⟨len,fun A outer s H args us vs Q E hr e0 hb r hsp => ?_⟩
  have hl := len _ _ _ _ hsp
  have KX : K.In s.heap := e0.mod.kin.keeps fun b o e => (e0.bs b o e).1
  have lim : s.heap.NoLimit := e0.mod.nolimit.keeps fun b o e => (e0.bs b o e).1
  have hkind : ∀ y ∈ ps.zip us,scope.names.lookup y.1 = some .local \/ (scope.names.lookup y.1 = some .cell /\ ((cellsFrom (s.heap.objs.size + 1) scope.names []).lookup y.1).isSome = true) := fun ⟨n,v⟩ hy => by
    rcases S.par n (List.of_mem_zip hy).1 with q | q
    · exact .inl q
    · exact .inr ⟨q,PySem.W.cellsFrom_some _ _ _ (.inl q)⟩
  refine codeAny_call_function hr.depth (KX _ _ lk) rfl S.co S.gen rfl (PySem.W.codeRec_of KX hcd) (hb _ _ _ _ ?_)
  refine wpAny_newFunctionEnv_cells S.kind hkind fun env he s1 x => ?_
  subst he
  refine ⟨lim.keeps x.toInCall.keep,codeAny_func ?_⟩
  obtain ⟨t,ht,hq⟩ := hbody A outer s H vs Q E (hr.deeper _) hsp
  have I : Inv (Jr CX P w K mg base N qual scope f cdv A outer s H E) [] (xM N vs) H s1 := Jn S hr.hd e0 hl r x
  refine wpAny_mono (ht [] s1 (xM N vs) H _ I hq) (fun fl s' hs => ?_) fun e s' hs => hs
  have fin : ∀ {σ' : St} {H' : Hp} {v : V} {u : Value},Inv (Jr CX P w K mg base N qual scope f cdv A outer s H E) [] σ' H' s' -> RelV v u -> Q v H' -> CE outer P w H s Q u s' :=
    fun {σ' H' v u} J rv q => ⟨v,H',J.os,J.bare,J.base,J.hok,rv,q⟩
  cases fl with
  | ret u =>
    obtain ⟨v,σ',H',J,rv,q⟩ := hs
    exact fin J rv q
  | next =>
    obtain ⟨σ',H',J,q⟩ := hs
    exact fin (v := V.non) (u := Value.none) J rfl q
  | brk =>
    obtain ⟨_,_,_,q⟩ := hs
    exact False.elim q
  | cont =>
    obtain ⟨_,_,_,q⟩ := hs
    exact False.elim q
end L2
namespace L2
open PySem PySem.Spec PyProof.Rows
section
variable {X : Cx} {x : Str} {p pos : Pos} {e : Expr} {es : List Expr} {t : TA} {id T : String} {r : List V -> Hp -> VK -> Prop}
def tCB (r : List V -> Hp -> VK -> Prop) (t : TA) : TE := fun σ H Q => t σ H fun vs H1 => r vs H1 Q
theorem zk (hc : CallR X (.builtin id) r) (hg : Gl X x) (hm : X.mg x = none) (hv : bootBuiltins x = some (.builtin id)) (ha : PA X (e :: es) t) (hn : x ≠ "__name__" := by decide) (hdb : (x == ("__debug__" : Str)) = false := by decide)
    (he : starEach (e :: es) X.env = (false,eval e X.env) :: starEach es X.env := by rfl) (hpl : (backTo pos (starEach es X.env)).any (·.1) = false := by rfl) : PE X (.Call (.Name x p) (e :: es) [] pos) (tCB r t) := by
  intro pins s σ H Q I h
  refine wpAny_Call_Name_kw (jH I hg hm hv ?_ hn hdb)
  exact PyProof.Rows.callWith_builtin1 (thn (ha pos pins s σ H _ I h) fun us s1 ⟨vs,H1,I1,r1,q1⟩ => hc pins s1 σ H1 vs us Q I1 r1 q1) he hpl
theorem zW (hc : CallR X (.type T) r) (hg : Gl X x) (hm : X.mg x = none) (hv : bootBuiltins x = some (.type T)) (ha : PA X (e :: es) t) (hn : x ≠ "__name__" := by decide) (hdb : (x == ("__debug__" : Str)) = false := by decide)
    (he : starEach (e :: es) X.env = (false,eval e X.env) :: starEach es X.env := by rfl) (hpl : (backTo pos (starEach es X.env)).any (·.1) = false := by rfl) : PE X (.Call (.Name x p) (e :: es) [] pos) (tCB r t) := by
  intro pins s σ H Q I h
  refine wpAny_Call_Name_kw (jH I hg hm hv ?_ hn hdb)
  exact PyProof.Rows.callWith_type1 (thn (ha pos pins s σ H _ I h) fun us s1 ⟨vs,H1,I1,r1,q1⟩ => hc pins s1 σ H1 vs us Q I1 r1 q1) he hpl
end
end L2
namespace HT
open PySem PyProof.Rows
section
open PySem.SeqAt
open PySem.AutoSeq1 (wpAny_loadPart')
open PySem.MeetsSeq PySem.MeetsSeq2 PySem.MeetsSeq3
end
section
variable {prog : Program} {w : World} {A : Around} {E : Value -> Shared -> Prop} {s : Shared}
theorem cat_tup {t b : Addr} {vs ws : List Value} {Q : Value -> Shared -> Prop} (ht : IsTup s.heap t vs.toArray) (hb : IsTup s.heap b ws.toArray) (hv : vs ≠ [])
    (h1 : ws = [] -> Q (.ref t) s) (h2 : ws ≠ [] -> Q (.ref s.heap.objs.size) { s with heap := s.heap.push { cls := .type "tuple",data := .seq (vs ++ ws).toArray } })
    (hsz : vs.length + ws.length <= sizeLine) : wpAny (model prog w) A (binaryOp .Add (.ref t) (.ref b)) Q E s := by
  obtain ⟨⟨cls,dd,data,sl⟩,ho,hc,n,hd⟩ := id ht
  obtain ⟨⟨cls2,dd2,data2,sl2⟩,ho2,hc2,n2,hd2⟩ := id hb
  simp only at hc hd hc2 hd2
  subst hc hd hc2 hd2
  have e : vs.toArray ++ ws.toArray = (vs ++ ws).toArray := by simp
  by_cases hw : ws = []
  · exact concat_meets ⟨_,ho,rfl⟩ ⟨_,ho2,rfl⟩ noFill_tuple_add seq_tuple_add PySem.F.slot_tuple_add PySem.F.entry_tuple_add (PySem.F.args_tuple_add_2 _ _)
      (tuple_addW1 t b vs.toArray ws.toArray n n2 dd dd2 sl sl2 (by simpa using hv) (by simp [hw])) ⟨ho,ho2,h1 hw⟩
  · refine concat_meets ⟨_,ho,rfl⟩ ⟨_,ho2,rfl⟩ noFill_tuple_add seq_tuple_add PySem.F.slot_tuple_add PySem.F.entry_tuple_add (PySem.F.args_tuple_add_2 _ _)
      (tuple_addW2 t b vs.toArray ws.toArray n n2 dd dd2 sl sl2 (by simpa using hv) (by simpa using hw) (by rw [List.size_toArray,List.size_toArray];exact hsz)) ⟨ho,ho2,?_⟩
    rw [e]
    exact h2 hw
def sIx (n d : Nat) : Option Int -> Nat
  | none => d
  | some v => if v < 0 then (v + (n : Int)).toNat else min v.toNat n
theorem sIx_none (n d : Nat) : sIx n d none = d := rfl
theorem sIx_nat (n d k : Nat) : sIx n d (some (k : Int)) = min k n := by
  show (if (k : Int) < 0 then ((k : Int) + (n : Int)).toNat else min (k : Int).toNat n) = min k n
  rw [if_neg (by omega),Int.toNat_natCast]
end
end HT
namespace L2
open PySem PySem.Spec PyProof.Rows
abbrev TO := St -> Hp -> (Option Int -> Hp -> Prop) -> Prop
def PO (X : Cx) (e : Option Expr) (t : TO) : Prop :=
  ∀ (pins : List (Addr × Obj)) (s : Shared) (σ : St) (H : Hp) (Q : Option Int -> Hp -> Prop),Inv X pins σ H s -> t σ H Q ->
    wpAny (model X.prog X.w) X.A (evalPart e X.env) (fun u s' => ∃ o H',Inv X pins σ H' s' /\ IsPart u o /\ Q o H') X.xe s
def X7 : TO := fun _ H Q => Q none H
def Yb (t : TE) : TO := fun σ H Q => t σ H fun x H1 => IsI x H1 fun i H1 => Q (some i) H1
section
variable {X : Cx} {e : Expr} {te : TE} {lo hi : Option Expr} {tl th : TO} {pos p2 : Pos}
theorem jb : PO X none X7 := by
  intro pins s σ H Q I h
  rw [evalPart_none]
  exact wpAny_pure ⟨none,H,I,.none,h⟩
theorem qo (h : PE X e te) : PO X (some e) (Yb te) := by
  intro pins s σ H Q I hw
  rw [evalPart_some]
  refine thn (h pins s σ H _ I hw) fun u s1 ⟨x,H1,I1,r1,q1⟩ => ?_
  obtain ⟨i,rfl,q⟩ := q1
  obtain ⟨t,rfl⟩ := r1
  exact ⟨some i,H1,I1,.int i t,q⟩
def SlR (X : Cx) (r : V -> Option Int -> Option Int -> Hp -> VK -> Prop) : Prop :=
  ∀ (pins : List (Addr × Obj)) (s : Shared) (σ : St) (H : Hp) (x : V) (v vl vu : Value) (lo hi : Option Int) (sl : Addr) (Q : VK),Inv X pins σ H s -> RelV x v -> s.heap.IsSliceOf sl vl vu .none -> IsPart vl lo -> IsPart vu hi -> r x lo hi H Q ->
    ∃ T id,typeLookup (.type T) "__getitem__" = pure (some (.builtin id)) /\ s.TypeIs v T /\ wpAny (model X.prog X.w) X.A (getItem v (.ref sl)) (EP X pins σ Q) X.xe s
theorem SlR.or {r r' : V -> Option Int -> Option Int -> Hp -> VK -> Prop} (h : SlR X r) (h' : SlR X r') : SlR X (fun x lo hi H Q => r x lo hi H Q \/ r' x lo hi H Q) := by
  intro pins s σ H x v vl vu lo hi sl Q I rx hs pl pu q
  rcases q with q | q
  · exact h pins s σ H x v vl vu lo hi sl Q I rx hs pl pu q
  · exact h' pins s σ H x v vl vu lo hi sl Q I rx hs pl pu q
def tSl (r : V -> Option Int -> Option Int -> Hp -> VK -> Prop) (te : TE) (tl th : TO) : TE := fun σ H Q => te σ H fun x H1 => tl σ H1 fun l H2 => th σ H2 fun u H3 => r x l u H3 Q
theorem qA {r : V -> Option Int -> Option Int -> Hp -> VK -> Prop} (hr : SlR X r) (he : PE X e te) (hl : PO X lo tl) (hu : PO X hi th) : PE X (.Subscript e (.Slice lo hi none p2) pos) (tSl r te tl th) := by
  intro pins s σ H Q I h
  refine Subscript_ (thn (he pins s σ H _ I h) fun v s1 ⟨x,H1,I1,r1,q1⟩ => ?_)
  refine wpAny_Slice (thn (hl pins s1 σ H1 _ I1 q1) fun vl s2 ⟨l,H2,I2,pl,q2⟩ => thn (hu pins s2 σ H2 _ I2 q2) fun vu s3 ⟨u,H3,I3,pu,q3⟩ => ?_)
  rw [evalPart_none]
  refine wpAny_pure ?_
  have I4 : Inv X pins σ H3 { s3 with heap := s3.heap.push { cls := .type "slice",data := .fields #[vl,vu,.none] } } := I3.kept (t' := s3.toks) fun b ob q => Heap.get?_push_of_some _ q
  obtain ⟨T,id,hT,ht,hg⟩ := hr pins { s3 with heap := s3.heap.push { cls := .type "slice",data := .fields #[vl,vu,.none] } } σ H3 x v vl vu l u s3.heap.objs.size Q I4 r1 (Heap.IsSliceOf.new ..) pl pu q3
  show wpAny (model X.prog X.w) X.A (subscriptTail e (.Slice lo hi none p2) v (.ref s3.heap.objs.size)) (EP X pins σ Q) X.xe { s3 with heap := s3.heap.push { cls := .type "slice",data := .fields #[vl,vu,.none] } }
  exact tail_any (ops := [.ref s3.heap.objs.size,v]) ht hT hg (by with_unfolding_all rfl)
def qx (xs : List V) (lo hi : Option Int) : List V := (xs.drop (HT.sIx xs.length 0 lo)).take (HT.sIx xs.length xs.length hi - HT.sIx xs.length 0 lo)
theorem Zm (xs : List V) (lo hi : Option Int) : (qx xs lo hi).length <= xs.length := by
  unfold qx
  rw [List.length_take,List.length_drop]
  omega
inductive V8 (K : PySem.W.Frag) (x : V) (y : V) (H : Hp) (Q : VK) : Prop
  | mk (a b xs ys : _) (_ : x = .ref a) (_ : y = .ref b) (_ : SqT K H a xs) (_ : SqT K H b ys) (_ : xs ≠ []) (_ : xs.length + ys.length <= sizeLine) (_ : (ys = [] -> Q (.ref a) H)) (_ : (ys ≠ [] -> ∀ p,H p = none -> Q (.ref p) (upd H p (.tup (xs ++ ys))))) : V8 K x y H Q
theorem Vals.nil_iff {xs : List V} {us : List Value} (r : Vals xs us) : us = [] ↔ xs = [] := by
  cases r with
  | nil => simp
  | cons _ _ => simp
theorem Vp : OpR X (binaryOp .Add) (V8 X.K) := by
  intro pins s σ H x y v u Q I rx ry h
  obtain ⟨a,b,xs,ys,rfl,rfl,ha,hb,hx,hz,q1,q2⟩ := h
  cases rx
  cases ry
  obtain ⟨its,r1,p1,_⟩ := I.tuple ha
  obtain ⟨its2,r2,p2,_⟩ := I.tuple hb
  refine HT.cat_tup p1 p2 (fun z => hx (r1.nil_iff.mp z)) (fun z => ⟨.ref a,H,I,rfl,q1 (r2.nil_iff.mp z)⟩) (fun z => ?_) (by rw [<- r1.length,<- r2.length];exact hz)
  refine ⟨.ref s.heap.objs.size,_,I.laid (t' := s.toks) (o := .tup (xs ++ ys)) (fun b ob q => Heap.get?_push_of_some _ q) (Nat.le_refl _) ?_,rfl,q2 (fun w => z (r2.nil_iff.mpr w)) _ (I.hok.fresh (Nat.le_refl _))⟩
  exact ⟨by rw [List.length_append];exact hz,_,r1.append r2,⟨IsTup.new _ _,_,Heap.get?_push_size _ rfl,rfl⟩⟩
end
end L2
namespace L2
open PySem PySem.Spec PyProof.Rows
def ixN (n : Nat) (i : Int) : Option Nat := if 0 <= i then (if i < n then some i.toNat else none) else if -(n : Int) <= i then some (i + n).toNat else none
def atI {α : Type} (xs : List α) (i : Int) : Option α := (ixN xs.length i).bind fun j => xs[j]?
theorem Qw {n : Nat} {i : Int} {j : Nat} (h : ixN n i = some j) : seqIndex? i n = some j /\ j < n /\ -(n : Int) <= i /\ i < n := by
  unfold ixN at h
  by_cases h0 : 0 <= i
  · rw [if_pos h0] at h
    by_cases h1 : i < n
    · rw [if_pos h1] at h
      have e : i.toNat = j := Option.some.inj h
      exact ⟨by rw [seqIndex_of h0 h1,e],by omega,by omega,h1⟩
    · rw [if_neg h1] at h;cases h
  · rw [if_neg h0] at h
    by_cases h1 : -(n : Int) <= i
    · rw [if_pos h1] at h
      have e : (i + n).toNat = j := Option.some.inj h
      exact ⟨by rw [seqIndex_neg (by omega) h1,e],by omega,h1,by omega⟩
    · rw [if_neg h1] at h;cases h
theorem yw {α : Type} {xs : List α} {i : Int} {v : α} (h : atI xs i = some v) : ∃ j,seqIndex? i xs.length = some j /\ xs[j]? = some v /\ j < xs.length /\ -(xs.length : Int) <= i /\ i < xs.length := by
  unfold atI at h
  cases e : ixN xs.length i with
  | none => rw [e] at h;cases h
  | some j =>
    rw [e] at h
    obtain ⟨h1,h2,h3,h4⟩ := Qw e
    exact ⟨j,h1,h,h2,h3,h4⟩
theorem zR {α : Type} {xs : List α} {j : Nat} {v : α} (h : xs[j]? = some v) : atI xs (j : Int) = some v := by
  have hj : j < xs.length := (List.getElem?_eq_some_iff.mp h).1
  have e : ixN xs.length (j : Int) = some j := by
    unfold ixN
    rw [if_pos (by omega),if_pos (by omega)];simp
  unfold atI;rw [e];exact h
def VS (b : Expr) : Prop := ∀ o i,subscripted b false o i = operate [o,i] (getItem o i)
def IxR (X : Cx) (r : R2) : Prop :=
  ∀ (value slice : Expr) (pins : List (Addr × Obj)) (s : Shared) (σ : St) (H : Hp) (x y : V) (v u : Value) (Q : VK),Inv X pins σ H s -> RelV x v -> RelV y u -> r x y H Q ->
    subscripted slice false v u = operate [v,u] (getItem v u) -> wpAny (model X.prog X.w) X.A (subscriptTail value slice v u) (EP X pins σ Q) X.xe s
def MtR (X : Cx) (id : String) (r : V -> List V -> Hp -> VK -> Prop) : Prop :=
  ∀ (pins : List (Addr × Obj)) (s : Shared) (σ : St) (H : Hp) (x : V) (xs : List V) (v : Value) (us : List Value) (Q : VK),Inv X pins σ H s -> RelV x v -> Vals xs us -> r x xs H Q ->
    wpAny (model X.prog X.w) X.A (call (.builtin id) (v :: us)) (EP X pins σ Q) X.xe s
section
variable {X : Cx} {a b : Expr} {ta tb : TE} {pos : Pos}
theorem IxR.or {r r' : R2} (h : IxR X r) (h' : IxR X r') : IxR X (fun x y H Q => r x y H Q \/ r' x y H Q) := by
  intro value slice pins s σ H x y v u Q I rx ry q hs
  rcases q with q | q
  · exact h value slice pins s σ H x y v u Q I rx ry q hs
  · exact h' value slice pins s σ H x y v u Q I rx ry q hs
theorem MtR.or {id : String} {r r' : V -> List V -> Hp -> VK -> Prop} (h : MtR X id r) (h' : MtR X id r') : MtR X id (fun x xs H Q => r x xs H Q \/ r' x xs H Q) := by
  intro pins s σ H x xs v us Q I rx rs q
  rcases q with q | q
  · exact h pins s σ H x xs v us Q I rx rs q
  · exact h' pins s σ H x xs v us Q I rx rs q
theorem zJ {r : R2} (hr : IxR X r) (ha : PE X a ta) (hb : PE X b tb) (hs : VS b) : PE X (.Subscript a b pos) (tOp r ta tb) := by
  intro pins s σ H Q I h
  exact Subscript_ (W5 ha hb I h fun v u s2 x y H2 I2 rx ry q => hr a b pins s2 σ H2 x y v u Q I2 rx ry q (hs _ _))
inductive Vh (K : PySem.W.Frag) (x : V) (y : V) (H : Hp) (Q : VK) : Prop
  | mk (p xs i v : _) (_ : x = .ref p) (_ : y = .int i) (_ : SqL K H p xs) (_ : atI xs i = some v) (_ : Q v H) : Vh K x y H Q
inductive Vg (K : PySem.W.Frag) (x : V) (y : V) (H : Hp) (Q : VK) : Prop
  | mk (p xs i v : _) (_ : x = .ref p) (_ : y = .int i) (_ : SqT K H p xs) (_ : atI xs i = some v) (_ : Q v H) : Vg K x y H Q
inductive Wv (x : V) (y : V) (H : Hp) (Q : VK) : Prop
  | mk (z i c : _) (_ : x = .str z) (_ : y = .int i) (_ : z.length <= sizeLine) (_ : atI z.cps.toList i = some c) (_ : Q (.str ⟨#[c]⟩) H) : Wv  x y H Q
theorem zG : IxR X (Vh X.K) := by
  intro value slice pins s σ H x y v u Q I rx ry h hs
  obtain ⟨p,xs,i,z,rfl,rfl,hq,he,q⟩ := h
  cases rx
  obtain ⟨t,rfl⟩ := ry
  obtain ⟨its,r,pl,hz⟩ := I.list hq
  obtain ⟨j,h1,h2,h3,h4,h5⟩ := yw he
  obtain ⟨w,ew,rw'⟩ := r.get h2
  have hl := r.length
  have hn := vP
  have fin : EP X pins σ Q w s := ⟨z,H,I,rw',q⟩
  by_cases h0 : 0 <= i
  · have hj : i.toNat = j := by
      rw [seqIndex_of h0 h5] at h1
      exact Option.some.inj h1
    exact item_listR pl.isList h0 (by omega) (by rw [hj];simpa using ew) fin hs
  · have hj : (i + (its.toArray.size : Int)).toNat = j := by
      rw [seqIndex_neg (by omega) h4] at h1
      rw [List.size_toArray,<- hl]
      exact Option.some.inj h1
    exact subscriptTail_builtinR (x := w) pl.isList.typeIs slot_list_getitem.lookup
      (wpAny_getItem_list_neg (Q := fun r s' => r = w /\ EP X pins σ Q r s') pl.isList (by omega) (by rw [List.size_toArray] <;> omega) (by omega) (by rw [hj];simpa using ew) ⟨rfl,fin⟩) hs
theorem qO : IxR X (Vg X.K) := by
  intro value slice pins s σ H x y v u Q I rx ry h hs
  obtain ⟨p,xs,i,z,rfl,rfl,hq,he,q⟩ := h
  cases rx
  obtain ⟨t,rfl⟩ := ry
  obtain ⟨its,r,pl,hz⟩ := I.tuple hq
  obtain ⟨j,h1,h2,h3,h4,h5⟩ := yw he
  obtain ⟨w,ew,rw'⟩ := r.get h2
  have hl := r.length
  have hn := vP
  have fin : EP X pins σ Q w s := ⟨z,H,I,rw',q⟩
  exact subscriptTail_builtinR (x := w) pl.typeIs slot_tuple_getitem.lookup
    (getItem_tuple (j := j) (Q := fun r s' => r = w /\ EP X pins σ Q r s') pl (by omega) (by omega) (by rw [List.size_toArray,<- hl];exact h1) (by simpa using ew) ⟨rfl,fin⟩) hs
theorem WW : IxR X Wv := by
  intro value slice pins s σ H x y v u Q I rx ry h hs
  obtain ⟨z,i,c,rfl,rfl,hz,he,q⟩ := h
  obtain ⟨t,rfl⟩ := rx
  obtain ⟨t',rfl⟩ := ry
  obtain ⟨j,h1,h2,h3,h4,h5⟩ := yw he
  have hl : z.cps.toList.length = z.length := by simp [Str.length]
  rw [hl] at h1 h4 h5
  have hn := vP
  exact tail_any (typeIs_str s z t) slot_str_getitem.lookup (getItem_str (c := c) (by
    have e1 : decide (i < -(2 ^ 63 : Int)) = false := decide_eq_false (by omega)
    have e2 : decide (i ≥ 2 ^ 63) = false := decide_eq_false (by omega)
    rw [e1,e2,Bool.or_false]) (by rw [h1];simpa using h2) ⟨.str ⟨#[c]⟩,H,I.tok _,⟨_,rfl⟩,q⟩) hs
def rIx (K : PySem.W.Frag) : R2 := fun x y H Q => Vh K x y H Q \/ Vg K x y H Q \/ Wv x y H Q
theorem WY : IxR X (rIx X.K) := zG.or (qO.or WW)
theorem ZP (its : List Value) (n j : Nat) (u : Value) : Obj.mapSeq (·.setIfInBounds j u) { cls := .type "list",data := .seq its.toArray n } = { cls := .type "list",data := .seq (its.set j u).toArray n } := by
  simp [Obj.mapSeq]
theorem Inv.lst {pins : List (Addr × Obj)} {σ : St} {H : Hp} {s : Shared} {p : Addr} {xs : List V} (I : Inv X pins σ H s) (h : H p = some (.lst xs)) :
    ∃ (its : List Value) (n : Nat),Vals xs its /\ s.heap.get? p = some { cls := .type "list",data := .seq its.toArray n } /\ xs.length <= sizeLine := by
  obtain ⟨z,its,n,r,e⟩ := I.hok p _ h
  exact ⟨its,n,r,e,z⟩
theorem Inv.lstUpd {pins : List (Addr × Obj)} {σ : St} {H : Hp} {s : Shared} {p : Addr} {xs ys : List V} {its its' : List Value} {n n' : Nat} {f : Obj -> Obj} (I : Inv X pins σ H s) (h : H p = some (.lst xs))
    (ho : s.heap.get? p = some { cls := .type "list",data := .seq its.toArray n }) (hf : f { cls := .type "list",data := .seq its.toArray n } = { cls := .type "list",data := .seq its'.toArray n' }) (r : Vals ys its') (hz : ys.length <= sizeLine) (t : Nat) :
    Inv X pins σ (upd H p (.lst ys)) { s with heap := s.heap.update p f,toks := t } := by
  have e : (s.heap.update p f).get? p = some { cls := .type "list",data := .seq its'.toArray n' } := by
    rw [Heap.get?_update_self f ho (by rw [hf] <;> rfl),hf]
  refine I.write (x := p) (e := p) (by rw [h];trivial) (.inl rfl) (fun b u hb q => (Heap.get?_update_other _ _ (Ne.symm hb)).trans q) ⟨_,e⟩ ?_
  exact ⟨hz,its',n',r,e⟩
inductive V7 (o : V) (i : V) (v : V) (H : Hp) (Q : Hp -> Prop) : Prop
  | mk (p xs k j : _) (_ : o = .ref p) (_ : i = .int k) (_ : H p = some (.lst xs)) (_ : ixN xs.length k = some j) (_ : Q (upd H p (.lst (xs.set j v)))) : V7  o i v H Q
theorem qI : Y3 X V7 := by
  intro pins s σ H o i v ov iv u Q I ro ri rv h
  obtain ⟨p,xs,k,j,rfl,rfl,hp,hj,q⟩ := h
  cases ro
  obtain ⟨t,rfl⟩ := ri
  obtain ⟨its,n,r,ho,hz⟩ := I.lst hp
  obtain ⟨h1,h2,h3,h4⟩ := Qw hj
  have hl := r.length
  have hn := vP
  have I' : Inv X pins σ (upd H p (.lst (xs.set j v))) { s with heap := s.heap.update p (Obj.mapSeq (·.setIfInBounds j u)) } :=
    I.lstUpd hp ho (ZP its n j u) (r.set rv j) (by rw [List.length_set];exact hz) s.toks
  by_cases h0 : 0 <= k
  · have hk : k.toNat = j := by
      rw [seqIndex_of h0 h4] at h1
      exact Option.some.inj h1
    exact PySem.W.ki_setAt ho h0 (by omega) (by rw [List.size_toArray,<- hl];exact h4) (by rw [hk];exact ⟨_,I',q⟩)
  · have hk : (k + (its.toArray.size : Int)).toNat = j := by
      rw [seqIndex_neg (by omega) h3] at h1
      rw [List.size_toArray,<- hl]
      exact Option.some.inj h1
    exact PySem.W.ki_setBack ho (by omega) (by rw [List.size_toArray,<- hl];exact h3) (by omega) (by rw [hk];exact ⟨_,I',q⟩)
theorem wX (lo hi : Option Int) (n : Nat) : (sliceBounds lo hi none n).1 = ((HT.sIx n 0 lo : Nat) : Int) /\ (sliceBounds lo hi none n).2.1 = ((HT.sIx n n hi : Nat) : Int) /\ (sliceBounds lo hi none n).2.2 = 1 := by
  refine ⟨?_,?_,rfl⟩
  · cases lo with
    | none => simp [sliceBounds,HT.sIx]
    | some i =>
      simp only [sliceBounds,HT.sIx,Option.getD_none,show (1 : Int) > 0 by decide,if_true]
      by_cases h : i < 0
      · simp only [h,if_true] <;> omega
      · simp only [h,if_false] <;> omega
  · cases hi with
    | none => simp [sliceBounds,HT.sIx]
    | some i =>
      simp only [sliceBounds,HT.sIx,Option.getD_none,show (1 : Int) > 0 by decide,if_true]
      by_cases h : i < 0
      · simp only [h,if_true] <;> omega
      · simp only [h,if_false] <;> omega
theorem wm (its : List Value) (lo hi : Option Int) : slicePick its.toArray lo hi none = ((its.drop (HT.sIx its.length 0 lo)).take (HT.sIx its.length its.length hi - HT.sIx its.length 0 lo)).toArray := by
  obtain ⟨h1,h2,h3⟩ := wX lo hi its.toArray.size
  unfold slicePick
  rw [h1,h2,h3]
  simp only [sliceRange_one,pick_run,List.size_toArray] <;> rfl
inductive Yv (K : PySem.W.Frag) (x : V) (lo : Option Int) (hi : Option Int) (H : Hp) (Q : VK) : Prop
  | mk (a xs : _) (_ : x = .ref a) (_ : SqL K H a xs) (_ : ∀ p,H p = none -> Q (.ref p) (upd H p (.lst (qx xs lo hi)))) : Yv K x lo hi H Q
theorem qH : SlR X (Yv X.K) := by
  intro pins s σ H x v vl vu lo hi sl Q I rx hs pl pu h
  obtain ⟨a,xs,rfl,hx,q⟩ := h
  cases rx
  obtain ⟨its,r,ht,hz⟩ := I.list hx
  have hlen := r.length
  refine ⟨"list",_,slot_list_getitem.lookup,ht.isList.typeIs,?_⟩
  refine wpAny_getItem_list_slice ht.isList hs pl pu .none (by simp) ?_ (by rw [List.size_toArray] <;> omega)
  rw [wm,<- hlen]
  refine ⟨.ref s.heap.objs.size,_,I.laid (t' := s.toks) (o := .lst (qx xs lo hi)) (fun b ob q => Heap.get?_push_of_some _ q) (Nat.le_refl _) ?_,rfl,q _ (I.hok.fresh (Nat.le_refl _))⟩
  exact ⟨Nat.le_trans (Zm xs lo hi) hz,_,0,(r.drop (HT.sIx xs.length 0 lo)).take (HT.sIx xs.length xs.length hi - HT.sIx xs.length 0 lo),Heap.get?_push_size _ rfl⟩
inductive qY (K : PySem.W.Frag) (xs : List V) (H : Hp) (Q : VK) : Prop
  | mk (p ys : _) (_ : xs = [.ref p]) (_ : (SqL K H p ys \/ SqT K H p ys)) (_ : Q (.int ys.length) H) : qY K xs H Q
theorem zx : CallR X (.builtin "len") (qY X.K) := by
  intro pins s σ H xs us Q I r h
  obtain ⟨p,ys,rfl,hq,q⟩ := h
  obtain ⟨u,rfl,rx⟩ := ja r
  cases rx
  have hn := vP
  rcases hq with hq | hq
  · obtain ⟨its,r',pl,hz⟩ := I.list hq
    have hlen := r'.length
    exact Calls.call_len_list pl.isList (by simp only [List.size_toArray] <;> omega) ⟨.int ys.length,H,I.tok _,⟨s.toks + 1,by rw [List.size_toArray,hlen]⟩,q⟩
  · obtain ⟨its,r',pl,hz⟩ := I.tuple hq
    have hlen := r'.length
    exact len_tuple pl (by simp only [List.size_toArray] <;> omega) ⟨.int ys.length,H,I.tok _,⟨s.toks + 1,by rw [List.size_toArray,hlen]⟩,q⟩
theorem CallR.or {f : Value} {r r' : List V -> Hp -> VK -> Prop} (h : CallR X f r) (h' : CallR X f r') : CallR X f (fun xs H Q => r xs H Q \/ r' xs H Q) := by
  intro pins s σ H xs us Q I rs q
  rcases q with q | q
  · exact h pins s σ H xs us Q I rs q
  · exact h' pins s σ H xs us Q I rs q
inductive jN (K : PySem.W.Frag) (xs : List V) (H : Hp) (Q : VK) : Prop
  | mk (p ys : _) (_ : xs = [.ref p]) (_ : (SqL K H p ys \/ SqT K H p ys)) (_ : ∀ l,H l = none -> Q (.ref l) (upd H l (.lst ys))) : jN K xs H Q
theorem qr : CallR X (.type "list") (jN X.K) := by
  intro pins s σ H xs us Q I r h
  obtain ⟨p,ys,rfl,hq,q⟩ := h
  obtain ⟨u,rfl,rx⟩ := ja r
  cases rx
  have fin : ∀ (its : List Value),Vals ys its -> ys.length <= sizeLine -> ∀ (h' : Heap) (c' : Nat),(∀ b o',s.heap.get? b = some o' -> h'.get? b = some o') ->
      h'.get? s.heap.objs.size = some { cls := .type "list",dict := none,data := .seq its.toArray c',slots := #[] } -> EP X pins σ Q (.ref s.heap.objs.size) { s with heap := h' } := fun its r' hz h' c' kp e =>
    ⟨.ref s.heap.objs.size,_,I.laid (t' := s.toks) kp (Nat.le_refl _) (show ObjOk X.prog X.w _ h' _ (.lst ys) from ⟨hz,its,c',r',e⟩),rfl,q _ (I.hok.fresh (Nat.le_refl _))⟩
  rcases hq with hq | hq
  · obtain ⟨its,r',pl,hz⟩ := I.list hq
    have hlen := r'.length
    obtain ⟨o,ho,hc,n,hd⟩ := pl.isList
    exact call_list_seq p (.inl rfl) ho hc hd (fun h' c' kp e => fin its r' hz h' c' kp e) (by simp only [List.size_toArray] <;> omega)
  · obtain ⟨its,r',pl,hz⟩ := I.tuple hq
    have hlen := r'.length
    obtain ⟨o,ho,hc,n,hd⟩ := pl
    exact call_list_seq p (.inr rfl) ho hc hd (fun h' c' kp e => fin its r' hz h' c' kp e) (by simp only [List.size_toArray] <;> omega)
inductive jC (K : PySem.W.Frag) (xs : List V) (H : Hp) (Q : VK) : Prop
  | mk (p ys : _) (_ : xs = [.ref p]) (_ : ((SqL K H p ys /\ ∀ l,H l = none -> Q (.ref l) (upd H l (.tup ys))) \/ (SqT K H p ys /\ Q (.ref p) H))) : jC K xs H Q
theorem jk : CallR X (.type "tuple") (jC X.K) := by
  intro pins s σ H xs us Q I r h
  obtain ⟨p,ys,rfl,h⟩ := h
  obtain ⟨u,rfl,rx⟩ := ja r
  cases rx
  rcases h with ⟨hq,q⟩ | ⟨hq,q⟩
  · obtain ⟨its,r',pl,hz⟩ := I.list hq
    have hlen := r'.length
    refine call_tuple_list pl.isList (fun h' kp => ?_) (by simp only [List.size_toArray] <;> omega)
    have I1 : Inv X pins σ H { s with heap := h' } := I.kept (t' := s.toks) kp
    have I2 : Inv X pins σ (upd H h'.objs.size (.tup ys)) { s with heap := h'.push { cls := .type "tuple",data := .seq its.toArray } } :=
      I1.laid (t' := s.toks) (fun b o e => Heap.get?_push_of_some _ e) (Nat.le_refl _) (show ObjOk X.prog X.w _ _ _ (.tup ys) from ⟨hz,its,r',⟨IsTup.new _ _,_,Heap.get?_push_size _ rfl,rfl⟩⟩)
    exact ⟨.ref h'.objs.size,_,I2,rfl,q _ (I1.hok.fresh (Nat.le_refl _))⟩
  · obtain ⟨its,r',pl,hz⟩ := I.tuple hq
    exact call_tuple_same pl ⟨.ref p,H,I,rfl,q⟩
def tyV (K : PySem.W.Frag) (T : String) (x : V) (H : Hp) : Prop := match x with
  | .str _ => T = "str"
  | .int _ => T = "int"
  | .ref p => (T = "list" /\ ∃ xs,SqL K H p xs) \/ (T = "tuple" /\ ∃ o,K.lookup p = some o /\ o.cls = .type "tuple" /\ o.dict = none) \/
      (T = "dict" /\ ((∃ kvs,H p = some (.dK kvs)) \/ ∃ kvs,H p = some (.dT kvs))) \/ (T = "set" /\ ∃ S n,H p = some (.set S n))
  | _ => False
theorem JH {pins : List (Addr × Obj)} {σ : St} {H : Hp} {s : Shared} {T : String} {x : V} {v : Value} (I : Inv X pins σ H s) (r : RelV x v) (ty : tyV X.K T x H) :
    s.TypeIs v T /\ ∀ a,v = .ref a -> ∃ ob,s.heap.get? a = some ob /\ ob.dict = none := by
  cases x with
  | str z =>
    obtain ⟨t,rfl⟩ := r
    cases (show T = "str" from ty)
    exact ⟨typeIs_str s z t,fun _ e => nomatch e⟩
  | int i =>
    obtain ⟨t,rfl⟩ := r
    cases (show T = "int" from ty)
    exact ⟨typeIs_int s i t,fun _ e => nomatch e⟩
  | ref p =>
    cases r
    rcases ty with ⟨rfl,xs,hq⟩ | ⟨rfl,o,hk,hc,hd⟩ | ⟨rfl,hk⟩ | ⟨rfl,S,n,hk⟩
    · obtain ⟨its,_,pl,_⟩ := I.list hq
      refine ⟨pl.isList.typeIs,fun a e => ?_⟩
      cases e
      obtain ⟨o,n,e,c,hd,_⟩ := pl
      exact ⟨o,e,hd⟩
    · refine ⟨⟨o,I.kIn p o hk,hc⟩,fun a e => ?_⟩
      cases e
      exact ⟨o,I.kIn _ o hk,hd⟩
    · have z : ∃ o,s.heap.get? p = some o /\ o.ExactDict := by
        rcases hk with ⟨kvs,hk⟩ | ⟨kvs,hk⟩
        · obtain ⟨_,_,_,_,o,_,_,e,ex,_⟩ := I.hok p _ hk
          exact ⟨o,e,ex⟩
        · obtain ⟨_,_,_,_,o,_,_,e,ex,_⟩ := I.hok p _ hk
          exact ⟨o,e,ex⟩
      obtain ⟨o,e,ex⟩ := z
      refine ⟨⟨o,e,ex.1⟩,fun a e2 => ?_⟩
      cases e2
      exact ⟨o,e,ex.2.1⟩
    · obtain ⟨o,_,_,_,e,ex,_⟩ := I.hok p _ hk
      refine ⟨⟨o,e,ex.1⟩,fun a e2 => ?_⟩
      cases e2
      exact ⟨o,e,ex.2.1⟩
  | _ => exact False.elim ty
def zai (K : PySem.W.Frag) (T : String) (r : V -> List V -> Hp -> VK -> Prop) (to : TE) : TE := fun σ H Q => to σ H fun x H1 => tyV K T x H1 /\ r x [] H1 Q
def tBM (K : PySem.W.Frag) (T : String) (r : V -> List V -> Hp -> VK -> Prop) (to : TE) (t : TA) : TE := fun σ H Q => to σ H fun x H1 => tyV K T x H1 /\ t σ H1 fun xs H2 => r x xs H2 Q
variable {o e : Expr} {es : List Expr} {to : TE} {t : TA} {name : Str} {apos cpos : Pos} {T id : String} {r : V -> List V -> Hp -> VK -> Prop}
theorem WD (pa : PlainAttrs T) (slot : Slot T name id) (hty : typeOf (.builtin id) = pure (.type "method_descriptor")) (hm : MtR X id r) (ho : PE X o to)
    (hbase : attributeBase o name X.env (eval o X.env) = eval o X.env := by rfl) (hline : (apos.endLine == cpos.line) = true := by rfl) : PE X (.Call (.Attribute o name apos) [] [] cpos) (zai X.K T r to) := by
  intro pins s σ H Q I h
  refine wpAny_Call_method0_late hbase hline (thn (ho pins s σ H _ I h) fun v s1 ⟨x,H1,I1,r1,ty,q1⟩ => ?_)
  obtain ⟨h1,h2⟩ := JH I1 r1 ty
  exact ⟨T,id,pa,slot,hty,h1,h2,Calls.callWith_builtin rfl (PySem.evalArgs_none (hm pins s1 σ H1 x [] v [] Q I1 r1 .nil q1))⟩
theorem Wc (pa : PlainAttrs T) (slot : Slot T name id) (hty : typeOf (.builtin id) = pure (.type "method_descriptor")) (hm : MtR X id r) (ho : PE X o to) (ha : PA X (e :: es) t)
    (hbase : attributeBase o name X.env (eval o X.env) = eval o X.env := by rfl)
    (hfew : ((backTo cpos (starEach (e :: es) X.env)).all (fun x => !x.1) && (backToKw cpos (keywordEach [] X.env)).all (fun x => x.1.isSome)
      && decide ((e :: es).length + ([] : List Keyword).length + (if ([] : List Keyword).isEmpty then 0 else 1) < 30)) = true := by rfl)
    (hline : (apos.endLine == cpos.line) = true := by rfl) (hs : starEach (e :: es) X.env = (false,eval e X.env) :: starEach es X.env := by rfl) (hplain : (backTo cpos (starEach es X.env)).any (·.1) = false := by rfl) :
    PE X (.Call (.Attribute o name apos) (e :: es) [] cpos) (tBM X.K T r to t) := by
  intro pins s σ H Q I h
  refine wpAny_Call_method_late hbase hfew hline rfl (thn (ho pins s σ H _ I h) fun v s1 ⟨x,H1,I1,r1,ty,q1⟩ => ?_)
  obtain ⟨h1,h2⟩ := JH I1 r1 ty
  refine ⟨T,id,pa,slot,hty,h1,h2,?_⟩
  have hA := ha cpos pins s1 σ H1 _ I1 q1
  rw [hs] at hA ⊢
  refine Calls.callWith_builtin (by show (false || (backTo cpos (starEach es X.env)).any (·.1)) = false;rw [hplain] <;> rfl) (Calls.evalArgs_plain ?_)
  exact thn hA fun us s2 ⟨vs,H2,I2,r2,q2⟩ => hm pins s2 σ H2 x vs v us Q I2 r1 r2 q2
/- xs.append(e),list.index on a module's tuple .. are MtR facts of 06m -/
end
end L2
namespace L2
open PySem PySem.Spec PyProof.Rows
def MtM (X : Cx) (id : String) (r : V -> List V -> Hp -> VK -> Prop) : Prop :=
  ∀ (pins : List (Addr × Obj)) (s : Shared) (σ : St) (H : Hp) (x : V) (xs : List V) (v : Value) (us : List Value) (Q : VK),Inv X pins σ H s -> RelV x v -> Vals xs us -> r x xs H Q ->
    wpAny (model X.prog X.w) X.A (call (.builtin id) (v :: us)) (EP X pins σ Q) X.xe s
theorem Vals.one : ∀ {x : V} {us : List Value},Vals [x] us -> ∃ u,us = [u] /\ RelV x u
  | _,_,.cons r .nil => ⟨_,rfl,r⟩
theorem Vals.two : ∀ {x y : V} {us : List Value},Vals [x,y] us -> ∃ u v,us = [u,v] /\ RelV x u /\ RelV y v
  | _,_,_,.cons r (.cons q .nil) => ⟨_,_,rfl,r,q⟩
theorem Vals.zero : ∀ {us : List Value},Vals [] us -> us = []
  | _,.nil => rfl
theorem Vals.reverse {xs : List V} {us : List Value} (h : Vals xs us) : Vals xs.reverse us.reverse := by
  induction h with
  | nil => exact .nil
  | cons r t ih => rw [List.reverse_cons,List.reverse_cons];exact Vals.append ih (.cons r .nil)
section
variable {X : Cx} {pins : List (Addr × Obj)} {σ : St} {H : Hp} {s : Shared} {l b : Addr} {xs ys zs : List V}
theorem Inv.lset {its its' : List Value} {n : Nat} {f : Array Value -> Array Value} {t' : Nat} (I : Inv X pins σ H s) (hH : H l = some (.lst xs))
    (e : s.heap.get? l = some { cls := .type "list",data := .seq its.toArray n }) (hf : f its.toArray = its'.toArray) (hv : Vals ys its') (hz : ys.length <= sizeLine) :
    Inv X pins σ (upd H l (.lst ys)) { s with heap := s.heap.update l (Obj.mapSeq f),toks := t' } := by
  have q := PySem.IsL.update e f
  rw [hf] at q
  refine I.write (x := l) (e := l) (by rw [hH];exact trivial) (.inl rfl) (fun b' u hb hu => (Heap.get?_update_other s.heap (Obj.mapSeq f) (Ne.symm hb)).trans hu) ⟨_,q⟩ ?_
  exact ⟨hz,its',_,hv,q⟩
theorem Inv.lnew {its : List Value} {t' : Nat} (I : Inv X pins σ H s) (hv : Vals ys its) (hz : ys.length <= sizeLine) :
    Inv X pins σ (upd H s.heap.objs.size (.lst ys)) { s with heap := s.heap.push { cls := .type "list",data := .seq its.toArray },toks := t' } :=
  I.laid (fun _ _ q => Heap.get?_push_of_some _ q) (Nat.le_refl _) ⟨hz,its,0,hv,Heap.get?_push_size _ rfl⟩
theorem Inv.fresh (I : Inv X pins σ H s) : H s.heap.objs.size = none := I.hok.fresh (Nat.le_refl _)
theorem Inv.lstM (I : Inv X pins σ H s) (hH : H l = some (.lst xs)) : xs.length <= sizeLine /\ ∃ (its : List Value) (n : Nat),Vals xs its /\ xs.length = its.length /\ s.heap.get? l = some { cls := .type "list",data := .seq its.toArray n } := by
  obtain ⟨z,its,n,r,e⟩ := I.hok l _ hH
  exact ⟨z,its,n,r,r.length,e⟩
end
section
variable {X : Cx}
inductive yS (x : V) (vs : List V) (H : Hp) (Q : VK) : Prop
  | mk (l xs : _) (_ : x = .ref l) (_ : vs = []) (_ : H l = some (.lst xs)) (_ : Q .non (upd H l (.lst xs.reverse))) : yS  x vs H Q
theorem ZN : MtM X "list.reverse" yS := by
  intro pins s σ H x vs v us Q I rx rv h
  obtain ⟨l,xs,rfl,rfl,hH,q⟩ := h
  cases rx
  have hus := rv.zero
  subst hus
  obtain ⟨z,its,n,r,hl,e⟩ := I.lstM hH
  refine call_meets F.slot_list_reverse ⟨_,e,rfl⟩ F.entry_list_reverse (F.args_list_reverse_1 _) (AutoSeq1.list_reverse_list_0 l its.toArray n (by rw [List.size_toArray];omega)) ⟨e,?_⟩
  refine ⟨.non,_,I.lset (its' := its.reverse) hH e (by simp) r.reverse ?_,rfl,q⟩
  rw [List.length_reverse]
  omega
inductive Yw (x : V) (y : V) (H : Hp) (Q : VK) : Prop
  | mk (l b xs zs : _) (_ : x = .ref l) (_ : y = .ref b) (_ : H l = some (.lst xs)) (_ : H b = some (.lst zs)) (_ : xs.length + zs.length <= sizeLine) (_ : ∀ p,H p = none -> Q (.ref p) (upd H p (.lst (xs ++ zs)))) : Yw  x y H Q
theorem vM : OpR X (binaryOp .Add) Yw := by
  intro pins s σ H x y v u Q I rx ry h
  obtain ⟨l,b,xs,zs,rfl,rfl,hH,hB,hz,q⟩ := h
  cases rx
  cases ry
  obtain ⟨z,its,n,r,hl,e⟩ := I.lstM hH
  obtain ⟨z2,its2,n2,r2,hl2,e2⟩ := I.lstM hB
  refine PySem.P.add_list e e2 ?_ (by rw [List.size_toArray,List.size_toArray];omega)
  have ea : its.toArray ++ its2.toArray = (its ++ its2).toArray := by simp
  rw [ea]
  exact ⟨.ref _,_,I.lnew (t' := s.toks) (r.append r2) (by rw [List.length_append];omega),rfl,q _ I.fresh⟩
end
section
variable {prog : Program} {w : World} {A : Around} {E : Value -> Shared -> Prop} {s : Shared}
end
section
variable {X : Cx}
end
end L2
namespace Att
open PySem PySem.W PySem.Calls PyProof.Rows
theorem vc {P : Params} {h : Heap} : ∀ (ns : List Int) (vs : List Value),WellAll P h vs (ns.map WData.int) -> IntsAre vs ns := by
  intro ns
  induction ns with
  | nil =>
    intro vs w
    rw [List.map_nil] at w
    cases w
    exact .nil
  | cons n ns ih =>
    intro vs w
    rw [List.map_cons] at w
    cases w with
    | cons a b =>
      cases a
      exact .cons _ _ (ih _ b)
theorem Q9 {l : OpenLaw} {n : Nat} (hn : l.most = some n) {P : Params} {h : Heap} {args : List WData} {vals : List Value}
    (hpre : l.row.toRowW.claim.pre args = true) (hwl : WellAll P h vals args) :
    ∃ a vs ns,vals = [Value.ref a] /\ args = [WData.list (ns.map WData.int)] /\ h.get? a = some { cls := .type "list",data := .seq vs.toArray } /\ IntsAre vs ns /\ ns.length <= n := by
  have hsh : WShape.hasAll [] args [.list .int] = true := (pre_splitW hpre).1
  have hc : l.pre.holds [] { args := args } = true := (pre_splitW hpre).2
  obtain ⟨d,r,rfl,h1,h2⟩ := hasAllW_cons hsh
  obtain rfl := hasAllW_nil h2
  obtain ⟨xs,rfl,h3⟩ := hasW_list h1
  obtain ⟨ns,rfl⟩ := items_int h3
  have hlen : ns.length <= n := by
    unfold OpenLaw.pre at hc
    have h4 : (WTm.not (.lt (.lit (.int (n : Int))) (.len (.arg 0)))).holds [] { args := [.list (ns.map .int)] } = true := by
      have h4 := (holds_andW hc).1
      rw [hn] at h4
      exact h4
    have h5 := condW_of h4 (w_not (w_lt w_lit (w_len_list (w_arg rfl))))
    rw [List.length_map] at h5
    refine Nat.le_of_not_lt fun q => ?_
    have q' : (n : Int) < ((ns.length : Nat) : Int) := by omega
    first
      | (rw [decide_eq_true q'] at h5;exact absurd h5 (by decide))
      | (simp at h5;omega)
  cases hwl with
  | cons w1 w2 =>
    cases w2
    cases w1 with
    | list ho hall => exact ⟨_,_,ns,rfl,rfl,ho,vc ns _ hall,hlen⟩
theorem Jd (l : OpenLaw) (args : List WData) : l.row.toRowW.claim.post args (.bool true) args = true :=
  postW_of (r := l.row.toRowW) (X := (true == true))
    (show WShape.has [] (.bool true) .bool = true by first | rfl | decide | simp [WShape.has,WShape.arms,WShape.armsAll])
    (show (WTm.eq .res (.lit (.bool true))).value [] { args := args,res := some (.bool true),after := args } = some (.bool (true == true)) from w_eq_bool (w_res rfl) w_lit) rfl
theorem attach_call {l : OpenLaw} {n : Nat} {q : Program} {loose : List Str} {XP : (Str -> Option Value) -> Heap -> Prop} {YP : World -> Heap -> Prop} {d : DefRec}
    (hn : l.most = some n) (hdf : d.params.defaults = [])
    (call : ∀ (w : World) (s₀ s₁ : Shared) (mg mb : Str -> Option Value) (fa : Addr) (o : Obj) (pm cd doc : Value) (a : Addr) (vs : List Value) (ns : List Int),
      Ground q loose [] XP w s₀ mg mb s₁.heap -> YP w s₁.heap ->
      s₁.heap.get? fa = some o -> o.data = .func (docDef d.name d.params d.body d.scope pm cd doc) -> s₁.heap.CodeRec cd d.name -> mg d.name = some (.ref fa) ->
      s₁.heap.get? a = some { cls := .type "list",data := .seq vs.toArray } -> IntsAre vs ns -> ns.length <= n -> s₁.gens = #[] ->
      codeAny (model l.prog w) callerA (.call (.ref fa) ⟨[.ref a],[]⟩) (fun r s' => r = .ok (.ret (.bool true)) /\ OldK s₁.heap s'.heap /\ s'.os = s₁.os /\ AllBare s'.gens) s₁) :
    WalkO q loose XP YP l.row.toRowW d [] (fun f vs => PySem.call f vs) := by
  intro w s₀ s₁ mg mb G Y fa o pm cd doc dV kV ho hd hcd hD hmg hg args vals as hpre hlay hrd hwl hlo
  obtain rfl : dV = .none := Dflts.none hD hdf
  obtain rfl : kV = .none := Dflts.noKw hD
  obtain ⟨a,vs,ns,rfl,rfl,hobj,hints,hlen⟩ := Q9 hn hpre hwl
  refine enter_call (codeAny_mono (call w s₀ s₁ mg mb fa o pm cd doc a vs ns G Y ho (fd_plain hd) hcd hmg hobj hints hlen hg) fun r s' hq => ?_)
  obtain ⟨rfl,h2,h3,h4⟩ := hq
  exact ⟨.inl ⟨.bool true,.bool true,[],rfl,fun _ => rfl,.bool true,Jd l _,fun _ => ⟨List.Pairwise.nil,fun _ hm => (nomatch hm)⟩⟩,h2,h3,h4⟩
section
variable {prog : Program} {w : World} {A : Around} {E : Value -> Shared -> Prop} {s : Shared} {K : Frag}
def ledger (h : Heap) (L d : Addr) : List (Addr × Obj) := (List.range h.objs.size).filterMap fun a => if a = L \/ a = d then none else (h.get? a).map fun o => (a,o)
end
end Att
namespace L2
open PySem PySem.Spec PyProof.Rows
theorem wy : ∀ {vs : List Value} {ns : List Int},IntsAre vs ns -> Vals (ns.map V.int) vs
  | _,_,.nil => .nil
  | _,_,.cons n t h => .cons ⟨t,rfl⟩ (wy h)
def W7 (H : Hp) : Prop := ∀ b,H b = none \/ ∃ o xs,H b = some (.frz o (.lst xs))
theorem Xy {P : Program} {w : World} {K : PySem.W.Frag} {mg mb : Str -> Option Value} {CX : CXT} {k : Nat} {fa a : Addr} {fd : FuncData} {x : Str} {sp : Sp} {s₁ : Shared} {vs : List Value} {ns : List Int}
    (KX : K.In s₁.heap) (hns : s₁.heap.Ns mainGlobals mg) (hb : s₁.heap.Ns builtinsNs mb) (hbb : ∀ x : Str,x ≠ "__name__" -> mb x = bootBuiltins x) (hlim : s₁.heap.NoLimit) (hg : s₁.gens = #[])
    (ha : s₁.heap.get? a = some { cls := .type "list",data := .seq vs.toArray }) (hi : IntsAre vs ns) (hl : ns.length <= sizeLine) (hr : Room k callerA)
    (F : ∀ base : Heap,K.In base -> base.Ns mainGlobals mg -> FnOk P w K mg base CX k fa fd [x] sp) (hbind : ∀ (s : Shared) (u : Value),BindsTo s fd ⟨[u],[]⟩ [(x,u)])
    (hsp : ∀ H : Hp,W7 H -> SqL K H a (ns.map V.int) -> sp [.ref a] H (fun v _ => v = .bl true) fun _ _ _ => False)
    (hCX : ∀ H e s',CX [] H s₁ (fun _ _ _ => False) e s' -> False) :
    codeAny (model P w) callerA (.call (.ref fa) ⟨[.ref a],[]⟩) (fun r s' => r = .ok (.ret (.bool true)) /\ OldK s₁.heap s'.heap /\ s'.os = s₁.os /\ AllBare s'.gens) s₁ := by
  have rv := wy hi
  have lenV := hi.length
  have core : ∀ H : Hp,W7 H -> SqL K H a (ns.map V.int) -> HOk P w H s₁.heap -> (∀ b,H b ≠ none -> b = a) -> (H a ≠ none -> K.lookup a = none) ->
      codeAny (model P w) callerA (.call (.ref fa) ⟨[.ref a],[]⟩) (fun r s' => r = .ok (.ret (.bool true)) /\ OldK s₁.heap s'.heap /\ s'.os = s₁.os /\ AllBare s'.gens) s₁ := by
    intro H hO hS hok hA hK
    have base_of : ∀ {b : Addr} {o : Obj},s₁.heap.get? b = some o -> H b = none -> (yn s₁.heap H).get? b = some o := fun e n => XF e n
    have noA : ∀ {b : Addr} {o : Obj} {es : Array DictEntry} {ep : Nat},s₁.heap.get? b = some o -> o.data = .dict es ep -> H b = none := fun {b o es ep} e d => by
      cases q : H b with
      | none => rfl
      | some u =>
        have e' : b = a := hA b (by rw [q];simp)
        subst e'
        rw [ha] at e;cases e
        have d' : Data.seq vs.toArray _ = Data.dict es ep := d
        cases d'
    have nsK : ∀ {b : Addr} {m : Str -> Option Value},s₁.heap.Ns b m -> (yn s₁.heap H).Ns b m := fun {b m} ⟨o,es,ep,e,d,r⟩ => ⟨o,es,ep,base_of e (noA e d),d,r⟩
    have hKb : K.In (yn s₁.heap H) := fun b o e => base_of (KX b o e) (by
      cases q : H b with
      | none => rfl
      | some u =>
        have e' : b = a := hA b (by rw [q];simp)
        subst e'
        rw [hK (by rw [q];simp)] at e;cases e)
    have hM : Mod K mg (yn s₁.heap H) := ⟨hKb,nsK hns,⟨mb,nsK hb,hbb⟩,let ⟨mc,h1,h2⟩ := hlim;⟨mc,nsK h1,h2⟩⟩
    have e0 : Env0 P w K mg (yn s₁.heap H) callerA [] s₁ H := ⟨rfl,hM,fun b o e => Vw e,Nat.le_of_eq (Jo _ _),trivial,fun b hb => absurd (show b ∈ ([] : List Addr) from hb) (by simp),hok,.of_eq hg⟩
    refine codeAny_mono ((F _ hKb (nsK hns)).run callerA [] s₁ H ⟨[.ref a],[]⟩ [.ref a] [.ref a] _ _ hr e0 (hbind s₁ (.ref a)) (.cons rfl .nil) (hsp H hO hS)) fun r s' h => ?_
    cases r with
    | error e => exact (hCX H e s' h).elim
    | ok fl =>
      cases fl with
      | next => exact False.elim h
      | brk => exact False.elim h
      | cont => exact False.elim h
      | ret u =>
        obtain ⟨v,H',os,bare,un,hok',r',q⟩ := h
        have q' : v = .bl true := q
        subst q'
        obtain rfl : u = Value.bool true := r'
        refine ⟨rfl,OldK.of_keep fun b o e => ?_,os,bare⟩
        cases q : H b with
        | none => exact un.keep b o e q (by intro z;exact absurd (show b ∈ ([] : List Addr) from z) (by simp)) (by simp)
        | some u =>
          rcases hO b with z | ⟨ob,xs,z⟩
          · rw [q] at z;cases z
          · have z2 := un.frzs b ob _ z
            obtain ⟨e1,_⟩ := hok b _ z
            obtain ⟨e2,_⟩ := hok' b _ z2
            rw [e] at e1;cases e1
            exact e2
  cases hk : K.lookup a with
  | some o =>
    have e := KX a o hk
    rw [ha] at e
    cases e
    refine core (fun _ => none) (fun _ => .inl rfl) (.inr ⟨_,vs.toArray,_,hk,rfl,rfl,rfl,by rw [List.size_toArray,lenV];exact hl,by simpa using rv⟩) (fun b u z => by have z' : (none : Option HO) = some u := z;cases z') (fun b z => absurd rfl z) fun z => absurd rfl z
  | none =>
    refine core (fun b => if b = a then some (.frz { cls := .type "list",data := .seq vs.toArray } (.lst (ns.map V.int))) else none) (fun b => ?_) (.inl (.inr ⟨{ cls := .type "list",data := .seq vs.toArray },if_pos rfl⟩)) (fun b u z => ?_) (fun b z => ?_) fun _ => hk
    · by_cases hb : b = a
      · exact .inr ⟨_,_,if_pos hb⟩
      · exact .inl (if_neg hb)
    · by_cases hb : b = a
      · have z' := (if_pos hb).symm.trans z
        cases z'
        subst hb
        exact ⟨ha,by rw [List.length_map];exact hl,vs,_,rv,ha⟩
      · have z' := (if_neg hb).symm.trans z
        cases z'
    · by_cases hb : b = a
      · exact hb
      · exact absurd (if_neg hb) z
end L2
namespace L2
open PySem PySem.Spec PyProof.Rows
abbrev KOf {K : PySem.W.Frag} {h : Heap} (_ : K.In h) : PySem.W.Frag := K
theorem walk_of {l : PySem.W.OpenLaw} {n k : Nat} {q : Program} {loose : List Str} {XP : (Str -> Option Value) -> Heap -> Prop} {YP : World -> Heap -> Prop} {d : DefRec} {K : Params -> PySem.W.Frag} {CX : World -> CXT} {sp : World -> Sp} {x : Str}
    (hn : l.most = some n) (hn2 : n <= sizeLine) (hdf : d.params.defaults = []) (hr : Room k callerA)
    (hY : ∀ (w : World) (h : Heap),YP w h -> (K w.params).In h)
    (F : ∀ (w : World) (mg : Str -> Option Value) (fa : Addr) (h : Heap),(K w.params).In h -> h.Ns mainGlobals mg -> mg d.name = some (.ref fa) ->
      ∃ fd : FuncData,(∀ (s : Shared) (u : Value),BindsTo s fd ⟨[u],[]⟩ [(x,u)]) /\
        ∀ base : Heap,(K w.params).In base -> base.Ns mainGlobals mg -> FnOk l.prog w (K w.params) mg base (CX w) k fa fd [x] (sp w))
    (hsp : ∀ (w : World) (H : Hp) (a : Addr) (ns : List Int),ns.length <= n -> W7 H -> SqL (K w.params) H a (ns.map V.int) -> sp w [.ref a] H (fun v _ => v = .bl true) fun _ _ _ => False)
    (hCX : ∀ (w : World) (H : Hp) (s : Shared) (e : Value) (s' : Shared),CX w [] H s (fun _ _ _ => False) e s' -> False) :
    PySem.W.WalkO q loose XP YP l.row.toRowW d [] (fun f vs => PySem.call f vs) := by
  refine Att.attach_call hn hdf fun w s₀ s₁ mg mb fa o pm cd doc a vs ns G Y ho hd hcd hmg hobj hints hlen hg => ?_
  have KX := hY w _ Y
  obtain ⟨fd,hb,hF⟩ := F w mg fa _ KX G.T.g hmg
  exact Xy KX G.T.g G.T.b G.T.builtins G.T.nolimit hg hobj hints (Nat.le_trans hlen hn2) hr hF hb (fun H hO hS => hsp w H a ns hlen hO hS) fun H e s' => hCX w H s₁ e s'
end L2
/- THE LAST THEOREM (shape;LID,My.* are yours):
   My.Adr: a structure of the addresses that your layer names (classes,functions);My.Txt K t: a structure (Prop) of the equations over K;
   My.txt_mk : {K} {implicit addresses ..} (e1 : nsIn K mainGlobals "law" = some (some (.ref f))) (e2 : K.lookup f = some ⟨oc,od,.func (fnOf "law" "law" params body scope dV kV doc pm an cdv ct),sl⟩) (e3 : codeIn K cdv "law" = true) .. : ∃ t,My.Txt K t
set_option maxRecDepth 100000 in
set_option maxHeartbeats 0 in
theorem PySem.Challenge.cw_LID_holds : PySem.Challenge.rw_LID.Holds := by
  w_on;o_law;k_head;(case hw => w_witness2)
  k_fill
  refine L2.walk_of (l := PySem.Challenge.rw_LID) (n := 63) (k := 40) (x := "script") (CX := fun w => ..) (sp := fun _ => My.sp_law) rfl (by decide) rfl ⟨rfl,by decide,by decide⟩ (fun w h Y => PySem.W.kIn_of Y) ?F ?S ?C
  case F =>
    intro w mg fa h KX G hmg
    have T : ∃ t,My.Txt (L2.KOf KX) t := by
      dsimp only [L2.KOf]                          -- K must stand as «<heap const> w.params» for k_is
      refine' My.txt_mk ?e1 ?e2 ?e3 ..
      (case e1 => PySem.W.k_is)                    -- in the order: a name -> its address -> its object -> its parts
      (case e2 => PySem.W.k_is)
      ..
    obtain ⟨t,T⟩ := T
    have e0 := hmg.symm.trans (PySem.W.mg_of KX G T.law)
    cases e0                                       -- fa is the law's own address
    exact ⟨_,fun s u => .of_eq rfl,fun base kb nb => My.law_fn T kb nb⟩     -- if «.of_eq rfl» comes too early: refine' ⟨_,?b,fun base kb nb => My.law_fn T kb nb⟩;exact fun s u => .of_eq rfl
  case S => exact fun w H a ns hl hO hS => ..
  case C => exact ..
(the tactic k_is has no namespace: write k_is) -/
namespace L2
open PySem PySem.Spec PyProof.Rows
def zF (s : Stmt) : Arguments := match s with
  | .FunctionDef _ a _ _ _ _ _ _ _ _ => a
  | _ => { posonlyargs := [],args := [],vararg := none,kwonlyargs := [],kw_defaults := [],kwarg := none,defaults := [] }
def zC (s : Stmt) : List Stmt := match s with
  | .FunctionDef _ _ b _ _ _ _ _ _ _ => b
  | _ => []
def zo (s : Stmt) : Scope := match s with
  | .FunctionDef _ _ _ _ _ _ sc _ _ _ => sc
  | _ => { kind := .function,names := [],isGenerator := false,isCoroutine := false }
abbrev CX0 : CXT := fun _ _ _ _ _ _ => False
abbrev E0 : XK := fun _ _ _ => False
theorem YC {X : Cx} : ZW CX0 X E0 := fun _ _ _ _ _ _ _ h => h.elim
structure Fun (K : PySem.W.Frag) (x qual : Str) (st : Stmt) (f : Addr) (fd : FuncData) : Prop where
  ex : ∃ (oc : Value) (od : Option Addr) (kV doc pm : Value) (an : Option Addr) (cdv ct : Value) (osl : Array (Option Value)),
    fd = PySem.W.fnOf x qual (zF st) (zC st) (zo st) .none kV doc pm an cdv ct /\ K.lookup f = some ⟨oc,od,.func fd,osl⟩ /\ PySem.W.codeIn K cdv qual = true
  kp : PySem.W.keepIn K (.ref f) = true
section
variable {P : Program} {w : World} {K : PySem.W.Frag} {mg : Str -> Option Value} {base : Heap}
theorem Fun.ok {x qual : Str} {st : Stmt} {f : Addr} {fd : FuncData} {N ps : List Str} {k : Nat} {sp : Sp} (F : Fun K x qual st f fd) (S : zH N ps (zo st)) (len : ∀ vs H Q E,sp vs H Q E -> vs.length = ps.length)
    (hbody : ∀ (cdv : Value) (A : Around) (outer : List Env) (s : Shared) (H : Hp) (vs : List V) (Q : VK) (E : XK),Room k (A.deeper (envOfC qual (zo st) s.heap.objs.size f cdv)) -> sp vs H Q E ->
      ∃ t,PSs (Jr CX0 P w K mg base N qual (zo st) f cdv A outer s H E).nox (zC st) t /\ t { nx := fun _ H' => Q .non H',rt := Q } (xM N vs) H) : FnOk P w K mg base CX0 (k + 1) f fd ps sp := by
  obtain ⟨oc,od,kV,doc,pm,an,cdv,ct,osl,rfl,lk,hcd⟩ := F.ex
  refine YZ lk hcd S len fun A outer s H vs Q E hr hsp => ?_
  obtain ⟨t,h,q⟩ := hbody cdv A outer s H vs Q E hr hsp
  exact ⟨t,h.nox,q⟩
theorem Fun.binds {x qual : Str} {st : Stmt} {f : Addr} {fd : FuncData} {ps : List Str} (F : Fun K x qual st f fd)
    (h : ∀ (kV doc pm : Value) (an : Option Addr) (cdv ct : Value) (us : List Value),us.length = ps.length -> bindArgs (PySem.W.fnOf x qual (zF st) (zC st) (zo st) .none kV doc pm an cdv ct) ⟨us,[]⟩ = pure (ps.zip us)) : Binds K fd ps [] := by
  obtain ⟨oc,od,kV,doc,pm,an,cdv,ct,osl,rfl,lk,hcd⟩ := F.ex
  exact .all (h kV doc pm an cdv ct)
theorem zP {x qual : Str} {st : Stmt} {f : Addr} {oc : Value} {od an : Option Addr} {osl : Array (Option Value)} {kV doc pm cdv ct : Value} (l : K.lookup f = some ⟨oc,od,.func (PySem.W.fnOf x qual (zF st) (zC st) (zo st) .none kV doc pm an cdv ct),osl⟩)
    (c : PySem.W.codeIn K cdv qual = true) (k : PySem.W.keepIn K (.ref f) = true) : Fun K x qual st f (PySem.W.fnOf x qual (zF st) (zC st) (zo st) .none kV doc pm an cdv ct) := ⟨⟨oc,od,kV,doc,pm,an,cdv,ct,osl,rfl,l,c⟩,k⟩
end
theorem XE {A : Around} {k : Nat} (hr : Room k A) : A.units + 1 < cLine := Nat.lt_of_le_of_lt (Nat.add_le_add_left (by decide : 1 <= 64) _) hr.units
section
variable {X : Cx}
theorem pv (i : Nat) {x : Str} {pos : Pos} (hN : X.N[i]? = some x := by rfl) (hv : Vis X.env.scope x := by first | exact Or.inl rfl | exact Or.inr (Or.inl rfl) | exact Or.inr (Or.inr rfl)) (hd : (x == ("__debug__" : Str)) = false := by decide)
    (hcd : (x == ("__classdict__" : Str)) = false := by decide) : PE X (.Name x pos) (Wk i) := WB hN hv hd hcd
end
theorem qb {c A B : Prop} [Decidable c] (h1 : c -> A) (h2 : ¬ c -> B) : if c then A else B := by
  by_cases h : c
  · rw [if_pos h]
    exact h1 h
  · rw [if_neg h]
    exact h2 h
def Same (H H' : Hp) : Prop := ∀ b o,H b = some o -> H' b = some o
theorem Same.refl (H : Hp) : Same H H := fun _ _ h => h
theorem Same.trans {H H1 H2 : Hp} (a : Same H H1) (b : Same H1 H2) : Same H H2 := fun c o h => b c o (a c o h)
theorem Same.free {H H' : Hp} (e : Same H H') {l : Addr} (h : H' l = Option.none) : H l = Option.none := by
  cases q : H l with
  | none => rfl
  | some o =>
    rw [e l o q] at h
    cases h
theorem Same.seq {K : PySem.W.Frag} {H H' : Hp} {a : Addr} {xs : List V} (e : Same H H') (h : SqL K H a xs) : SqL K H' a xs := by
  rcases h with (h | ⟨o,h⟩) | h
  · exact .inl (.inl (e _ _ h))
  · exact .inl (.inr ⟨o,e _ _ h⟩)
  · exact .inr h
end L2
set_option Elab.async false
set_option linter.all false
namespace L2
inductive Ex1 {α1 : Sort _} (P : α1 -> Prop) : Prop
  | mk (a1 : α1) (h : P a1) : Ex1 P
inductive Ex2 {α1 : Sort _} {α2 : Sort _} (P : α1 -> α2 -> Prop) : Prop
  | mk (a1 : α1) (a2 : α2) (h : P a1 a2) : Ex2 P
inductive Ex3 {α1 : Sort _} {α2 : Sort _} {α3 : Sort _} (P : α1 -> α2 -> α3 -> Prop) : Prop
  | mk (a1 : α1) (a2 : α2) (a3 : α3) (h : P a1 a2 a3) : Ex3 P
inductive Ex4 {α1 : Sort _} {α2 : Sort _} {α3 : Sort _} {α4 : Sort _} (P : α1 -> α2 -> α3 -> α4 -> Prop) : Prop
  | mk (a1 : α1) (a2 : α2) (a3 : α3) (a4 : α4) (h : P a1 a2 a3 a4) : Ex4 P
inductive Ex6 {α1 : Sort _} {α2 : Sort _} {α3 : Sort _} {α4 : Sort _} {α5 : Sort _} {α6 : Sort _} (P : α1 -> α2 -> α3 -> α4 -> α5 -> α6 -> Prop) : Prop
  | mk (a1 : α1) (a2 : α2) (a3 : α3) (a4 : α4) (a5 : α5) (a6 : α6) (h : P a1 a2 a3 a4 a5 a6) : Ex6 P
inductive Ex9 {α1 : Sort _} {α2 : Sort _} {α3 : Sort _} {α4 : Sort _} {α5 : Sort _} {α6 : Sort _} {α7 : Sort _} {α8 : Sort _} {α9 : Sort _} (P : α1 -> α2 -> α3 -> α4 -> α5 -> α6 -> α7 -> α8 -> α9 -> Prop) : Prop
  | mk (a1 : α1) (a2 : α2) (a3 : α3) (a4 : α4) (a5 : α5) (a6 : α6) (a7 : α7) (a8 : α8) (a9 : α9) (h : P a1 a2 a3 a4 a5 a6 a7 a8 a9) : Ex9 P
inductive An2 (A1 A2 : Prop) : Prop
  | mk (h1 : A1) (h2 : A2) : An2 A1 A2
inductive An3 (A1 A2 A3 : Prop) : Prop
  | mk (h1 : A1) (h2 : A2) (h3 : A3) : An3 A1 A2 A3
inductive An4 (A1 A2 A3 A4 : Prop) : Prop
  | mk (h1 : A1) (h2 : A2) (h3 : A3) (h4 : A4) : An4 A1 A2 A3 A4
inductive An5 (A1 A2 A3 A4 A5 : Prop) : Prop
  | mk (h1 : A1) (h2 : A2) (h3 : A3) (h4 : A4) (h5 : A5) : An5 A1 A2 A3 A4 A5
inductive An6 (A1 A2 A3 A4 A5 A6 : Prop) : Prop
  | mk (h1 : A1) (h2 : A2) (h3 : A3) (h4 : A4) (h5 : A5) (h6 : A6) : An6 A1 A2 A3 A4 A5 A6
end L2
set_option Elab.async false
set_option linter.all false
set_option maxRecDepth 100000
set_option maxHeartbeats 4000000
namespace L2
open PySem PySem.Spec PyProof.Rows
def qu (cs : List (Str × Addr)) : List (Str × NameKind) -> List (Str × Addr) -> List (Str × Addr)
  | [],acc => acc
  | (n,k) :: r,acc => qu cs r (if (k == NameKind.free) = true then (n,(cs.lookup n).getD 0) :: acc else acc)
theorem XW {env : Env} (names : List (Str × NameKind)) : ∀ (acc : List (Str × Addr)),(∀ y ∈ names,y.2 = NameKind.free -> ∃ c,env.cells.lookup y.1 = some c) ->
    (forIn names acc fun (x : Str × NameKind) (cs : List (Str × Addr)) =>
      (if (x.2 == NameKind.free) = true then (cellOf env x.1 >>= fun a => (pure (ForInStep.yield ((x.1,a) :: cs)) : Sem (ForInStep (List (Str × Addr))))) else pure (ForInStep.yield cs))) = (pure (qu env.cells names acc) : Sem (List (Str × Addr))) := by
  induction names with
  | nil => intro acc _;rfl
  | cons y r ih =>
    intro acc h
    obtain ⟨n,k⟩ := y
    rw [List.forIn_cons]
    by_cases hk : (k == NameKind.free) = true
    · obtain ⟨c,hc⟩ := h (n,k) List.mem_cons_self (by simpa using hk)
      have e1 : cellOf env n = pure c := by
        unfold cellOf
        rw [show env.cells.lookup n = some c from hc]
      simp only [hk,if_true,e1,pure_bind]
      rw [ih _ fun z hz => h z (List.mem_cons_of_mem _ hz)]
      show _ = pure (qu env.cells r (if (k == NameKind.free) = true then (n,(env.cells.lookup n).getD 0) :: acc else acc))
      rw [if_pos hk,show env.cells.lookup n = some c from hc]
      all_goals rfl
    · simp only [hk,pure_bind]
      simp only [Bool.false_eq_true,if_false,pure_bind]
      rw [ih _ fun z hz => h z (List.mem_cons_of_mem _ hz)]
      show _ = pure (qu env.cells r (if (k == NameKind.free) = true then (n,(env.cells.lookup n).getD 0) :: acc else acc))
      rw [if_neg hk]
theorem yq {env : Env} {scope : Scope} (h : ∀ y ∈ scope.names,y.2 = NameKind.free -> ∃ c,env.cells.lookup y.1 = some c) : closureFor scope env = pure (qu env.cells scope.names []) := by
  have e := XW (env := env) scope.names [] h
  unfold closureFor
  refine Eq.trans ?_ (Eq.trans (congrArg (fun m => m >>= fun cs => (pure cs : Sem (List (Str × Addr)))) e) ?_)
  · rfl
  · simp
theorem jy {cs : List (Str × Addr)} {x : Str} : ∀ (names : List (Str × NameKind)) (acc : List (Str × Addr)),(qu cs names acc).lookup x = (if (names.any fun y => y.2 == NameKind.free && x == y.1) = true then some ((cs.lookup x).getD 0) else acc.lookup x)
  | [],acc => by simp [qu]
  | (n,k) :: r,acc => by
    unfold qu
    rw [jy r]
    by_cases hr : (r.any fun y => y.2 == NameKind.free && x == y.1) = true
    · rw [if_pos hr,if_pos (by rw [List.any_cons,hr,Bool.or_true])]
    · rw [if_neg hr]
      by_cases hk : (k == NameKind.free) = true
      · rw [if_pos hk]
        by_cases hx : (x == n) = true
        · rw [if_pos (by rw [List.any_cons];simp only [hk,hx,Bool.and_self,Bool.true_or])]
          have e : x = n := by simpa using hx
          subst e
          simp [List.lookup_cons]
        · rw [if_neg (by rw [List.any_cons];simp only [hk,hx,Bool.and_false,Bool.false_or];exact hr)]
          have hx' : (x == n) = false := by simpa using hx
          simp [List.lookup_cons,hx']
      · rw [if_neg hk,if_neg (by rw [List.any_cons];simp only [hk,Bool.false_and,Bool.false_or];exact hr)]
end L2
set_option Elab.async false
set_option linter.all false
set_option maxRecDepth 100000
set_option maxHeartbeats 4000000
namespace L2
open PySem PySem.Spec PyProof.Rows
abbrev zy (X : Cx) (N' : List Str) (scope : Scope) (C : Addr) (s : Shared) (H : Hp) (ex : List Addr) : Cx where
  prog := X.prog
  w := X.w
  K := X.K
  mg := X.mg
  base := X.base
  A := X.A
  N := N'
  s₀ := s
  H₀ := H
  env := compEnvC scope (qu X.env.cells scope.names []) C X.env
  outer := X.stack
  stack := X.stack
  ex := ex
  fn := fun _ => false
  calm := X.calm
  pn := []
  xe := fun _ _ => False
abbrev jP (ifs : List Expr) (env : Env) : Sem Bool :=
  forIn ifs true fun (c : Expr) (r : Bool) => if r = true then (isTrue c env (eval c env) >>= fun ok => (pure (ForInStep.yield ok) : Sem (ForInStep Bool))) else pure (ForInStep.yield r)
theorem Zx {prog : Program} {w : World} {A : Around} {R : Result -> Shared -> Prop} {s : Shared} {elt tg iter : Expr} {ifs : List Expr} {scope : Scope} {pos : Pos} {it acc : Value} {env : Env} (J : Nat -> Shared -> Prop)
    (turn : ∀ n s,J n s -> wpAny (model prog w) A (pyNext it) (fun r s1 => match r with
      | none => R (.ok .next) s1
      | some v => wpAny (model prog w) A (letOwnedTupleGo tg it v) (fun _ s2 => wpAny (model prog w) A (assign tg env v) (fun _ s3 =>
          wpAny (model prog w) A (jP ifs env) (fun ok s4 =>
            if ok = true then wpAny (model prog w) A (eval elt env) (fun x s5 =>
              wpAny (model prog w) A (call (.builtin "list.append") [acc,x]) (fun _ s6 => ∃ m,m < n /\ J m s6) (fun _ _ => False) s5) (fun _ _ => False) s4
            else ∃ m,m < n /\ J m s4) (fun _ _ => False) s3) (fun _ _ => False) s2) (fun _ _ => False) s1) (fun _ _ => False) s)
    (n : Nat) (h : J n s) : codeAny (model prog w) A (.compLoop (.ListComp elt [⟨tg,iter,ifs,0⟩] scope pos) 0 it acc env) R s := by
  have no : ∀ {α : Type} {t : Sem α} {Q : α -> Shared -> Prop} {E : Value -> Shared -> Prop} {s : Shared},wpAny (model prog w) A t Q (fun _ _ => False) s -> wpAny (model prog w) A t Q E s := fun x => wpAny_mono x (fun _ _ q => q) fun _ _ q => q.elim
  refine codeAny_loop rfl J (fun k u hJ => ?_) n h
  show wpAny _ A ((compTurn (.ListComp elt [⟨tg,iter,ifs,0⟩] scope pos) 0 it acc env).onRaise (fun x => do noteFrame x env;theTreesLotGoes x)) _ _ u
  refine wpAny_noted ?_
  rw [compTurn_list]
  refine wpAny_bind (wpAny_standAt (wpAny_bind (no (wpAny_mono (turn k u hJ) (fun r s1 h1 => ?_) fun _ _ q => q))))
  cases r with
  | none => exact wpAny_pure h1
  | some v =>
    refine wpAny_bind (no (wpAny_mono h1 (fun _ s2 h2 => wpAny_bind (no (wpAny_mono h2 (fun _ s3 h3 => wpAny_bind (no (wpAny_mono h3 (fun ok s4 h4 => ?_) fun _ _ q => q))) fun _ _ q => q))) fun _ _ q => q))
    cases ok with
    | false => exact wpAny_pure ⟨rfl,h4⟩
    | true =>
      have h4' : wpAny (model prog w) A (eval elt env) (fun x s5 => wpAny (model prog w) A (call (.builtin "list.append") [acc,x]) (fun _ s6 => ∃ m,m < k /\ J m s6) (fun _ _ => False) s5) (fun _ _ => False) s4 := h4
      refine wpAny_bind (wpAny_bind (no (wpAny_mono h4' (fun x s5 h5 => wpAny_bind (no (wpAny_mono h5 (fun _ s6 h6 => wpAny_pure (wpAny_pure ⟨rfl,h6⟩)) fun _ _ q => q))) fun _ _ q => q)))
def PF (X : Cx) (ifs : List Expr) (t : TT) : Prop :=
  ∀ (pins : List (Addr × Obj)) (s : Shared) (σ : St) (H : Hp) (Q : Bool -> Hp -> Prop),Inv X pins σ H s -> t σ H Q -> wpAny (model X.prog X.w) X.A (jP ifs X.env) (TP X pins σ Q) X.xe s
def Y0 : TT := fun _ H Q => Q true H
theorem qk {X : Cx} : PF X [] Y0 := fun pins s σ H Q I h => wpAny_pure ⟨H,I,h⟩
theorem WA {X : Cx} {c : Expr} {t : TT} (hc : PT X c t) : PF X [c] t := by
  intro pins s σ H Q I h
  unfold jP
  simp only [List.forIn_cons,List.forIn_nil,if_true]
  refine wpAny_bind (wpAny_bind (thn (hc pins s σ H Q I h) fun ok s1 q => wpAny_pure (wpAny_pure q)))
theorem ym {P : Program} {w : World} {H : Hp} {h h' : Heap} {C : Addr} (x : HOk P w H h) (hn : H C = none) (k : ∀ b o,b ≠ C -> h.get? b = some o -> h'.get? b = some o) : HOk P w H h' := fun b u e => by
  refine (x b u e).stay (fun c v hc q => k c v ?_ q) (fun _ q => q) fun _ _ q => q
  rcases hc with z | z
  · rw [z];exact zr e hn
  · exact zr z hn
theorem xJ {P : Program} {w : World} {H : Hp} {h : Heap} {a : Addr} {o : HO} (x : HOk P w H h) (hn : H a = none) (new : ObjOk P w (upd H a o) h a o) : HOk P w (upd H a o) h := fun b u e => by
  by_cases hb : b = a
  · subst hb;rw [zi] at e;cases e;exact new
  · rw [zw hb] at e
    exact (x b u e).stay (fun c v _ q => q) (fun c q => by rw [zw (zr q hn)];exact q) fun c xs q => by rw [zw (zr q hn)];exact q
theorem vq {fs ex : List Addr} {H H' : Hp} {h h' : Heap} {a : Addr} {o : HO} (u : Un fs ex H H' h h') (ha : a ∈ ex) (hn : H a = none) : Un fs ex H (upd H' a o) h h' where
  keep := u.keep
  slot := u.slot
  free := fun b ob q n hx => by
    have hb : b ≠ a := fun z => hx (by rw [z];exact ha)
    rw [zw hb];exact u.free b ob q n hx
  there := u.there
  tups := fun b xs q => by rw [zw (zr q hn)];exact u.tups b xs q
  frzs := fun b ob v q => by rw [zw (zr q hn)];exact u.frzs b ob v q
  tbls := fun b ps q => by rw [zw (zr q hn)];exact u.tbls b ps q
theorem ZB {fs ex : List Addr} {H H' : Hp} {h h1 h2 : Heap} {C : Addr} (u : Un fs ex H H' h h1) (hC : h.objs.size <= C) (k : ∀ b o,b ≠ C -> h1.get? b = some o -> h2.get? b = some o) : Un fs ex H H' h h2 where
  keep := fun b o q n hb hx => k b o (Nat.ne_of_lt (Nat.lt_of_lt_of_le (Heap.lt_size q) hC)) (u.keep b o q n hb hx)
  slot := fun b o q n hb hx => let ⟨sl,e⟩ := u.slot b o q n hb hx;⟨sl,k b _ (Nat.ne_of_lt (Nat.lt_of_lt_of_le (Heap.lt_size q) hC)) e⟩
  free := u.free
  there := fun b o q hx => let ⟨o',e⟩ := u.there b o q hx;⟨o',k b _ (Nat.ne_of_lt (Nat.lt_of_lt_of_le (Heap.lt_size q) hC)) e⟩
  tups := u.tups
  frzs := u.frzs
  tbls := u.tbls
def vY (sn on : List (Str × NameKind)) (N fr : List Str) (js : List Nat) : Bool :=
  sn.all (fun y => y.2 != .cell && (y.2 != .local || sn.lookup y.1 == some .local) && (y.2 != .free || (on.lookup y.1 == some .cell || on.lookup y.1 == some .free))) && fr.length == js.length
    && (fr.zip js).all fun p => sn.lookup p.1 == some .free && N[p.2]? == some p.1
structure Wh (sn on : List (Str × NameKind)) (N fr : List Str) (js : List Nat) : Prop where
  cell : ∀ y ∈ sn,y.2 ≠ NameKind.cell
  loc : ∀ y ∈ sn,y.2 = NameKind.local -> sn.lookup y.1 = some .local
  free : ∀ y ∈ sn,y.2 = NameKind.free -> on.lookup y.1 = some .cell \/ on.lookup y.1 = some .free
  len : fr.length = js.length
  fr : ∀ (k : Nat) (x : Str),fr[k]? = some x -> sn.lookup x = some .free /\ ∃ j : Nat,js[k]? = some j /\ N[j]? = some x
theorem vX {sn on : List (Str × NameKind)} {N fr : List Str} {js : List Nat} (h : vY sn on N fr js = true) : Wh sn on N fr js := by
  unfold vY at h
  rw [Bool.and_eq_true,Bool.and_eq_true,List.all_eq_true,List.all_eq_true] at h
  obtain ⟨⟨h1,h2⟩,h3⟩ := h
  have h2' : fr.length = js.length := by simpa using h2
  refine ⟨fun y hy => ?_,fun y hy e => ?_,fun y hy e => ?_,h2',fun k x e => ?_⟩
  · have := h1 y hy
    simp only [Bool.and_eq_true,bne_iff_ne] at this
    exact this.1.1
  · have := h1 y hy
    simp only [Bool.and_eq_true,Bool.or_eq_true,bne_iff_ne,beq_iff_eq] at this
    exact this.1.2.resolve_left fun z => z e
  · have := h1 y hy
    simp only [Bool.and_eq_true,Bool.or_eq_true,bne_iff_ne,beq_iff_eq] at this
    exact this.2.resolve_left fun z => z e
  · have hk : k < fr.length := (List.getElem?_eq_some_iff.mp e).1
    have hj : k < js.length := by omega
    have hm : (x,js[k]) ∈ fr.zip js := by
      refine List.mem_of_getElem? (i := k) ?_
      rw [List.getElem?_zip_eq_some]
      exact ⟨e,by simp [hj]⟩
    have := h3 _ hm
    simp only [Bool.and_eq_true,beq_iff_eq] at this
    exact ⟨this.1,js[k],by simp [hj],this.2⟩
def upS (n : Nat) (js : List Nat) (σ : St) : St := List.replicate n none ++ js.map fun j => (σ[j]?).join
def tLC (wi : TI) (n : Nat) (js : List Nat) (g : TG) (tf : TT) (te : TE) : TE := fun σ H Q => wi σ H fun J H1 =>
  ∃ W : Nat -> Nat -> List V -> Hp -> Prop,(∃ m,W 0 m [] H1) /\ ∀ i m ys H2,W i m ys H2 ->
    (J.stop i H2 /\ ys.length <= sizeLine /\ ∀ D,H2 D = none -> Q (.ref D) (upd H2 D (.lst ys))) \/
    (J.go i H2 /\ ∃ N : List V -> Hp -> Prop,(∀ zs H',N zs H' -> ∃ m',m' < m /\ W (i + 1) m' zs H') /\ ∀ x H3,J.yld i H2 x H3 -> g x (upS n js σ) H3 fun σ4 H4 => σ4.drop n = (upS n js σ).drop n /\ tf σ4 H4 fun b H5 =>
      if b = true then te σ4 H5 fun y H6 => ys.length < sizeLine /\ N (ys ++ [y]) H6 else N ys H5)
end L2
set_option Elab.async false
set_option linter.all false
set_option maxRecDepth 100000
set_option maxHeartbeats 4000000
namespace L2
open PySem PySem.Spec PyProof.Rows
theorem vD {env : Env} {x : Str} {k' : NameKind} : ∀ {names : List (Str × NameKind)},(names.map fun (n,k) => if (k == NameKind.free && env.scope.kind == .function && env.kindOf n == some .cell) then (n,NameKind.cell) else (n,k)).lookup x = some k' ->
    ∃ k,names.lookup x = some k /\ (k' = k \/ (k = .free /\ k' = .cell))
  | [],h => by simp at h
  | (n,k) :: r,h => by
    by_cases hx : (x == n) = true
    · refine ⟨k,by simp [List.lookup_cons,hx],?_⟩
      have h : List.lookup x ((if (k == NameKind.free && env.scope.kind == .function && env.kindOf n == some .cell) = true then (n,NameKind.cell) else (n,k)) :: _) = some k' := h
      by_cases hc : (k == NameKind.free && env.scope.kind == .function && env.kindOf n == some .cell) = true
      · rw [if_pos hc,List.lookup_cons,hx] at h
        simp only [Bool.and_eq_true,beq_iff_eq] at hc
        exact .inr ⟨hc.1.1,(Option.some.inj h).symm⟩
      · rw [if_neg hc,List.lookup_cons,hx] at h
        exact .inl (Option.some.inj h).symm
    · have hx' : (x == n) = false := by simpa using hx
      have h : List.lookup x ((if (k == NameKind.free && env.scope.kind == .function && env.kindOf n == some .cell) = true then (n,NameKind.cell) else (n,k)) :: _) = some k' := h
      have h2 : (r.map fun (n,k) => if (k == NameKind.free && env.scope.kind == .function && env.kindOf n == some .cell) then (n,NameKind.cell) else (n,k)).lookup x = some k' := by
        by_cases hc : (k == NameKind.free && env.scope.kind == .function && env.kindOf n == some .cell) = true
        · rw [if_pos hc,List.lookup_cons,hx'] at h;exact h
        · rw [if_neg hc,List.lookup_cons,hx'] at h;exact h
      obtain ⟨k0,e,z⟩ := vD h2
      exact ⟨k0,by rw [List.lookup_cons,hx'];exact e,z⟩
theorem vE {env : Env} {x : Str} : ∀ {names : List (Str × NameKind)},names.lookup x = some .free -> ∃ k',(names.map fun (n,k) => if (k == NameKind.free && env.scope.kind == .function && env.kindOf n == some .cell) then (n,NameKind.cell) else (n,k)).lookup x = some k' /\ (k' = .cell \/ k' = .free)
  | [],h => by simp at h
  | (n,k) :: r,h => by
    by_cases hx : (x == n) = true
    · rw [List.lookup_cons,hx] at h
      cases (Option.some.inj h)
      show ∃ k',List.lookup x ((if (NameKind.free == NameKind.free && env.scope.kind == .function && env.kindOf n == some .cell) = true then (n,NameKind.cell) else (n,NameKind.free)) :: _) = some k' /\ _
      by_cases hc : (NameKind.free == NameKind.free && env.scope.kind == .function && env.kindOf n == some .cell) = true
      · rw [if_pos hc];exact ⟨.cell,by simp [List.lookup_cons,hx],.inl rfl⟩
      · rw [if_neg hc];exact ⟨.free,by simp [List.lookup_cons,hx],.inr rfl⟩
    · have hx' : (x == n) = false := by simpa using hx
      rw [List.lookup_cons,hx'] at h
      obtain ⟨k',e,z⟩ := vE (env := env) (names := r) h
      refine ⟨k',?_,z⟩
      show List.lookup x ((if (k == NameKind.free && env.scope.kind == .function && env.kindOf n == some .cell) = true then (n,NameKind.cell) else (n,k)) :: _) = some k'
      by_cases hc : (k == NameKind.free && env.scope.kind == .function && env.kindOf n == some .cell) = true
      · rw [if_pos hc,List.lookup_cons,hx'];exact e
      · rw [if_neg hc,List.lookup_cons,hx'];exact e
theorem qa {cs : List (Str × Addr)} {names : List (Str × NameKind)} {x : Str} {c : Addr} (h : (qu cs names []).lookup x = some c) (hf : ∀ y ∈ names,y.2 = NameKind.free -> ∃ c,cs.lookup y.1 = some c) : cs.lookup x = some c := by
  rw [jy] at h
  by_cases hr : (names.any fun y => y.2 == NameKind.free && x == y.1) = true
  · rw [if_pos hr] at h
    obtain ⟨y,hy,e⟩ := List.any_eq_true.mp hr
    simp only [Bool.and_eq_true,beq_iff_eq] at e
    obtain ⟨c',e'⟩ := hf y hy e.1
    rw [<- e.2] at e'
    rw [e'] at h ⊢
    exact h
  · rw [if_neg hr] at h
    cases h
theorem wL {cs : List (Str × Addr)} {names : List (Str × NameKind)} {x : Str} (h : names.lookup x = some .free) : (qu cs names []).lookup x = some ((cs.lookup x).getD 0) := by
  rw [jy,if_pos]
  exact List.any_eq_true.mpr ⟨(x,.free),PySem.mem_of_lookup h,by simp⟩
theorem jD {n : Nat} {js : List Nat} {σ : St} {i : Nat} {v : V} (h : (upS n js σ)[i]? = some (some v)) : n <= i /\ ((upS n js σ).drop n)[i - n]? = some (some v) /\ ∃ j : Nat,js[i - n]? = some j /\ σ[j]? = some (some v) := by
  unfold upS at h ⊢
  by_cases hi : i < n
  · rw [List.getElem?_append_left (by simpa using hi),List.getElem?_replicate] at h
    split at h <;> cases h
  · have e : (List.replicate n (none : Option V) ++ js.map fun j => (σ[j]?).join).drop n = js.map fun j => (σ[j]?).join := by
      rw [List.drop_append_of_le_length (by simp)];simp
    rw [List.getElem?_append_right (by simpa using hi),List.length_replicate] at h
    refine ⟨by omega,by rw [e];exact h,?_⟩
    rw [List.getElem?_map] at h
    cases ej : js[i - n]? with
    | none => rw [ej] at h;cases h
    | some j =>
      rw [ej] at h
      have h : (σ[j]?).join = some v := Option.some.inj h
      refine ⟨j,rfl,?_⟩
      cases eo : σ[j]? with
      | none => rw [eo] at h;cases h
      | some o => rw [eo] at h;exact congrArg some h
theorem X5 {n : Nat} {js : List Nat} {σ : St} : (upS n js σ).length = n + js.length := by unfold upS;simp
section
variable {X : Cx} {elt tg iter : Expr} {ifs : List Expr} {scope : Scope} {pos : Pos} {wi : TI} {g : TG} {tf : TT} {te : TE}
theorem xK {pins : List (Addr × Obj)} {σ : St} {H : Hp} {s : Shared} {fp : List Addr} (own fr : List Str) (js : List Nat) (I : Inv X pins σ H s) (B : Wh scope.names X.env.scope.names X.N fr js) (hk : scope.kind = .function)
    (f2 : ∀ b ∈ fp,qZ X pins H b) (fl : ∀ b ∈ fp,b < s.heap.objs.size) {D C : Addr} (hD : D = s.heap.objs.size) {h3 h1 : Heap} (e3 : h3 = s.heap.push { cls := .type "list",dict := none,data := .seq ([] : List Value).toArray }) (hC : C = h3.objs.size)
    {m : Str -> Option Value} (hns : h1.Ns C m) (k4 : ∀ b o,h3.get? b = some o -> h1.get? b = some o) {t4 : Nat} :
    Inv (zy X (own ++ fr) scope C { s with heap := h3 } H (D :: fp)) [] (upS own.length js σ) H { s with heap := h1,toks := t4 } := by
  have k3 : ∀ b o,s.heap.get? b = some o -> h3.get? b = some o := fun b o e => by rw [e3];exact Heap.get?_push_of_some _ e
  have I3 : Inv X pins σ H { s with heap := h3 } := I.kept (t' := s.toks) k3
  have hz : h3.objs.size = s.heap.objs.size + 1 := by rw [e3,Heap.size_push]
  have hasF : ∀ y ∈ scope.names,y.2 = NameKind.free -> ∃ c,X.env.cells.lookup y.1 = some c := fun y hy e => I.ok.has y.1 (B.free y hy e)
  have cellLt : ∀ x c,X.env.cells.lookup x = some c -> c < s.heap.objs.size := fun x c e => by
    obtain ⟨v,q⟩ := I.cell x c e
    exact q.lt
  refine ⟨⟨I.ok.mod,hk,I.ok.glob,I.ok.blt,Nat.le_of_eq hC.symm,fun x y c e1 e2 => ?_,fun x hx => ?_,fun x c hf => (nomatch hf),fun hc => I.ok.hd hc,I.ok.frames,.inl rfl,fun b hb => ?_,I3.bs,Nat.le_trans I.ok.bsz I3.sz,fun b o e hb => ?_,fun b hb hf => ?_,I3.stack,I3.stkFree⟩,
    rfl,I.bare,Un.kept k4,⟨m,hns,fun i x v e1 e2 e3' => ?_⟩,fun x c e => ?_,?_,fun x c e => ?_,fun p hp => absurd (show p ∈ ([] : List (Addr × Obj)) from hp) (by simp),I3.hok.kept k4,?_⟩
  · exact I.ok.inj x y c (qa e1 hasF) (qa e2 hasF)
  · obtain ⟨k,e,z⟩ : ∃ k,scope.names.lookup x = some k /\ (k = .free) := by
      rcases hx with hx | hx
      · obtain ⟨k,e,z⟩ := vD hx
        rcases z with z | z
        · subst z;exact absurd rfl (B.cell _ (PySem.mem_of_lookup e))
        · exact ⟨k,e,z.1⟩
      · obtain ⟨k,e,z⟩ := vD hx
        rcases z with z | z
        · subst z;exact ⟨_,e,rfl⟩
        · exact ⟨k,e,z.1⟩
    subst z
    exact ⟨_,wL e⟩
  · rcases List.mem_cons.mp hb with z | hb
    · subst z
      refine ⟨by rw [hD,hC,hz];exact Nat.ne_of_lt (Nat.lt_succ_self _),fun x c e => ?_⟩
      have := cellLt x c (qa e hasF)
      rw [hD];exact Nat.ne_of_lt this
    · refine ⟨by rw [hC,hz];exact Nat.ne_of_lt (Nat.lt_succ_of_lt (fl b hb)),fun x c e => ?_⟩
      exact (f2 b hb).2.2.2.2.1 x c (qa e hasF)
  · rcases List.mem_cons.mp hb with z | hb
    · have := Heap.lt_size (I.bk b o e)
      rw [z,hD] at this
      exact Nat.lt_irrefl _ this
    · rcases (f2 b hb).2.2.2.1 with z | z
      · exact I.ok.noex b o e z
      · exact absurd (Nat.lt_of_lt_of_le (Heap.lt_size (I.ok.bs b o e).1) z) (Nat.lt_irrefl _)
  · have hf' := List.mem_cons.mp (I.stkSub b hf)
    rcases List.mem_cons.mp hb with z | hb
    · rcases hf' with y | y
      · have := I.lt
        rw [<- y,z,hD] at this
        exact Nat.lt_irrefl _ this
      · exact I.nofs (a := b) (by rw [z,hD];exact Nat.le_refl _) y
    · rcases hf' with y | y
      · exact (f2 b hb).2.1 y
      · exact (f2 b hb).2.2.1 y
  · obtain ⟨hn,_,j,ej,es⟩ := jD e2
    have ex : fr[i - own.length]? = some x := by rw [List.getElem?_append_right hn] at e1;exact e1
    obtain ⟨hfx,j',ej',eN⟩ := B.fr _ x ex
    have : j' = j := by rw [ej] at ej';exact (Option.some.inj ej').symm
    subst this
    have hkx := B.free _ (PySem.mem_of_lookup hfx) rfl
    obtain ⟨m0,_,hl⟩ := I.loc
    obtain ⟨u,r,l⟩ := hl j' x v eN es (by rcases hkx with z | z;exact .inr (.inl z);exact .inr (.inr z))
    refine ⟨u,r,.inr ?_⟩
    rcases l with ⟨kl,_⟩ | ⟨_,c,ec,o,eo,ed⟩
    · have kl' : X.env.scope.names.lookup x = some .local := kl
      rcases hkx with z | z
      · exact absurd (z.symm.trans kl') (by decide)
      · exact absurd (z.symm.trans kl') (by decide)
    · obtain ⟨k',e',z⟩ := vE (env := X.env) hfx
      have eq : (qu X.env.cells scope.names []).lookup x = some c := by rw [wL hfx,ec];rfl
      refine ⟨?_,c,eq,o,k4 c o (k3 c o eo),ed⟩
      rcases z with z | z
      · subst z;exact .inl e'
      · subst z;exact .inr e'
  · obtain ⟨v,o,eo,ed⟩ := I.cell x c (qa e hasF)
    exact ⟨v,o,k4 c o (k3 c o eo),ed⟩
  · exact I3.hok.fresh (Nat.le_of_eq hC.symm)
  · exact I.freeC x c (qa e hasF)
  · rw [X5,<- B.len]
    show _ = (own ++ fr).length
    rw [List.length_append]
theorem Wb (own fr : List Str) (js : List Nat) (hc : X.calm = true) (hk : scope.kind = .function) (hb : vY scope.names X.env.scope.names X.N fr js = true) (hi : PI X tg iter wi)
    (hg : ∀ C s H ex,PG (zy X (own ++ fr) scope C s H ex) tg g) (hf : ∀ C s H ex,PF (zy X (own ++ fr) scope C s H ex) ifs tf) (he : ∀ C s H ex,PE (zy X (own ++ fr) scope C s H ex) elt te)
    (hs : ∀ x,foldedSetIterable iter X.env x = pure x := by intro _;rfl) : PE X (.ListComp elt [⟨tg,iter,ifs,0⟩] scope pos) (tLC wi own.length js g tf te) := by
  intro pins s σ H Q I h
  have B := vX hb
  have hasF : ∀ y ∈ scope.names,y.2 = NameKind.free -> ∃ c,X.env.cells.lookup y.1 = some c := fun y hy e => I.ok.has y.1 (B.free y hy e)
  rw [eval_ListComp]
  refine wpAny_comprehension_free (use := none) rfl hs (yq hasF) hk (fun y hy e => B.loc y hy e) (thn (hi pins s σ H _ I h) fun v s1 h1 => thn h1 fun itv s2 h2 => ?_)
  obtain ⟨it,fp,tn,J,H2,e,I2,T,st2,f2,W,⟨m0,w0⟩,turn⟩ := h2
  subst e
  have fl : ∀ b ∈ fp,b < s2.heap.objs.size := fun b hb => let ⟨o,e,_⟩ := T.obj _ _ st2 b hb;Heap.lt_size e
  refine wpAny_newObj_type (wpAny_newFunctionEnv B.cell (by intro y hy;simp at hy) (fun h1 hns hsb => ?_) hk)
  dsimp only at hns hsb ⊢
  generalize e3 : s2.heap.push { cls := .type "list",dict := none,data := .seq ([] : List Value).toArray } = h3 at hns hsb ⊢
  have k3 : ∀ b o,s2.heap.get? b = some o -> h3.get? b = some o := fun b o e => by rw [<- e3];exact Heap.get?_push_of_some _ e
  have k4 : ∀ b o,h3.get? b = some o -> h1.get? b = some o := fun b o e => hsb.extBut b o (Nat.ne_of_lt (Heap.lt_size e)) (Heap.get?_push_of_some _ e)
  have I4 : Inv (zy X (own ++ fr) scope h3.objs.size { s2 with heap := h3 } H2 (s2.heap.objs.size :: fp)) [] (upS own.length js σ) H2 { s2 with heap := h1,toks := s2.toks + ([] : List (Str × Value)).length } :=
    xK own fr js I2 B hk f2 fl rfl e3.symm rfl hns k4
  have I3 : Inv X pins σ H2 { s2 with heap := h3 } := I2.kept (t' := s2.toks) k3
  have hz : h3.objs.size = s2.heap.objs.size + 1 := by rw [<- e3,Heap.size_push]
  have hDl : s2.heap.objs.size ≠ h3.objs.size := by rw [hz];exact Nat.ne_of_lt (Nat.lt_succ_self _)
  have hacc : h1.get? s2.heap.objs.size = some { cls := .type "list",data := .seq ([] : List Value).toArray } := k4 _ _ (by rw [<- e3];exact Heap.get?_push_size _ rfl)
  generalize eD : s2.heap.objs.size = D at *
  generalize eC : h3.objs.size = C at *
  have fD : ∀ b ∈ fp,D ≠ b := fun b hb => Nat.ne_of_gt (fl b hb)
  have hx : ∀ x c,(qu X.env.cells scope.names []).lookup x = some c -> c ≠ D := fun x c e => by
    obtain ⟨v,q⟩ := I2.cell x c (qa e hasF)
    rw [<- eD];exact Nat.ne_of_lt q.lt
  have hx2 : ∀ b ∈ fp,∀ x c,(qu X.env.cells scope.names []).lookup x = some c -> c ≠ b := fun b hb x c e => (f2 b hb).2.2.2.2.1 x c (qa e hasF)
  have nfs : ∀ b ∈ D :: fp,b ∉ frs X.stack := I4.ok.exfs
  have fpB : ∀ {pins' : List (Addr × Obj)} {H' : Hp} {b : Addr},b ∈ fp -> H' b = none -> (∀ p ∈ pins',p.1 ≠ b) -> qZ (zy X (own ++ fr) scope C { s2 with heap := h3 } H2 (D :: fp)) pins' H' b := fun {pins' H' b} hb hn hp =>
    ⟨hn,(I4.ok.exf b (List.mem_cons_of_mem _ hb)).1,nfs b (List.mem_cons_of_mem _ hb),.inl (List.mem_cons_of_mem _ hb),fun x c e => hx2 b hb x c e,fun p h => hp p (by simpa using h)⟩
  have fpD : ∀ {pins' : List (Addr × Obj)} {H' : Hp},H' D = none -> (∀ p ∈ pins',p.1 ≠ D) -> qZ (zy X (own ++ fr) scope C { s2 with heap := h3 } H2 (D :: fp)) pins' H' D := fun {pins' H'} hn hp =>
    ⟨hn,hDl,nfs D List.mem_cons_self,.inl List.mem_cons_self,fun x c e => hx x c e,fun p h => hp p (by simpa using h)⟩
  have loop : ∀ s4 : Shared,s4 = { s2 with heap := h1,toks := s2.toks + ([] : List (Str × Value)).length } ->
      codeAny (model X.prog X.w) X.A (.compLoop (.ListComp elt [⟨tg,iter,ifs,0⟩] scope pos) 0 (.ref it) (.ref D) (compEnvC scope (qu X.env.cells scope.names []) C X.env))
        (compPost (model X.prog X.w) X.A X.xe none (EP X pins σ Q) (.ref D) C) s4 := by
    intro s4 e4
    refine Zx (fun n s' => ∃ i ys its H',∃ z : Nat,Inv (zy X (own ++ fr) scope C { s2 with heap := h3 } H2 (D :: fp)) [] (upS own.length js σ) H' s' /\ tn i s'.heap /\ (∀ b ∈ fp,H' b = none) /\ H' D = none /\
      s'.heap.get? D = some { cls := .type "list",data := .seq (its : List Value).toArray z } /\ Vals ys its /\ W i n ys H') ?_ m0 ?_
    · rintro n s5 ⟨i,ys,its,H5,z5,I5,st5,fr5,hD5,ho5,rv5,w5⟩
      have I5' := I5.pinned (fp := [D]) (fun b hb => by rw [List.mem_singleton.mp hb];exact fpD hD5 (fun p hp => absurd hp (by simp))) (fun b hb => by
        rw [List.mem_singleton.mp hb];exact ⟨_,ho5,fun v q => nomatch q⟩)
      have pD : ∀ p ∈ [] ++ zD [D] s5.heap,p.1 = D := fun p hp => by
        rw [List.nil_append] at hp
        exact List.mem_singleton.mp (qV hp).1
      have mD : (D,({ cls := .type "list",data := .seq its.toArray z5 } : Obj)) ∈ [] ++ zD [D] s5.heap := by
        rw [List.nil_append];exact zX (List.mem_singleton.mpr rfl) ho5
      have fp5 : ∀ {H' : Hp},(∀ b ∈ fp,H' b = none) -> ∀ b ∈ fp,qZ (zy X (own ++ fr) scope C { s2 with heap := h3 } H2 (D :: fp)) ([] ++ zD [D] s5.heap) H' b := fun hn b hb => fpB hb (hn b hb) fun p hp => by
        rw [pD p hp];exact fD b hb
      rcases turn i n ys H5 w5 with ⟨stop,hlen,q⟩ | ⟨go,N,hN,step⟩
      · refine thn (T.done (zy X (own ++ fr) scope C { s2 with heap := h3 } H2 (D :: fp)) rfl rfl rfl hc i _ s5 _ H5 _ I5' (fp5 fr5) st5 stop) fun r s6 ⟨hr,I6⟩ => ?_
        subst hr
        obtain ⟨m6,hn6,_⟩ := I6.loc
        refine ⟨m6,hn6,fun h7 hs7 => ?_⟩
        obtain ⟨o6,nD6,_⟩ := I6.pin (D,_) (List.mem_append_right _ mD)
        have k7 : ∀ b o,b ≠ C -> s6.heap.get? b = some o -> h7.get? b = some o := fun b o hb e => hs7.extBut b o hb e
        refine ⟨.ref D,upd H5 D (.lst ys),?_,rfl,q D nD6⟩
        refine I3.call' (s' := { s6 with heap := h7 }) (ch := D :: fp) I6.os (vq (ZB I6.base (Nat.le_of_eq eC) k7) List.mem_cons_self (I2.hok.fresh ?_)) (xJ (ym I6.hok I6.free k7) nD6 ⟨hlen,its,z5,rv5,k7 D _ hDl o6⟩) I6.bare fun b hb => ?_
        · rw [<- eD];exact Nat.le_refl _
        · rcases List.mem_cons.mp hb with y | hb
          · subst y
            refine ⟨.inr (by rw [<- eD];exact I2.sz),by rw [<- eD];exact Nat.ne_of_gt I2.lt,fun x c e => ?_,fun p hp => ?_⟩
            · obtain ⟨v,q⟩ := I2.cell x c e
              rw [<- eD];exact Nat.ne_of_lt q.lt
            · rw [<- eD];exact Nat.ne_of_lt (Heap.lt_size (I2.pin p hp).1)
          · obtain ⟨_,g1,_,g3,g4,g5⟩ := f2 b hb
            exact ⟨g3,g1,g4,g5⟩
      · refine thn (T.item (zy X (own ++ fr) scope C { s2 with heap := h3 } H2 (D :: fp)) rfl rfl rfl hc i _ s5 _ H5 _ I5' (fp5 fr5) st5 go) fun r s6 ⟨u,hr,h6⟩ => ?_
        subst hr
        refine thn h6 fun _ s7 ⟨x,H7,I7,r7,y7,st7,fr7⟩ => ?_
        have I7' := I7.pinned (fp5 fr7) (T.obj _ _ st7)
        refine thn (hg _ _ _ _ _ s7 _ H7 x u _ I7' r7 (step x H7 y7)) fun _ s8 ⟨σ8,H8,I8,hd8,q8⟩ => ?_
        refine thn (hf _ _ _ _ _ s8 σ8 H8 _ I8 q8) fun ok s9 ⟨H9,I9,q9⟩ => ?_
        have weak : ∀ {H' : Hp} {s' : Shared},Inv (zy X (own ++ fr) scope C { s2 with heap := h3 } H2 (D :: fp)) (([] ++ zD [D] s5.heap) ++ zD fp s7.heap) σ8 H' s' ->
            Inv (zy X (own ++ fr) scope C { s2 with heap := h3 } H2 (D :: fp)) [] (upS own.length js σ) H' s' := fun {H' s'} J => by
          refine (J.unpinned).unpinned.weak (I5.len.trans J.len.symm) fun k v e => ?_
          obtain ⟨hn,e1,_⟩ := jD e
          rw [<- hd8,List.getElem?_drop] at e1
          rw [<- e1]
          congr 1
          omega
        have mF : ∀ b ∈ fp,∀ o,s7.heap.get? b = some o -> (b,o) ∈ ([] ++ zD [D] s5.heap) ++ zD fp s7.heap := fun b hb o e => List.mem_append_right _ (zX hb e)
        have mD' := List.mem_append_left (zD fp s7.heap) mD
        have frB : ∀ {H' : Hp} {s' : Shared},Inv (zy X (own ++ fr) scope C { s2 with heap := h3 } H2 (D :: fp)) (([] ++ zD [D] s5.heap) ++ zD fp s7.heap) σ8 H' s' -> ∀ b ∈ fp,H' b = none := fun {H' s'} J b hb => by
          obtain ⟨o,e,_⟩ := T.obj _ _ st7 b hb
          exact (J.pin (b,o) (List.mem_append_right _ (mF b hb o e))).2.1
        cases ok with
        | false =>
          have q9' : N ys H9 := by simpa using q9
          obtain ⟨m',hm,w'⟩ := hN _ _ q9'
          obtain ⟨o9,nD9,_⟩ := I9.pin (D,_) (List.mem_append_right _ mD')
          exact ⟨m',hm,i + 1,ys,its,H9,z5,weak I9,T.keep _ _ _ st7 fun b hb o e => (I9.pin (b,o) (List.mem_append_right _ (mF b hb o e))).1,frB I9,nD9,o9,rv5,w'⟩
        | true =>
          have q9' : te σ8 H9 fun y H6 => ys.length < sizeLine /\ N (ys ++ [y]) H6 := by simpa using q9
          refine thn (he _ _ _ _ _ s9 σ8 H9 _ I9 q9') fun yv s10 ⟨y,H10,I10,r10,hlt,w10⟩ => ?_
          obtain ⟨m',hm,w'⟩ := hN _ _ w10
          obtain ⟨o10,nD10,_⟩ := I10.pin (D,_) (List.mem_append_right _ mD')
          refine wpAny_list_append_plain (l := D) (items := its.toArray) (hsz := by rw [List.size_toArray,<- rv5.length];exact Nat.le_of_lt hlt) ⟨_,o10⟩ fun h11 hl11 hs11 => ?_
          obtain ⟨z11,e11⟩ := hl11
          refine ⟨m',hm,i + 1,ys ++ [y],its ++ [yv],H10,z11,?_,T.keep _ _ _ st7 fun b hb o e => hs11.extBut b o (Ne.symm (fD b hb)) (I10.pin (b,o) (List.mem_append_right _ (mF b hb o e))).1,frB I10,nD10,?_,rv5.append (.cons r10 .nil),w'⟩
          · exact (weak I10).turned (t' := s10.toks) (it := D) (fun b o hb e => hs11.extBut b o hb e) nD10 hDl (.inl List.mem_cons_self) (fun x c e => hx x c e) fun p hp => absurd (show p ∈ ([] : List (Addr × Obj)) from hp) (by simp)
          · rw [e11];simp
    · subst e4
      exact ⟨0,[],[],H2,0,I4,T.keep _ _ _ st2 fun b hb o e => k4 b o (k3 b o e),fun b hb => (f2 b hb).1,I2.hok.fresh (by rw [<- eD];exact Nat.le_refl _),hacc,.nil,w0⟩
  exact codeAny_compStart_list (loop _ rfl) (T.self X.A 0 _ _ _ (T.keep _ _ _ st2 fun b hb o e => k4 b o (k3 b o e)) (loop _ rfl))
end
end L2
set_option Elab.async false
set_option linter.all false
set_option maxRecDepth 100000
set_option maxHeartbeats 4000000
namespace L2
open PySem PySem.Spec PyProof.Rows
section
variable {X : Cx} {pins : List (Addr × Obj)} {σ : St} {H : Hp} {s : Shared}
theorem yk {ch : List Addr} {h' : Heap} {t' : Nat} {T : Addr} {ys : List V} {its : List Value} (I : Inv X pins σ H s) (hf : ∀ b ∈ ch,qZ X pins H b) (hT : s.heap.objs.size <= T)
    (k : ∀ b o,b ∉ ch -> s.heap.get? b = some o -> h'.get? b = some o) (hl : ys.length <= sizeLine) (rv : Vals ys its) (ht : TupX h' T its.toArray) :
    Inv X pins σ (upd H T (.tup ys)) { s with heap := h',toks := t' } := by
  have hn : H T = none := I.hok.fresh hT
  have ne : ∀ b o,s.heap.get? b = some o -> b ≠ T := fun b o e => Nat.ne_of_lt (Nat.lt_of_lt_of_le (Heap.lt_size e) hT)
  have tr : ∀ b u,H b = some u -> b ∉ ch := fun b u e hb => by rw [(hf b hb).1] at e;cases e
  refine I.step (g' := s.gens) (d' := s.drawn) (ch := ch) (fun b hb => ?_) (fun b o _ _ hc e _ => k b o hc e) (fun b o _ _ hc e _ => ⟨o.slots,k b o hc e⟩) (fun b o _ e n => by rw [zw (ne b o e)];exact n) (fun b o hc e => ⟨o,k b o hc e⟩)
    (fun b xs e => by rw [zw (zr e hn)];exact e) (fun b o u e => by rw [zw (zr e hn)];exact e) (fun b ps e => ⟨#[],by rw [zw (zr e hn),e];simp⟩) (fun m hm => ?_) (fun b u e => ?_) I.bare
  · obtain ⟨_,g1,_,g3,g4,g5⟩ := hf b hb
    exact ⟨g3,g1,g4,g5⟩
  · obtain ⟨o,es,ep,ho,r⟩ := hm
    exact ⟨o,es,ep,k _ o (fun z => (hf _ z).2.1 rfl) ho,r⟩
  · by_cases hb : b = T
    · subst hb
      rw [zi] at e
      cases e
      exact ⟨hl,its,rv,ht⟩
    · rw [zw hb] at e
      refine (I.hok b u e).stay (fun c v hc q => k c v ?_ q) (fun c q => by rw [zw (zr q hn)];exact q) fun c xs q => by rw [zw (zr q hn)];exact q
      rcases hc with z | z
      · rw [z];exact tr b u e
      · exact tr c _ z
end
def Ite (K : PySem.W.Frag) (a : Addr) : It :=
  ⟨fun i H => ∃ xs x,SqL K H a xs /\ xs[i]? = some x,fun i H x H' => ∃ T y,x = .ref T /\ H T = none /\ H' = upd H T (.tup [.int i,y]) /\ ∀ xs,SqL K H a xs -> xs[i]? = some y,fun i H => ∃ xs,SqL K H a xs /\ xs.length <= i⟩
theorem Q3 {P : Program} {w : World} {K : PySem.W.Frag} {elts : List Expr} {kk : Nat} {pos : Pos} (a e it : Addr) (hne : e ≠ it) :
    Zy P w K (.Tuple elts kk pos) (Ite K a) [e,it] e (fun i h => (∃ old,IsEnum h e it i old) /\ h.IsListIter it a i) where
  mem := by simp
  obj := fun i h st b hb => by
    obtain ⟨⟨old,he⟩,⟨o,ho,c,d⟩⟩ := st
    rcases List.mem_cons.mp hb with z | z
    · subst z;exact ⟨_,he,fun v q => nomatch q⟩
    · rw [List.mem_singleton.mp z];exact ⟨o,ho,fun v q => by rw [d] at q;cases q⟩
  keep := fun i h h' st k => by
    obtain ⟨⟨old,he⟩,hi⟩ := st
    exact ⟨⟨old,k e (by simp) _ he⟩,hi.at fun o q => k it (by simp) o q⟩
  item := by
    intro X hP hw hK hc i pins s σ H E I hf st hg
    subst hP hw hK
    obtain ⟨⟨old,he⟩,hit⟩ := st
    obtain ⟨xs,x,hq,hx⟩ := hg
    obtain ⟨its,rv,p,hz⟩ := I.list hq
    obtain ⟨u,hu,ru⟩ := rv.get hx
    have hl := p.isList
    have hai : a ≠ it := fun z => by
      obtain ⟨o,e1,c1,_⟩ := hl
      obtain ⟨o',e2,c2,_⟩ := hit
      rw [z,e2] at e1;cases e1;rw [c2] at c1;exact absurd (Value.type.inj c1) (by decide)
    have hae : e ≠ a := fun z => by
      obtain ⟨o,e1,c1,_⟩ := hl
      rw [<- z,he] at e1;cases e1;exact absurd (Value.type.inj c1) (by decide)
    have D := Draws.list (prog := X.prog) (w := X.w) (A := X.A.in1) (I.ok.hd hc) it a hai its.toArray
    have hi : i < its.toArray.size := by
      have h1 := (List.getElem?_eq_some_iff.mp hu).1
      simpa using h1
    refine wpAny_pyNext_enum_itemD D he ⟨hit,hl⟩ hi hne (by simp [hne,hae]) fun x' h' tk hP' hout hst' hT hsz hk => ?_
    have ex : x' = u := by
      have h2 : its[i]? = some x' := by simpa using hP'
      rw [hu] at h2;exact (Option.some.inj h2).symm
    subst ex
    refine ⟨_,rfl,wpAny_letOwnedTupleGo_enum hout fun h2 he2 hs2 => ?_⟩
    have eT : s.heap.objs.size ≠ e := Nat.ne_of_gt (Heap.lt_size he)
    have k2 : ∀ b o,b ∉ [e,it] -> s.heap.get? b = some o -> h2.get? b = some o := fun b o hb q => by
      have n1 : b ≠ e := fun z => hb (by simp [z])
      have n2 : b ≠ it := fun z => hb (by simp [z])
      exact (hs2.2 b n1).trans (hk b o n1 n2 q)
    have it2 : h2.IsListIter it a (i + 1) := hst'.1.extBut hs2.extBut (Ne.symm hne)
    refine ⟨.ref s.heap.objs.size,upd H s.heap.objs.size (.tup [.int i,x]),?_,rfl,⟨_,x,rfl,I.hok.fresh (Nat.le_refl _),rfl,fun ys hy => by rw [I.list_inj hy hq];exact hx⟩,⟨⟨_,by simpa using he2⟩,it2⟩,fun b hb => ?_⟩
    · refine yk (s := s) (h' := h2) (t' := tk + 1) (its := [.int i tk,x']) I hf (Nat.le_refl _) k2 (by rw [sizeLine_eq];exact (by decide : 2 <= 16777216)) (.cons ⟨tk,rfl⟩ (.cons ru .nil)) (TupX.by ((hs2.2 _ eT).trans hT))
    · have hb' : b < s.heap.objs.size := by
        rcases List.mem_cons.mp hb with z | z
        · rw [z];exact Heap.lt_size he
        · rw [List.mem_singleton.mp z]
          obtain ⟨o',e',_⟩ := hit
          exact Heap.lt_size e'
      rw [zw (Nat.ne_of_lt hb')]
      exact (hf b hb).1
  done := by
    intro X hP hw hK hc i pins s σ H E I hf st hg
    subst hP hw hK
    obtain ⟨⟨old,he⟩,hit⟩ := st
    obtain ⟨xs,hq,hx⟩ := hg
    obtain ⟨its,rv,p,hz⟩ := I.list hq
    have hl := p.isList
    have hai : a ≠ it := fun z => by
      obtain ⟨o,e1,c1,_⟩ := hl
      obtain ⟨o',e2,c2,_⟩ := hit
      rw [z,e2] at e1;cases e1;rw [c2] at c1;exact absurd (Value.type.inj c1) (by decide)
    obtain ⟨f0,f1,f2,f3,f4,f5⟩ := hf it (by simp)
    have hle : its.toArray.size <= i := by
      have := rv.length
      simp only [List.size_toArray];omega
    have hT : s.TypeIs (.ref e) "enumerate" := ⟨_,he,rfl⟩
    unfold pyNext
    refine wpAny_bind (wpAny_attempt (wpAny_callSpecial?_slot (name := Str.ofString "__next__") hT F.slot_enumerate_next (wpAny_call_entry F.slot_enumerate_next hT F.entry_enumerate_next ?_ (F.args_enumerate_next_1 _))))
    show wpAny _ _ (field (.ref e) 2 >>= _) _ _ _
    refine wpAny_bind (wpAny_field he rfl (x := .ref it) rfl (wpAny_bind (wpAny_nextOf_list_end (I.ok.hd hc) hit hl (by simpa using hle) fun h' x he' hx' => ?_)))
    obtain ⟨o,ho,hc'⟩ := hx'
    refine wpAny_bind (wpAny_isInstance (T := "StopIteration") (b := true) ⟨o,ho,hc'⟩ isSubtype_stop ?_)
    exact wpAny_pure ⟨rfl,I.turned (t' := s.toks) (fun b o hb q => he' b o hb q) f0 f1 f3 f4 f5⟩
  self := fun _ _ _ _ _ st h => let ⟨⟨_,he⟩,_⟩ := st;wpAny_pyIter_enum he h
section
variable {X : Cx}
def YY (K : PySem.W.Frag) (ta : TA) : TI := fun σ H R => ta σ H fun vs H1 => ∃ a,vs = [.ref a] /\ (∃ xs,SqL K H1 a xs) /\ R (Ite K a) H1
theorem jc {l : Expr} {ta : TA} {p pos tp : Pos} {elts : List Expr} {kk : Nat} (hg : Gl X "enumerate") (hm : X.mg "enumerate" = none) (ha : PA X [l] ta) (hs : starEach [l] X.env = [(false,eval l X.env)] := by rfl) :
    PI X (.Tuple elts kk tp) (.Call (.Name "enumerate" p) [l] [] pos) (YY X.K ta) := by
  intro pins s σ H R I h
  refine Call_ (jH I hg hm boot_enumerate (PyProof.Rows.callWith_type1 (thn (ha pos pins s σ H _ I h) fun us s1 ⟨vs,H1,I1,r1,q1⟩ => ?_) hs rfl))
  obtain ⟨a,e,⟨xs,hq⟩,q⟩ := q1
  subst e
  obtain ⟨u,rfl,ru⟩ := ja r1
  cases ru
  obtain ⟨its,rv,pl,hz⟩ := I1.list hq
  refine call_enumerate_list pl.isList fun h' he hi hsz hk => wpAny_pyIter_enum he ?_
  have I2 : Inv X pins σ H1 { s1 with heap := h' } := I1.kept (t' := s1.toks) hk
  refine ⟨s1.heap.objs.size + 1,[s1.heap.objs.size + 1,s1.heap.objs.size],_,_,H1,rfl,I2,Q3 a _ _ (Nat.succ_ne_self _),⟨⟨_,he⟩,hi⟩,fun b hb => ?_,q⟩
  have hb' : s1.heap.objs.size <= b := by
    rcases List.mem_cons.mp hb with z | z
    · rw [z];exact Nat.le_succ _
    · rw [List.mem_singleton.mp z];exact Nat.le_refl _
  exact I1.fpOk hb' (I1.hok.fresh hb')
theorem vR {K : PySem.W.Frag} {a : Addr} {xs : List V} {g : TG} {tb : TS} {D : wv} {σ : St} {H : Hp} (Pv : Nat -> St -> Hp -> Prop) (h0 : Pv 0 σ H) (hl : ∀ i σ H,i <= xs.length -> Pv i σ H -> SqL K H a xs)
    (hs : ∀ i x σ H T,xs[i]? = some x -> Pv i σ H -> H T = none -> g (.ref T) σ (upd H T (.tup [.int i,x])) fun σ2 H2 => tb { D with nx := Pv (i + 1),ct := Pv (i + 1),bk := D.nx } σ2 H2) (hd : ∀ σ H,Pv xs.length σ H -> D.nx σ H) :
    ∃ W : Nat -> Nat -> St -> Hp -> Prop,(∃ m,W 0 m σ H) /\ ∀ i m σ H,W i m σ H ->
      ((Ite K a).stop i H /\ D.nx σ H) \/ ((Ite K a).go i H /\ ∃ N : St -> Hp -> Prop,(∀ σ' H',N σ' H' -> ∃ m',m' < m /\ W (i + 1) m' σ' H') /\ ∀ x H',(Ite K a).yld i H x H' -> g x σ H' fun σ2 H2 => tb { D with nx := N,ct := N,bk := D.nx } σ2 H2) := by
  refine ⟨fun i m σ H => m = xs.length - i /\ i <= xs.length /\ Pv i σ H,⟨xs.length,by simp,Nat.zero_le _,h0⟩,?_⟩
  rintro i m σ H ⟨rfl,hi,p⟩
  have q := hl i σ H hi p
  by_cases hlt : i < xs.length
  · refine .inr ⟨⟨xs,xs[i],q,by simp [hlt]⟩,Pv (i + 1),fun σ' H' p' => ⟨xs.length - (i + 1),by omega,rfl,hlt,p'⟩,fun x H' y => ?_⟩
    obtain ⟨T,z,e1,hT,e2,y⟩ := y
    subst e1 e2
    exact hs i z σ H T (y xs q) p hT
  · have e : i = xs.length := by omega
    subst e
    exact .inl ⟨⟨xs,q,Nat.le_refl _⟩,hd σ H p⟩
end
section
variable {X : Cx}
inductive x9 (K : PySem.W.Frag) (xs : List V) (H : Hp) (Q : VK) : Prop
  | mk (p : Addr) (bs : List Bool) (_ : xs = [.ref p]) (_ : SqL K H p (bs.map V.bl)) (_ : Q (.bl (bs.all id)) H) : x9 K xs H Q
theorem qD (hc : X.calm = true) : CallR X (.builtin "all") (x9 X.K) := by
  intro pins s σ H xs us Q I r h
  obtain ⟨p,bs,rfl,hq,q⟩ := h
  obtain ⟨u,rfl,ru⟩ := ja r
  cases ru
  obtain ⟨its,rv,pl,hz⟩ := I.list hq
  have hl := pl.isList
  have hpl : p ≠ s.heap.objs.size := by
    obtain ⟨o,e,_⟩ := hl
    exact Nat.ne_of_lt (Heap.lt_size e)
  refine call_all_walk (wpAny_pyIter_list hl ?_)
  refine ⟨s.heap.objs.size,_,_,_,_,_,fun i => bs.getD i true,rfl,Walks.list (prog := X.prog) (w := X.w) (A := X.A.in1) (I.ok.hd hc) _ p hpl its.toArray,⟨⟨_,Heap.get?_push_size _ rfl,rfl,rfl⟩,hl.push _⟩,?_,fun h' tk hk => ?_⟩
  · intro i v s' Q' E' hP hQ
    have hP : its.toArray[i]? = some v := hP
    have e1 : its[i]? = some v := by simpa using hP
    have hi : i < bs.length := by
      have h1 := (List.getElem?_eq_some_iff.mp e1).1
      have h2 := rv.length
      rw [List.length_map] at h2
      omega
    have e2 : (bs.map V.bl)[i]? = some (.bl bs[i]) := by simp [hi]
    obtain ⟨u',eu,ru⟩ := rv.get e2
    rw [e1] at eu
    cases eu
    cases ru
    have e3 : bs.getD i true = bs[i] := by simp [hi]
    have hQ2 : Q' (bs.getD i true) s' := hQ
    rw [e3] at hQ2
    exact wpAny_truthy_bool hQ2
  · have k : ∀ b o,s.heap.get? b = some o -> h'.get? b = some o := fun b o e => hk b o (by simp;exact Nat.ne_of_lt (Heap.lt_size e)) (Heap.get?_push_of_some _ e)
    have ea : (List.range its.toArray.size).all (fun i => bs.getD i true) = bs.all id := by
      have hlen : its.toArray.size = bs.length := by
        have := rv.length
        rw [List.length_map] at this
        simp only [List.size_toArray];omega
      rw [hlen,Bool.eq_iff_iff,List.all_eq_true,List.all_eq_true]
      constructor
      · intro h b hb
        obtain ⟨i,hi,rfl⟩ := List.mem_iff_getElem.mp hb
        have := h i (List.mem_range.mpr hi)
        simpa [hi] using this
      · intro h i hi
        have hi := List.mem_range.mp hi
        have := h bs[i] (List.getElem_mem hi)
        simpa [hi] using this
    exact ⟨.bl (bs.all id),H,I.kept k,by rw [ea];rfl,q⟩
end
end L2
set_option Elab.async false
set_option linter.all false
set_option maxRecDepth 100000
set_option maxHeartbeats 4000000
namespace L2
open PySem PySem.Spec PyProof.Rows
def SqK (K : PySem.W.Frag) (kd : Bool) (H : Hp) (a : Addr) (xs : List V) : Prop := match kd with
  | true => SqL K H a xs
  | false => SqT K H a xs
def SeqK (kd : Bool) (h : Heap) (a : Addr) (its : Array Value) : Prop := match kd with
  | true => h.IsList a its
  | false => h.IsTuple a its
def ItrK (kd : Bool) (h : Heap) (it a : Addr) (i : Nat) : Prop := match kd with
  | true => h.IsListIter it a i
  | false => h.IsTupleIter it a i
theorem SeqK.at {kd : Bool} {h h' : Heap} {a : Addr} {its : Array Value} (x : SeqK kd h a its) (k : ∀ o,h.get? a = some o -> h'.get? a = some o) : SeqK kd h' a its := by
  cases kd with
  | true => exact Heap.IsList.at x k
  | false => obtain ⟨o,e,r⟩ := (show h.IsTuple a its from x);exact ⟨o,k o e,r⟩
theorem ItrK.at {kd : Bool} {h h' : Heap} {it a : Addr} {i : Nat} (x : ItrK kd h it a i) (k : ∀ o,h.get? it = some o -> h'.get? it = some o) : ItrK kd h' it a i := by
  cases kd with
  | true => exact Heap.IsListIter.at x k
  | false => obtain ⟨o,e,r⟩ := (show h.IsTupleIter it a i from x);exact ⟨o,k o e,r⟩
theorem ItrK.obj {kd : Bool} {h : Heap} {it a : Addr} {i : Nat} (x : ItrK kd h it a i) : ∃ o,h.get? it = some o /\ (o.cls = .type "list_iterator" \/ o.cls = .type "tuple_iterator") /\ ∀ v,o.data ≠ .cell v := by
  cases kd with
  | true => obtain ⟨o,e,c,d⟩ := (show h.IsListIter it a i from x);exact ⟨o,e,.inl c,fun v q => by rw [d] at q;cases q⟩
  | false => obtain ⟨o,e,c,d⟩ := (show h.IsTupleIter it a i from x);exact ⟨o,e,.inr c,fun v q => by rw [d] at q;cases q⟩
theorem SeqK.cls {kd : Bool} {h : Heap} {a : Addr} {its : Array Value} (x : SeqK kd h a its) : ∃ o,h.get? a = some o /\ (o.cls = .type "list" \/ o.cls = .type "tuple") /\ ∃ n,o.data = .seq its n := by
  cases kd with
  | true => obtain ⟨o,e,c,n,d⟩ := (show h.IsList a its from x);exact ⟨o,e,.inl c,n,d⟩
  | false => obtain ⟨o,e,c,n,d⟩ := (show h.IsTuple a its from x);exact ⟨o,e,.inr c,n,d⟩
section
variable {prog : Program} {w : World} {A : Around} {E : Value -> Shared -> Prop} {s : Shared}
theorem jx {kd : Bool} {it a : Addr} {i : Nat} {its : Array Value} {x : Value} {Q : Value -> Shared -> Prop} (hi : ItrK kd s.heap it a i) (hl : SeqK kd s.heap a its) (hx : its[i]? = some x)
    (hQ : ∀ h',ItrK kd h' it a (i + 1) -> Heap.SameBut it s.heap h' -> Q x { s with heap := h' }) : wpAny (model prog w) A (Builtin.SmallTypes.nextOf (.ref it)) Q E s := by
  cases kd with
  | true => exact wpAny_nextOf_list_item hi hl hx hQ
  | false =>
    have hi' : s.heap.IsTupleIter it a i := hi
    obtain ⟨o,ho,hc,hd⟩ := id hi'
    obtain ⟨ol,hol,_,nl,hdl⟩ := (show s.heap.IsTuple a its from hl)
    unfold Builtin.SmallTypes.nextOf;refine wpAny_bind (wpAny_callSpecial?_slot (name := Str.ofString "__next__") hi'.typeIs F.slot_tuple_iterator_next (wpAny_call_entry F.slot_tuple_iterator_next hi'.typeIs F.entry_tuple_iterator_next ?_ (F.args_tuple_iterator_next_1 _)))
    show wpAny _ _ (field (.ref it) 0 >>= _) _ _ _;refine wpAny_bind (wpAny_field ho hd (x := .ref a) rfl ?_)
    show wpAny _ _ (if (Value.ref a == Value.none) = true then _ else _) _ _ _;rw [if_neg (show ¬ ((Value.ref a == Value.none) = true) from Bool.false_ne_true)]
    show wpAny _ _ (field (.ref it) 1 >>= _) _ _ _;refine wpAny_bind (wpAny_field ho hd (x := .int i 0) rfl ?_)
    show wpAny _ _ (seqItems? (.ref a) >>= _) _ _ _;refine wpAny_bind (wpAny_seqItems hol hdl ?_);simp only [Int.toNat_natCast,hx]
    refine wpAny_bind (wpAny_setField ho hd (by simp) (wpAny_pure ⟨x,rfl,wpAny_pure (hQ _ (show Heap.IsTupleIter _ _ _ _ from ?_) (Heap.SameBut.update ..))⟩))
    refine ⟨_,Heap.get?_update_self _ ho (Obj.isFreed_of_fields (Obj.data_mapFields hd _)),(Obj.cls_mapFields ..).trans hc,?_⟩;rw [Obj.data_mapFields hd];simp [rawInt]
theorem xH {kd : Bool} {it a : Addr} {i : Nat} {its : Array Value} {Q : Value -> Shared -> Prop} (hh : A.handled = none) (hi : ItrK kd s.heap it a i) (hl : SeqK kd s.heap a its) (hx : its[i]? = none)
    (hE : ∀ h' e,Heap.ExtBut it s.heap h' -> (∃ o,h'.get? e = some o /\ o.cls = .type "StopIteration") -> E (.ref e) { s with heap := h' }) : wpAny (model prog w) A (Builtin.SmallTypes.nextOf (.ref it)) Q E s := by
  cases kd with
  | true => exact wpAny_nextOf_list_end hh hi hl hx hE
  | false =>
    have hi' : s.heap.IsTupleIter it a i := hi
    obtain ⟨o,ho,hc,hd⟩ := id hi'
    obtain ⟨ol,hol,_,nl,hdl⟩ := (show s.heap.IsTuple a its from hl)
    unfold Builtin.SmallTypes.nextOf;refine wpAny_bind (wpAny_callSpecial?_slot (name := Str.ofString "__next__") hi'.typeIs F.slot_tuple_iterator_next (wpAny_call_entry F.slot_tuple_iterator_next hi'.typeIs F.entry_tuple_iterator_next ?_ (F.args_tuple_iterator_next_1 _)))
    show wpAny _ _ (field (.ref it) 0 >>= _) _ _ _;refine wpAny_bind (wpAny_field ho hd (x := .ref a) rfl ?_)
    show wpAny _ _ (if (Value.ref a == Value.none) = true then _ else _) _ _ _;rw [if_neg (show ¬ ((Value.ref a == Value.none) = true) from Bool.false_ne_true)]
    show wpAny _ _ (field (.ref it) 1 >>= _) _ _ _;refine wpAny_bind (wpAny_field ho hd (x := .int i 0) rfl ?_)
    show wpAny _ _ (seqItems? (.ref a) >>= _) _ _ _;refine wpAny_bind (wpAny_seqItems hol hdl ?_);simp only [Int.toNat_natCast,hx]
    refine wpAny_bind (wpAny_rule (wpAny_bind (wpAny_setField ho hd (by simp) ?_)));show wpAny _ _ (newExc (.type "StopIteration") [] >>= _) _ _ _
    refine wpAny_bind ?_;simp only [newExc,newTuple];refine wpAny_bind (wpAny_newObj_type ?_ (by size_fits))
    refine wpAny_bind (m := firstArgMember _ _) (wpAny_of_eq (a := Value.none) (by first | rfl | (simp only [firstArgMember];rfl)) (wpAny_newObj_type ?_ (by size_fits)))
    simp only [raiseNew];refine wpAny_bind (wpAny_handled ?_);first | rw [show A.in1.handled = none from hh] | rw [hh]
    exact wpAny_bind (wpAny_pure (wpAny_throw (hE _ _ (((Heap.SameBut.update ..).extBut.push _).push _) ⟨_,Heap.get?_push_size _ rfl,rfl⟩)))
structure wU (k1 k2 : Bool) (h : Heap) (z TI TO i1 i2 a1 a2 : Addr) (i : Nat) : Prop where
  zz : IsZip h z TI TO .none
  ti : IsPair h TI (.ref i1) (.ref i2)
  to : ∃ a b,IsPair h TO a b
  r1 : ItrK k1 h i1 a1 i
  r2 : ItrK k2 h i2 a2 i
structure QG (z TI TO i1 i2 : Addr) : Prop where
  a : TI ≠ z
  b : TO ≠ z
  c : i1 ≠ z
  d : i2 ≠ z
  e : TI ≠ TO
  f : TI ≠ i1
  g : TI ≠ i2
  h : TO ≠ i1
  i : TO ≠ i2
  j : i1 ≠ i2
end
end L2
set_option Elab.async false
set_option linter.all false
set_option maxRecDepth 100000
set_option maxHeartbeats 4000000
namespace L2
open PySem PySem.Spec PyProof.Rows
section
variable {prog : Program} {w : World} {A : Around} {E : Value -> Shared -> Prop} {s : Shared}
theorem QH {k1 k2 : Bool} {z TI TO i1 i2 a1 a2 : Addr} {i : Nat} {xs ys : Array Value} {x y : Value} {Q : Option Value -> Shared -> Prop} (N : QG z TI TO i1 i2) (Z : wU k1 k2 s.heap z TI TO i1 i2 a1 a2 i)
    (l1 : SeqK k1 s.heap a1 xs) (l2 : SeqK k2 s.heap a2 ys) (m1 : ∀ b ∈ [z,TO,i1,i2],a1 ≠ b) (m2 : ∀ b ∈ [z,TO,i1,i2],a2 ≠ b) (hx : xs[i]? = some x) (hy : ys[i]? = some y)
    (hQ : ∀ h',IsZip h' z TI TO (rawInt s.heap.objs.size) -> IsPair h' TI (.ref i1) (.ref i2) -> (∃ a b,IsPair h' TO a b) -> ItrK k1 h' i1 a1 (i + 1) -> ItrK k2 h' i2 a2 (i + 1) -> IsPair h' s.heap.objs.size x y -> h'.objs.size = s.heap.objs.size + 1 ->
      (∀ c o,c ∉ [z,TO,i1,i2] -> s.heap.get? c = some o -> h'.get? c = some o) -> Q (some (.ref s.heap.objs.size)) { s with heap := h' }) : wpAny (model prog w) A (pyNext (.ref z)) Q E s := by
  obtain ⟨hz,hTI,⟨a,b,hTO⟩,h1,h2⟩ := Z
  have hT : s.TypeIs (.ref z) "zip" := ⟨_,hz,rfl⟩
  unfold pyNext;refine wpAny_bind (wpAny_attempt (wpAny_callSpecial?_slot (name := Str.ofString "__next__") hT F.slot_zip_next (wpAny_call_entry F.slot_zip_next hT F.entry_zip_next ?_ (F.args_zip_next_1 _))))
  show wpAny _ _ (field (.ref z) 2 >>= _) _ _ _;refine wpAny_bind (wpAny_field hz rfl (x := .bool false) rfl ?_)
  show wpAny _ _ (field (.ref z) 3 >>= _) _ _ _;refine wpAny_bind (wpAny_field hz rfl (x := .ref TI) rfl (wpAny_bind (wpAny_seqItems hTI rfl ?_)))
  show wpAny _ _ (Builtin.SmallTypes.ownedTupleIsFree (.ref z) >>= _) _ _ _;refine wpAny_bind ?_
  unfold Builtin.SmallTypes.ownedTupleIsFree;refine wpAny_bind (wpAny_field hz rfl (x := .none) rfl (wpAny_pure ?_));simp only [if_true]
  refine wpAny_bind (wpAny_rule (wpAny_bind (wpAny_field hz rfl (x := .ref TO) rfl (wpAny_bind (wpAny_setField_rec hz (by simp) fun g1 hz1 hs1 => ?_)))))
  replace hz1 : IsZip g1 z TI TO .ellipsis := hz1
  refine wpAny_bind ?_;simp only [List.zipIdx_cons,List.zipIdx_nil,List.forIn_cons,List.forIn_nil]
  refine wpAny_bind (wpAny_bind (wpAny_onRaise ?_));show wpAny _ _ (Builtin.SmallTypes.nextOf (.ref i1) >>= _) _ _ _
  refine wpAny_bind (jx (h1.at fun o e => hs1.extBut _ o N.c e) (l1.at fun o e => hs1.extBut _ o (m1 z (by simp)) e) hx fun g2 h12 hs2 => wpAny_pure ?_)
  have hTO2 : IsPair g2 TO a b := hs2.extBut _ _ N.h (hs1.extBut _ _ N.b hTO)
  refine wpAny_bind (wpAny_seqItems hTO2 rfl (wpAny_bind (wpAny_updateSeq_pair hTO2 fun g3 hTO3 hs3 => ?_)))
  replace hTO3 : IsPair g3 TO x b := hTO3
  refine wpAny_bind (wpAny_letGo (wpAny_pure ?_));refine wpAny_bind (wpAny_bind (wpAny_onRaise ?_));show wpAny _ _ (Builtin.SmallTypes.nextOf (.ref i2) >>= _) _ _ _
  have c23 : ∀ c o,c ∉ [z,TO,i1] -> s.heap.get? c = some o -> g3.get? c = some o := fun c o hc e => hs3.extBut _ o (fun q => hc (by simp [q])) (hs2.extBut _ o (fun q => hc (by simp [q])) (hs1.extBut _ o (fun q => hc (by simp [q])) e))
  refine wpAny_bind (jx (h2.at fun o e => c23 _ o (by simp [N.d,Ne.symm N.i,Ne.symm N.j]) e) (l2.at fun o e => c23 _ o (by simp [m2 z (by simp),m2 TO (by simp),m2 i1 (by simp)]) e) hy fun g4 h24 hs4 => wpAny_pure ?_)
  have hTO4 : IsPair g4 TO x b := hs4.extBut _ _ N.i hTO3
  refine wpAny_bind (wpAny_seqItems hTO4 rfl (wpAny_bind (wpAny_updateSeq_pair hTO4 fun g5 hTO5 hs5 => ?_)))
  replace hTO5 : IsPair g5 TO x y := hTO5
  refine wpAny_bind (wpAny_letGo (wpAny_pure (wpAny_pure (wpAny_bind (wpAny_seqItems hTO5 rfl (wpAny_bind (wpAny_newTuple ?_)))))))
  have zs : g5.objs.size = s.heap.objs.size := by rw [hs5.1,hs4.1,hs3.1,hs2.1,hs1.1]
  have hz5 : IsZip g5 z TI TO .ellipsis := hs5.extBut _ _ (Ne.symm N.b) (hs4.extBut _ _ (Ne.symm N.d) (hs3.extBut _ _ (Ne.symm N.b) (hs2.extBut _ _ (Ne.symm N.c) hz1)))
  have k5 : ∀ c o,c ∉ [z,TO,i1,i2] -> s.heap.get? c = some o -> g5.get? c = some o := fun c o hc e => hs5.extBut _ o (fun q => hc (by simp [q])) (hs4.extBut _ o (fun q => hc (by simp [q])) (c23 c o (fun q => hc (by simp at q ⊢;rcases q with q | q | q <;> simp [q])) e))
  have r1 : ItrK k1 g5 i1 a1 (i + 1) := h12.at fun o e => hs5.extBut _ o (Ne.symm N.h) (hs4.extBut _ o N.j (hs3.extBut _ o (Ne.symm N.h) e))
  have r2 : ItrK k2 g5 i2 a2 (i + 1) := h24.at fun o e => hs5.extBut _ o (Ne.symm N.i) e
  have zl : z < g5.objs.size := Heap.lt_size hz5
  show wpAny _ _ (Builtin.SmallTypes.ownedTupleHandOut (.ref z) (.ref g5.objs.size) >>= _) _ _ _;refine wpAny_bind ?_;unfold Builtin.SmallTypes.ownedTupleHandOut
  have hz6 : IsZip (g5.push { cls := .type "tuple",data := .seq #[x,y] }) z TI TO .ellipsis := Heap.get?_push_of_some _ hz5
  refine wpAny_bind (wpAny_setField_rec hz6 (by simp) fun g7 hz7 hs7 => ?_)
  replace hz7 : IsZip g7 z TI TO (rawInt g5.objs.size) := hz7
  refine wpAny_setField_rec hz7 (by simp) fun g8 hz8 hs8 => ?_
  replace hz8 : IsZip g8 z TI TO (rawInt g5.objs.size) := hz8
  have up : ∀ c o,c ≠ z -> g5.get? c = some o -> g8.get? c = some o := fun c o c1 e => hs8.extBut _ o c1 (hs7.extBut _ o c1 (Heap.get?_push_of_some _ e))
  have hT8 : IsPair g8 g5.objs.size x y := hs8.extBut _ _ (Nat.ne_of_gt zl) (hs7.extBut _ _ (Nat.ne_of_gt zl) (Heap.get?_push_size _ rfl))
  have z8 : g8.objs.size = g5.objs.size + 1 := by rw [hs8.1,hs7.1,Heap.size_push]
  rw [zs] at hz8 hT8 z8
  refine wpAny_pure ⟨_,rfl,wpAny_pure ?_⟩;show Q (some (.ref g5.objs.size)) _;rw [zs]
  exact hQ g8 hz8 (up _ _ N.a (k5 _ _ (by simp [N.a,N.e,N.f,N.g]) hTI)) ⟨_,_,up _ _ N.b hTO5⟩ (r1.at fun o e => up _ o N.c e) (r2.at fun o e => up _ o N.d e) hT8 z8 fun c o hc e => up c o (fun q => hc (by simp [q])) (k5 c o hc e)
theorem JE {k1 k2 : Bool} {z TI TO i1 i2 a1 a2 : Addr} {i : Nat} {xs ys : Array Value} {Q : Option Value -> Shared -> Prop} (hh : A.handled = none) (N : QG z TI TO i1 i2) (Z : wU k1 k2 s.heap z TI TO i1 i2 a1 a2 i)
    (l1 : SeqK k1 s.heap a1 xs) (l2 : SeqK k2 s.heap a2 ys) (m1 : ∀ b ∈ [z,TO,i1,i2],a1 ≠ b) (m2 : ∀ b ∈ [z,TO,i1,i2],a2 ≠ b) (hend : xs[i]? = none \/ ys[i]? = none)
    (hQ : ∀ h',(∀ c o,c ∉ [z,TO,i1,i2] -> s.heap.get? c = some o -> h'.get? c = some o) -> Q none { s with heap := h' }) : wpAny (model prog w) A (pyNext (.ref z)) Q E s := by
  obtain ⟨hz,hTI,⟨a,b,hTO⟩,h1,h2⟩ := Z
  have hT : s.TypeIs (.ref z) "zip" := ⟨_,hz,rfl⟩
  unfold pyNext;refine wpAny_bind (wpAny_attempt (wpAny_callSpecial?_slot (name := Str.ofString "__next__") hT F.slot_zip_next (wpAny_call_entry F.slot_zip_next hT F.entry_zip_next ?_ (F.args_zip_next_1 _))))
  show wpAny _ _ (field (.ref z) 2 >>= _) _ _ _;refine wpAny_bind (wpAny_field hz rfl (x := .bool false) rfl ?_)
  show wpAny _ _ (field (.ref z) 3 >>= _) _ _ _;refine wpAny_bind (wpAny_field hz rfl (x := .ref TI) rfl (wpAny_bind (wpAny_seqItems hTI rfl ?_)))
  show wpAny _ _ (Builtin.SmallTypes.ownedTupleIsFree (.ref z) >>= _) _ _ _;refine wpAny_bind ?_
  unfold Builtin.SmallTypes.ownedTupleIsFree;refine wpAny_bind (wpAny_field hz rfl (x := .none) rfl (wpAny_pure ?_));simp only [if_true]
  refine wpAny_bind (wpAny_rule (wpAny_bind (wpAny_field hz rfl (x := .ref TO) rfl (wpAny_bind (wpAny_setField_rec hz (by simp) fun g1 hz1 hs1 => ?_)))))
  replace hz1 : IsZip g1 z TI TO .ellipsis := hz1
  refine wpAny_bind ?_;simp only [List.zipIdx_cons,List.zipIdx_nil,List.forIn_cons,List.forIn_nil]
  refine wpAny_bind (wpAny_bind (wpAny_onRaise ?_));show wpAny _ _ (Builtin.SmallTypes.nextOf (.ref i1) >>= _) _ _ _
  cases hx : xs[i]? with
  | none =>
    refine wpAny_bind (xH hh (h1.at fun o e => hs1.extBut _ o N.c e) (l1.at fun o e => hs1.extBut _ o (m1 z (by simp)) e) hx fun g2 e hs2 he => ?_)
    obtain ⟨oe,hoe,hce⟩ := he
    have hz2 : IsZip g2 z TI TO .ellipsis := hs2 _ _ (Ne.symm N.c) hz1
    have hez : e ≠ z := fun q => by subst q;rw [hz2] at hoe;cases hoe;exact absurd (Value.type.inj hce) (by decide)
    refine wpAny_setField_rec hz2 (by simp) fun g3 hz3 hs3 => ?_
    refine wpAny_bind (wpAny_isInstance (T := "StopIteration") (b := true) ⟨oe,hs3.extBut _ _ hez hoe,hce⟩ isSubtype_stop (wpAny_pure (hQ _ fun c o hc q => ?_)))
    exact hs3.extBut _ o (fun q => hc (by simp [q])) (hs2 _ o (fun q => hc (by simp [q])) (hs1.extBut _ o (fun q => hc (by simp [q])) q))
  | some x =>
    have hy : ys[i]? = none := by rcases hend with q | q;rw [hx] at q;cases q;exact q
    refine wpAny_bind (jx (h1.at fun o e => hs1.extBut _ o N.c e) (l1.at fun o e => hs1.extBut _ o (m1 z (by simp)) e) hx fun g2 h12 hs2 => wpAny_pure ?_)
    have hTO2 : IsPair g2 TO a b := hs2.extBut _ _ N.h (hs1.extBut _ _ N.b hTO)
    refine wpAny_bind (wpAny_seqItems hTO2 rfl (wpAny_bind (wpAny_updateSeq_pair hTO2 fun g3 hTO3 hs3 => ?_)))
    have c23 : ∀ c o,c ∉ [z,TO,i1] -> s.heap.get? c = some o -> g3.get? c = some o := fun c o hc e => hs3.extBut _ o (fun q => hc (by simp [q])) (hs2.extBut _ o (fun q => hc (by simp [q])) (hs1.extBut _ o (fun q => hc (by simp [q])) e))
    refine wpAny_bind (wpAny_letGo (wpAny_pure ?_));refine wpAny_bind (wpAny_bind (wpAny_onRaise ?_));show wpAny _ _ (Builtin.SmallTypes.nextOf (.ref i2) >>= _) _ _ _
    refine wpAny_bind (xH hh (h2.at fun o e => c23 _ o (by simp [N.d,Ne.symm N.i,Ne.symm N.j]) e) (l2.at fun o e => c23 _ o (by simp [m2 z (by simp),m2 TO (by simp),m2 i1 (by simp)]) e) hy fun g4 e hs4 he => ?_)
    obtain ⟨oe,hoe,hce⟩ := he
    have hz4 : IsZip g4 z TI TO .ellipsis := hs4 _ _ (Ne.symm N.d) (hs3.extBut _ _ (Ne.symm N.b) (hs2.extBut _ _ (Ne.symm N.c) hz1))
    have hez : e ≠ z := fun q => by subst q;rw [hz4] at hoe;cases hoe;exact absurd (Value.type.inj hce) (by decide)
    refine wpAny_setField_rec hz4 (by simp) fun g5 hz5 hs5 => ?_
    refine wpAny_bind (wpAny_isInstance (T := "StopIteration") (b := true) ⟨oe,hs5.extBut _ _ hez hoe,hce⟩ isSubtype_stop (wpAny_pure (hQ _ fun c o hc q => ?_)))
    exact hs5.extBut _ o (fun q => hc (by simp [q])) (hs4 _ o (fun q => hc (by simp [q])) (c23 c o (fun q => hc (by simp at q ⊢;rcases q with q | q | q <;> simp [q])) q))
abbrev zh (h : Heap) (o1 o2 : Obj) : Heap := ((((h.push o1).push o2).push { cls := .type "tuple",data := .seq #[.ref h.objs.size,.ref (h.push o1).objs.size] }).push { cls := .type "tuple",data := .seq #[.none,.none] }).push
  { cls := .type "zip",data := .fields #[.none,.bool false,.bool false,.ref ((h.push o1).push o2).objs.size,.ref (((h.push o1).push o2).push { cls := .type "tuple",data := .seq #[.ref h.objs.size,.ref (h.push o1).objs.size] }).objs.size] }
theorem W9 {k1 k2 : Bool} {a1 a2 : Addr} {h : Heap} {o1 o2 : Obj} (p1 : ∀ g : Heap,g.get? h.objs.size = some o1 -> ItrK k1 g h.objs.size a1 0) (p2 : ∀ (g : Heap) (n : Addr),g.get? n = some o2 -> ItrK k2 g n a2 0) (f1 : o1.isFreed = false) (f2 : o2.isFreed = false) :
    wU k1 k2 (zh h o1 o2) (h.objs.size + 4) (h.objs.size + 2) (h.objs.size + 3) h.objs.size (h.objs.size + 1) a1 a2 0 /\ (∀ c o,h.get? c = some o -> (zh h o1 o2).get? c = some o) /\ (zh h o1 o2).objs.size = h.objs.size + 5 := by
  have z1 : (h.push o1).objs.size = h.objs.size + 1 := Heap.size_push ..
  have z2 : ((h.push o1).push o2).objs.size = h.objs.size + 2 := by rw [Heap.size_push,z1]
  have z3 : (((h.push o1).push o2).push { cls := .type "tuple",data := .seq #[.ref h.objs.size,.ref (h.push o1).objs.size] }).objs.size = h.objs.size + 3 := by rw [Heap.size_push,z2]
  have z4 : ((((h.push o1).push o2).push { cls := .type "tuple",data := .seq #[.ref h.objs.size,.ref (h.push o1).objs.size] }).push { cls := .type "tuple",data := .seq #[.none,.none] }).objs.size = h.objs.size + 4 := by rw [Heap.size_push,z3]
  have q5 : (zh h o1 o2).get? (h.objs.size + 4) = some _ := z4 ▸ Heap.get?_push_size _ rfl
  have q4 : (zh h o1 o2).get? (h.objs.size + 3) = some _ := z3 ▸ Heap.get?_push_of_some _ (Heap.get?_push_size _ rfl)
  have q3 : (zh h o1 o2).get? (h.objs.size + 2) = some _ := z2 ▸ Heap.get?_push_of_some _ (Heap.get?_push_of_some _ (Heap.get?_push_size _ rfl))
  have q2 : (zh h o1 o2).get? (h.objs.size + 1) = some o2 := z1 ▸ Heap.get?_push_of_some _ (Heap.get?_push_of_some _ (Heap.get?_push_of_some _ (Heap.get?_push_size _ f2)))
  have q1 : (zh h o1 o2).get? h.objs.size = some o1 := Heap.get?_push_of_some _ (Heap.get?_push_of_some _ (Heap.get?_push_of_some _ (Heap.get?_push_of_some _ (Heap.get?_push_size _ f1))))
  rw [z2,z3] at q5
  rw [z1] at q3
  exact ⟨⟨q5,q3,⟨_,_,q4⟩,p1 _ q1,p2 _ _ q2⟩,fun c o e => Heap.get?_push_of_some _ (Heap.get?_push_of_some _ (Heap.get?_push_of_some _ (Heap.get?_push_of_some _ (Heap.get?_push_of_some _ e)))),by rw [Heap.size_push,z4]⟩
theorem JD {k1 k2 : Bool} {a1 a2 : Addr} {xs ys : Array Value} :
    PySem.Meets (Builtin.«zip.__new__» ⟨[.type "zip",.ref a1,.ref a2],[]⟩) (fun _ R s => SeqK k1 s.heap a1 xs /\ SeqK k2 s.heap a2 ys /\
      ∀ h',wU k1 k2 h' (s.heap.objs.size + 4) (s.heap.objs.size + 2) (s.heap.objs.size + 3) s.heap.objs.size (s.heap.objs.size + 1) a1 a2 0 -> (∀ c o,s.heap.get? c = some o -> h'.get? c = some o) -> h'.objs.size = s.heap.objs.size + 5 -> R (.ok (.ret (.ref (s.heap.objs.size + 4)))) { s with heap := h' }) :=
  .of_wp fun prog w A R s hq => by
    obtain ⟨hp,g,d,tk,os⟩ := s
    obtain ⟨hl1,hl2,hr⟩ := hq
    have hsub := sub_zip
    have fin : ∀ {o1 o2 : Obj},(∀ g : Heap,g.get? hp.objs.size = some o1 -> ItrK k1 g hp.objs.size a1 0) -> (∀ (g : Heap) (n : Addr),g.get? n = some o2 -> ItrK k2 g n a2 0) -> o1.isFreed = false -> o2.isFreed = false ->
        R (.ok (.ret (.ref ((((hp.push o1).push o2).push { cls := .type "tuple",data := .seq #[.ref hp.objs.size,.ref (hp.push o1).objs.size] }).push { cls := .type "tuple",data := .seq #[.none,.none] }).objs.size))) ⟨zh hp o1 o2,g,d,tk,os⟩ := fun {o1 o2} p1 p2 f1 f2 => by
      obtain ⟨A,B,C⟩ := W9 p1 p2 f1 f2
      have e : ((((hp.push o1).push o2).push { cls := .type "tuple",data := .seq #[.ref hp.objs.size,.ref (hp.push o1).objs.size] }).push { cls := .type "tuple",data := .seq #[.none,.none] }).objs.size = hp.objs.size + 4 := by
        rw [Heap.size_push,Heap.size_push,Heap.size_push,Heap.size_push]
      rw [e]
      exact hr _ A B C
    cases k1 with
    | true =>
      have L1 : Heap.IsList (Shared.heap ⟨hp,g,d,tk,os⟩) a1 xs := hl1
      cases k2 with
      | true =>
        have L2 : Heap.IsList (Shared.heap ⟨hp.push { cls := .type "list_iterator",data := .fields #[.ref a1,.int 0 0] },g,d,tk,os⟩) a2 ys := Heap.IsList.push hl2 _
        wp_walk using wpAny_pyIter_list L1,wpAny_pyIter_list L2
        exact ⟨_,rfl,fin (fun g e => ⟨_,e,rfl,rfl⟩) (fun g n e => ⟨_,e,rfl,rfl⟩) rfl rfl⟩
      | false =>
        have L2 : Heap.IsTuple (Shared.heap ⟨hp.push { cls := .type "list_iterator",data := .fields #[.ref a1,.int 0 0] },g,d,tk,os⟩) a2 ys := Heap.IsTuple.push hl2 _
        wp_walk using wpAny_pyIter_list L1,wpAny_pyIter_tuple L2
        exact ⟨_,rfl,fin (fun g e => ⟨_,e,rfl,rfl⟩) (fun g n e => ⟨_,e,rfl,rfl⟩) rfl rfl⟩
    | false =>
      have L1 : Heap.IsTuple (Shared.heap ⟨hp,g,d,tk,os⟩) a1 xs := hl1
      cases k2 with
      | true =>
        have L2 : Heap.IsList (Shared.heap ⟨hp.push { cls := .type "tuple_iterator",data := .fields #[.ref a1,.int 0 0] },g,d,tk,os⟩) a2 ys := Heap.IsList.push hl2 _
        wp_walk using wpAny_pyIter_tuple L1,wpAny_pyIter_list L2
        exact ⟨_,rfl,fin (fun g e => ⟨_,e,rfl,rfl⟩) (fun g n e => ⟨_,e,rfl,rfl⟩) rfl rfl⟩
      | false =>
        have L2 : Heap.IsTuple (Shared.heap ⟨hp.push { cls := .type "tuple_iterator",data := .fields #[.ref a1,.int 0 0] },g,d,tk,os⟩) a2 ys := Heap.IsTuple.push hl2 _
        wp_walk using wpAny_pyIter_tuple L1,wpAny_pyIter_tuple L2
        exact ⟨_,rfl,fin (fun g e => ⟨_,e,rfl,rfl⟩) (fun g n e => ⟨_,e,rfl,rfl⟩) rfl rfl⟩
theorem Js {k1 k2 : Bool} {a1 a2 : Addr} {xs ys : Array Value} {Q : Value -> Shared -> Prop} (h1 : SeqK k1 s.heap a1 xs) (h2 : SeqK k2 s.heap a2 ys)
    (h : ∀ h',wU k1 k2 h' (s.heap.objs.size + 4) (s.heap.objs.size + 2) (s.heap.objs.size + 3) s.heap.objs.size (s.heap.objs.size + 1) a1 a2 0 -> (∀ c o,s.heap.get? c = some o -> h'.get? c = some o) -> h'.objs.size = s.heap.objs.size + 5 ->
      Q (.ref (s.heap.objs.size + 4)) { s with heap := h' }) : wpAny (model prog w) A (call (.type "zip") [.ref a1,.ref a2]) Q E s := by
  refine callType_new F.called_zip (by decide) (F.typeCall_zip_2 _ _) (F.newCall_zip_2 _ _) (fun obj => F.args_object_init_3 obj _ _) F.entry_zip_new (JD (k1 := k1) (k2 := k2) (xs := xs) (ys := ys)) ⟨h1,h2,fun h' Z k z => ?_⟩
  exact ⟨⟨_,Z.zz,rfl⟩,h h' Z k z⟩
end
theorem Inv.seqK {X : Cx} {pins : List (Addr × Obj)} {σ : St} {H : Hp} {s : Shared} {kd : Bool} {a : Addr} {xs : List V} (I : Inv X pins σ H s) (h : SqK X.K kd H a xs) : ∃ its : List Value,Vals xs its /\ SeqK kd s.heap a its.toArray /\ xs.length <= sizeLine := by
  cases kd with
  | true => obtain ⟨its,r,p,z⟩ := I.list h;exact ⟨its,r,p.isList,z⟩
  | false => obtain ⟨its,r,p,z⟩ := I.tuple h;exact ⟨its,r,p,z⟩
theorem Inv.seqK_inj {X : Cx} {pins : List (Addr × Obj)} {σ : St} {H : Hp} {s : Shared} {kd : Bool} {a : Addr} {xs ys : List V} (I : Inv X pins σ H s) (h : SqK X.K kd H a xs) (h' : SqK X.K kd H a ys) : xs = ys := by
  cases kd with
  | true => exact I.list_inj h h'
  | false => exact I.tuple_inj h h'
theorem SqK.ne_fp {X : Cx} {pins : List (Addr × Obj)} {σ : St} {H : Hp} {s : Shared} {kd : Bool} {a b : Addr} {xs : List V} (I : Inv X pins σ H s) (h : SqK X.K kd H a xs) (f : qZ X pins H b) : a ≠ b := fun z => by
  have kk : ∀ o,X.K.lookup a = some o -> False := fun o e => by
    have e' := I.mod.kin a o e
    rcases f.2.2.2.1 with q | q
    · exact I.ok.noex a o e' (by rw [z];exact q)
    · have := Heap.lt_size (I.ok.bs a o e').1
      rw [z] at this
      exact Nat.lt_irrefl _ (Nat.lt_of_lt_of_le this q)
  cases kd with
  | true =>
    rcases (show SqL X.K H a xs from h) with (q | ⟨o,q⟩) | ⟨o,_,_,q,_⟩
    · rw [z,f.1] at q;cases q
    · rw [z,f.1] at q;cases q
    · exact kk o q
  | false =>
    rcases (show SqT X.K H a xs from h) with (q | ⟨o,q⟩) | ⟨o,_,_,q,_⟩
    · rw [z,f.1] at q;cases q
    · rw [z,f.1] at q;cases q
    · exact kk o q
def Itz (K : PySem.W.Frag) (k1 k2 : Bool) (a1 a2 : Addr) : It :=
  ⟨fun i H => ∃ xs ys x y,SqK K k1 H a1 xs /\ SqK K k2 H a2 ys /\ xs[i]? = some x /\ ys[i]? = some y,
   fun i H x H' => ∃ T u v,x = .ref T /\ H T = none /\ H' = upd H T (.tup [u,v]) /\ (∀ xs,SqK K k1 H a1 xs -> xs[i]? = some u) /\ ∀ ys,SqK K k2 H a2 ys -> ys[i]? = some v,
   fun i H => ∃ xs ys,SqK K k1 H a1 xs /\ SqK K k2 H a2 ys /\ (xs.length <= i \/ ys.length <= i)⟩
theorem JI {P : Program} {w : World} {K : PySem.W.Frag} {elts : List Expr} {kk : Nat} {pos : Pos} {k1 k2 : Bool} {a1 a2 z TI TO i1 i2 : Addr} (N : QG z TI TO i1 i2) :
    Zy P w K (.Tuple elts kk pos) (Itz K k1 k2 a1 a2) [z,TI,TO,i1,i2] z (fun i h => wU k1 k2 h z TI TO i1 i2 a1 a2 i) where
  mem := by simp
  obj := fun i h Z b hb => by
    obtain ⟨a,b',q⟩ := Z.to
    have e1 := Z.r1.obj
    have e2 := Z.r2.obj
    simp only [List.mem_cons,List.not_mem_nil,or_false] at hb
    rcases hb with r | r | r | r | r
    · subst r;exact ⟨_,Z.zz,fun v q => nomatch q⟩
    · subst r;exact ⟨_,Z.ti,fun v q => nomatch q⟩
    · subst r;exact ⟨_,q,fun v q => nomatch q⟩
    · subst r;obtain ⟨o,e,_,d⟩ := e1;exact ⟨o,e,d⟩
    · subst r;obtain ⟨o,e,_,d⟩ := e2;exact ⟨o,e,d⟩
  keep := fun i h h' Z k => by
    obtain ⟨a,b',q⟩ := Z.to
    exact ⟨k _ (by simp) _ Z.zz,k _ (by simp) _ Z.ti,⟨a,b',k _ (by simp) _ q⟩,Z.r1.at fun o e => k _ (by simp) o e,Z.r2.at fun o e => k _ (by simp) o e⟩
  item := by
    intro X hP hw hK hc i pins s σ H E I hf Z hg
    subst hP hw hK
    obtain ⟨xs,ys,x,y,hq1,hq2,hx,hy⟩ := hg
    obtain ⟨its1,rv1,p1,hz1⟩ := I.seqK hq1
    obtain ⟨its2,rv2,p2,hz2⟩ := I.seqK hq2
    obtain ⟨u1,hu1,ru1⟩ := rv1.get hx
    obtain ⟨u2,hu2,ru2⟩ := rv2.get hy
    have sub : ∀ b ∈ [z,TO,i1,i2],b ∈ [z,TI,TO,i1,i2] := fun b hb => by
      simp only [List.mem_cons,List.not_mem_nil,or_false] at hb ⊢
      rcases hb with r | r | r | r <;> simp [r]
    refine QH N Z p1 p2 (fun b hb => hq1.ne_fp I (hf b (sub b hb))) (fun b hb => hq2.ne_fp I (hf b (sub b hb))) (by simpa using hu1) (by simpa using hu2) fun h1 zz ti to r1 r2 hT hsz hk => ?_
    refine ⟨_,rfl,wpAny_letOwnedTupleGo_zip zz fun h2 zz2 hs2 => ?_⟩
    have zl : z < s.heap.objs.size := Heap.lt_size Z.zz
    obtain ⟨ta,tb,to⟩ := to
    refine ⟨.ref s.heap.objs.size,upd H s.heap.objs.size (.tup [x,y]),?_,rfl,⟨_,x,y,rfl,I.hok.fresh (Nat.le_refl _),rfl,fun xs' h' => by rw [I.seqK_inj h' hq1];exact hx,fun ys' h' => by rw [I.seqK_inj h' hq2];exact hy⟩,
      ⟨zz2,hs2.extBut _ _ N.a ti,⟨ta,tb,hs2.extBut _ _ N.b to⟩,r1.at fun o e => hs2.extBut _ o N.c e,r2.at fun o e => hs2.extBut _ o N.d e⟩,fun b hb => ?_⟩
    · exact yk (s := s) (h' := h2) (t' := s.toks) (ch := [z,TO,i1,i2]) (its := [u1,u2]) I (fun b hb => hf b (sub b hb)) (Nat.le_refl _) (fun b o hb e => hs2.extBut _ o (fun q => hb (by simp [q])) (hk b o hb e)) (by rw [sizeLine_eq];exact (by decide : 2 <= 16777216)) (.cons ru1 (.cons ru2 .nil))
        (TupX.by (hs2.extBut _ _ (Nat.ne_of_gt zl) hT))
    · have hb' : b < s.heap.objs.size := by
        have e1 := Z.r1.obj
        have e2 := Z.r2.obj
        obtain ⟨a,b',q⟩ := Z.to
        simp only [List.mem_cons,List.not_mem_nil,or_false] at hb
        rcases hb with r | r | r | r | r
        · subst r;exact zl
        · subst r;exact Heap.lt_size Z.ti
        · subst r;exact Heap.lt_size q
        · subst r;obtain ⟨o,e,_⟩ := e1;exact Heap.lt_size e
        · subst r;obtain ⟨o,e,_⟩ := e2;exact Heap.lt_size e
      rw [zw (Nat.ne_of_lt hb')]
      exact (hf b hb).1
  done := by
    intro X hP hw hK hc i pins s σ H E I hf Z hg
    subst hP hw hK
    obtain ⟨xs,ys,hq1,hq2,hle⟩ := hg
    obtain ⟨its1,rv1,p1,hz1⟩ := I.seqK hq1
    obtain ⟨its2,rv2,p2,hz2⟩ := I.seqK hq2
    have sub : ∀ b ∈ [z,TO,i1,i2],b ∈ [z,TI,TO,i1,i2] := fun b hb => by
      simp only [List.mem_cons,List.not_mem_nil,or_false] at hb ⊢
      rcases hb with r | r | r | r <;> simp [r]
    have tr : ∀ b u,H b = some u -> b ∉ [z,TO,i1,i2] := fun b u e hb => by rw [(hf b (sub b hb)).1] at e;cases e
    refine JE (I.ok.hd hc) N Z p1 p2 (fun b hb => hq1.ne_fp I (hf b (sub b hb))) (fun b hb => hq2.ne_fp I (hf b (sub b hb))) ?_ fun h' hk => ⟨rfl,?_⟩
    · have l1 := rv1.length
      have l2 := rv2.length
      rcases hle with q | q
      · exact .inl (by simp;omega)
      · exact .inr (by simp;omega)
    · refine I.step (g' := s.gens) (d' := s.drawn) (t' := s.toks) (ch := [z,TO,i1,i2]) (fun b hb => ?_) (fun b o _ _ hc e _ => hk b o hc e) (fun b o _ _ hc e _ => ⟨o.slots,hk b o hc e⟩) (fun _ _ _ _ n => n) (fun b o hc e => ⟨o,hk b o hc e⟩)
        (fun _ _ e => e) (fun _ _ _ e => e) (fun b ps e => ⟨#[],by rw [e];simp⟩) (fun m hm => ?_) (fun b u e => ?_) I.bare
      · obtain ⟨_,g1,_,g3,g4,g5⟩ := hf b (sub b hb)
        exact ⟨g3,g1,g4,g5⟩
      · obtain ⟨o,es,ep,ho,r⟩ := hm
        exact ⟨o,es,ep,hk _ o (fun z => (hf _ (sub _ z)).2.1 rfl) ho,r⟩
      · refine (I.hok b u e).stay (fun c v hc q => hk c v ?_ q) (fun _ q => q) fun _ _ q => q
        rcases hc with z | z
        · rw [z];exact tr b u e
        · exact tr c _ z
  self := fun _ _ _ _ _ Z h => wpAny_pyIter_zip Z.zz h
section
variable {X : Cx}
def YU (K : PySem.W.Frag) (ta : TA) : TI := fun σ H R => ta σ H fun vs H1 => ∃ k1 k2 a1 a2,vs = [.ref a1,.ref a2] /\ (∃ xs,SqK K k1 H1 a1 xs) /\ (∃ ys,SqK K k2 H1 a2 ys) /\ R (Itz K k1 k2 a1 a2) H1
theorem ye {l m : Expr} {ta : TA} {p pos tp : Pos} {elts : List Expr} {kk : Nat} (hg : Gl X "zip") (hm : X.mg "zip" = none) (ha : PA X [l,m] ta) (hs : starEach [l,m] X.env = [(false,eval l X.env),(false,eval m X.env)] := by rfl) (hs2 : starEach [m] X.env = [(false,eval m X.env)] := by rfl) :
    PI X (.Tuple elts kk tp) (.Call (.Name "zip" p) [l,m] [] pos) (YU X.K ta) := by
  intro pins s σ H R I h
  refine Call_ (jH I hg hm boot_zip (PyProof.Rows.callWith_type1 (thn (ha pos pins s σ H _ I h) fun us s1 ⟨vs,H1,I1,r1,q1⟩ => ?_) (by rw [hs,hs2]) (by rw [hs2];rfl)))
  obtain ⟨k1,k2,a1,a2,e,⟨xs,hq1⟩,⟨ys,hq2⟩,q⟩ := q1
  subst e
  obtain ⟨u,u',rfl,ru,ru'⟩ := vo r1
  cases ru
  cases ru'
  obtain ⟨its1,rv1,p1,hz1⟩ := I1.seqK hq1
  obtain ⟨its2,rv2,p2,hz2⟩ := I1.seqK hq2
  refine Js p1 p2 fun h' Z hk hsz => wpAny_pyIter_zip Z.zz ?_
  have I2 : Inv X pins σ H1 { s1 with heap := h' } := I1.kept (t' := s1.toks) hk
  have N : QG (s1.heap.objs.size + 4) (s1.heap.objs.size + 2) (s1.heap.objs.size + 3) s1.heap.objs.size (s1.heap.objs.size + 1) := by
    constructor <;> (intro e;have e' : (_ : Nat) = _ := e;omega)
  refine ⟨s1.heap.objs.size + 4,_,_,_,H1,rfl,I2,JI N,Z,fun b hb => ?_,q⟩
  have hb' : s1.heap.objs.size <= b := by
    simp only [List.mem_cons,List.not_mem_nil,or_false] at hb
    rcases hb with r | r | r | r | r <;> (rw [r];first | exact Nat.le_add_right _ _ | exact Nat.le_refl _)
  exact I1.fpOk hb' (I1.hok.fresh hb')
end
end L2
set_option Elab.async false
set_option linter.all false
set_option maxRecDepth 100000
set_option maxHeartbeats 4000000
namespace L2
open PySem PySem.Spec PyProof.Rows
def TyN (K : PySem.W.Frag) (H : Hp) (x : V) (T : String) : Prop := match x with
  | .non => T = "NoneType"
  | .bl _ => T = "bool"
  | .int _ => T = "int"
  | .str _ => T = "str"
  | .ref a => (T = "list" /\ ∃ xs,SqL K H a xs) \/ (T = "tuple" /\ ∃ xs,SqT K H a xs)
  | _ => False
def qy (T C : String) : Bool := T == C || (T == "bool" && C == "int")
def vd : List String := ["NoneType", "bool", "int", "str", "list", "tuple"]
def xw : List String := ["bool", "int", "str", "list", "tuple", "dict"]
theorem Qu {K : PySem.W.Frag} : ∀ T ∈ vd,∀ C ∈ xw,PySem.W.kitOne K (.type T) (.type C) = some (qy T C) := by
  intro T hT C hC
  simp only [vd,xw,List.mem_cons,List.not_mem_nil,or_false] at hT hC
  rcases hT with rfl | rfl | rfl | rfl | rfl | rfl <;> rcases hC with rfl | rfl | rfl | rfl | rfl | rfl <;> kernel_rfl
theorem Zf {K : PySem.W.Frag} {T : String} (hT : T ∈ vd) : ∀ {Cs : List String},(∀ C ∈ Cs,C ∈ xw) -> PySem.W.kitAny K (.type T) (Cs.map Value.type) = some (Cs.any fun C => qy T C)
  | [],_ => rfl
  | C :: r,h => by
    have ih := Zf (K := K) hT (Cs := r) fun C' hC => h C' (List.mem_cons_of_mem _ hC)
    show (match PySem.W.kitOne K (.type T) (.type C) with | some true => some true | some false => PySem.W.kitAny K (.type T) (r.map Value.type) | none => none) = _
    rw [Qu T hT C (h C List.mem_cons_self),List.any_cons]
    cases qy T C with
    | true => rfl
    | false => rw [ih];rfl
theorem TyN.mem {K : PySem.W.Frag} {H : Hp} {x : V} {T : String} (h : TyN K H x T) : T ∈ vd := by
  cases x with
  | non => cases (show T = _ from h);decide
  | bl _ => cases (show T = _ from h);decide
  | int _ => cases (show T = _ from h);decide
  | str _ => cases (show T = _ from h);decide
  | ref a => rcases (show _ \/ _ from h) with ⟨e,_⟩ | ⟨e,_⟩ <;> (subst e;decide)
  | _ => exact (show False from h).elim
section
variable {X : Cx} {pins : List (Addr × Obj)} {σ : St} {H : Hp} {s : Shared}
theorem Qt {x : V} {u : Value} {T : String} (I : Inv X pins σ H s) (rx : RelV x u) (ty : TyN X.K H x T) : ∃ P : Heap -> Prop,P s.heap /\ PySem.W.KitX X.K u (.type T) P /\ u ≠ .builtin "__main__.__loader__#opaque" := by
  cases x with
  | non => cases (show u = Value.none from rx);cases (show T = _ from ty);exact ⟨_,True.intro,PySem.W.kitx_none,fun z => nomatch z⟩
  | bl y => cases (show u = Value.bool y from rx);cases (show T = _ from ty);exact ⟨_,True.intro,PySem.W.kitx_bool,fun z => nomatch z⟩
  | int i => obtain ⟨t,q⟩ := (show ∃ t,u = Value.int i t from rx);cases q;cases (show T = _ from ty);exact ⟨_,True.intro,PySem.W.kitx_int,fun z => nomatch z⟩
  | str y => obtain ⟨t,q⟩ := (show ∃ t,u = Value.str y t from rx);cases q;cases (show T = _ from ty);exact ⟨_,True.intro,PySem.W.kitx_str,fun z => nomatch z⟩
  | ref a =>
    cases (show u = Value.ref a from rx)
    rcases (show _ \/ _ from ty) with ⟨e,xs,hx⟩ | ⟨e,xs,hx⟩
    · subst e
      obtain ⟨its,r,⟨o,n,e1,e2,_⟩,_⟩ := I.list hx
      exact ⟨_,⟨o,e1,e2⟩,PySem.W.kitx_list,fun z => nomatch z⟩
    · subst e
      obtain ⟨its,r,⟨o,e1,e2,_⟩,_⟩ := I.tuple hx
      exact ⟨_,⟨o,e1,e2⟩,PySem.W.kitx_tuple,fun z => nomatch z⟩
  | _ => exact (show False from ty).elim
end
section
variable {X : Cx}
theorem ZZ : ∀ {Cs : List String} {us : List Value},Vals (Cs.map V.ty) us -> us = Cs.map Value.type
  | [],us,r => by cases r;rfl
  | C :: r,us,h => by
    cases h with
    | cons h1 h2 => rw [ZZ h2,show _ = Value.type C from h1];rfl
inductive wc (K : PySem.W.Frag) (xs : List V) (H : Hp) (Q : VK) : Prop
  | mk (x T C : _) (_ : xs = [x,.ty C]) (_ : TyN K H x T) (_ : C ∈ xw) (_ : Q (.bl (qy T C)) H) : wc K xs H Q
theorem zT : CallR X (.builtin "isinstance") (wc X.K) := by
  intro pins s σ H xs us Q I r h
  obtain ⟨x,T,C,rfl,ty,hC,q⟩ := h
  obtain ⟨u,w',rfl,ru,rw'⟩ := vo r
  cases (show w' = Value.type C from rw')
  obtain ⟨P,hP,Z,hn⟩ := Qt I ru ty
  exact PySem.W.kia_one Z I.kIn hP (Qu T ty.mem C hC) hn fun tk => ⟨.bl _,H,I.tok tk,rfl,q⟩
inductive x6 (K : PySem.W.Frag) (xs : List V) (H : Hp) (Q : VK) : Prop
  | mk (x : V) (T : String) (p : Addr) (Cs : List String) (_ : xs = [x,.ref p]) (_ : TyN K H x T) (_ : H p = some (.tup (Cs.map V.ty))) (_ : (∀ C ∈ Cs,C ∈ xw)) (_ : Q (.bl (Cs.any fun C => qy T C)) H) : x6 K xs H Q
theorem jY : CallR X (.builtin "isinstance") (x6 X.K) := by
  intro pins s σ H xs us Q I r h
  obtain ⟨x,T,p,Cs,rfl,ty,hp,hC,q⟩ := h
  obtain ⟨u,w',rfl,ru,rw'⟩ := vo r
  cases (show w' = Value.ref p from rw')
  obtain ⟨P,hP,Z,hn⟩ := Qt I ru ty
  obtain ⟨its,r',⟨o,e1,e2,n,e3⟩,_⟩ := I.tuple (SqT.of hp)
  obtain ⟨c,dd,dt,sl⟩ := o
  have e2 : c = .type "tuple" := e2
  have e3 : dt = .seq its.toArray n := e3
  subst e2 e3
  rw [ZZ r'] at e1
  exact PySem.W.kia_tup Z I.kIn hP e1 (Zf ty.mem hC) hn fun tk => ⟨.bl _,H,I.tok tk,rfl,q⟩
end
inductive Dat where
  | non | bl (b : Bool) | int (i : Int) | str (x : Str) | lst (ds : List Dat) | tup (ds : List Dat)
mutual
def Rep (K : PySem.W.Frag) (H : Hp) : Dat -> V -> Prop
  | .non,v => v = .non
  | .bl b,v => v = .bl b
  | .int i,v => v = .int i
  | .str x,v => v = .str x
  | .lst ds,v => ∃ a xs,v = .ref a /\ SqL K H a xs /\ Reps K H ds xs
  | .tup ds,v => ∃ a xs,v = .ref a /\ SqT K H a xs /\ Reps K H ds xs
def Reps (K : PySem.W.Frag) (H : Hp) : List Dat -> List V -> Prop
  | [],xs => xs = []
  | d :: ds,xs => ∃ x r,xs = x :: r /\ Rep K H d x /\ Reps K H ds r
end
mutual
def Dat.dp : Dat -> Nat
  | .lst ds => Dat.dps ds + 1
  | .tup ds => Dat.dps ds + 1
  | _ => 0
def Dat.dps : List Dat -> Nat
  | [] => 0
  | d :: ds => max d.dp (Dat.dps ds)
end
theorem Same.sqT {K : PySem.W.Frag} {H H' : Hp} {a : Addr} {xs : List V} (e : Same H H') (h : SqT K H a xs) : SqT K H' a xs := by
  rcases h with (h | ⟨o,h⟩) | h
  · exact .inl (.inl (e _ _ h))
  · exact .inl (.inr ⟨o,e _ _ h⟩)
  · exact .inr h
mutual
theorem Rep.same {K : PySem.W.Frag} {H H' : Hp} (e : Same H H') : ∀ {d : Dat} {v : V},Rep K H d v -> Rep K H' d v
  | .non,_,h => h
  | .bl _,_,h => h
  | .int _,_,h => h
  | .str _,_,h => h
  | .lst _,_,h => by
    obtain ⟨a,xs,e1,e2,e3⟩ := h
    exact ⟨a,xs,e1,e.seq e2,Reps.same e e3⟩
  | .tup _,_,h => by
    obtain ⟨a,xs,e1,e2,e3⟩ := h
    exact ⟨a,xs,e1,e.sqT e2,Reps.same e e3⟩
theorem Reps.same {K : PySem.W.Frag} {H H' : Hp} (e : Same H H') : ∀ {ds : List Dat} {xs : List V},Reps K H ds xs -> Reps K H' ds xs
  | [],_,h => h
  | _ :: _,_,h => by
    obtain ⟨x,r,e1,e2,e3⟩ := h
    exact ⟨x,r,e1,Rep.same e e2,Reps.same e e3⟩
end
theorem Reps.len {K : PySem.W.Frag} {H : Hp} : ∀ {ds : List Dat} {xs : List V},Reps K H ds xs -> xs.length = ds.length
  | [],_,h => by rw [show _ = _ from h];rfl
  | _ :: _,_,h => by
    obtain ⟨x,r,e1,e2,e3⟩ := h
    rw [e1,List.length_cons,List.length_cons,Reps.len e3]
theorem Reps.get {K : PySem.W.Frag} {H : Hp} : ∀ {ds : List Dat} {xs : List V} {i : Nat} {x : V},Reps K H ds xs -> xs[i]? = some x -> ∃ d,ds[i]? = some d /\ Rep K H d x
  | [],_,_,_,h,e => by rw [show _ = _ from h] at e;simp at e
  | d :: ds,_,i,x,h,e => by
    obtain ⟨y,r,e1,e2,e3⟩ := h
    subst e1
    cases i with
    | zero => simp at e;subst e;exact ⟨d,rfl,e2⟩
    | succ i =>
      obtain ⟨d',q1,q2⟩ := Reps.get (i := i) e3 (by simpa using e)
      exact ⟨d',by simpa using q1,q2⟩
theorem zf {H : Hp} {a : Addr} {o : HO} (h : H a = none) : Same H (upd H a o) := fun b u e => by rw [zw (zr e h)];exact e
section
variable {X : Cx}
end
end L2
set_option Elab.async false
set_option linter.all false
set_option maxRecDepth 100000
set_option maxHeartbeats 4000000
namespace L2
open PySem PySem.Spec PyProof.Rows
section
variable {X : Cx}
end
structure Dfn (P : Program) (w : World) (K : PySem.W.Frag) (mg : Str -> Option Value) (base : Heap) (x : Str) (k : Nat) (ps : List Str) (sp : Sp) : Prop where
  ex : ∃ f fd,FnOk P w K mg base CX0 k f fd ps sp /\ mg x = some (.ref f) /\ PySem.W.keepIn K (.ref f) = true /\ Binds K fd ps []
theorem Dfn.imp {P : Program} {w : World} {K : PySem.W.Frag} {mg : Str -> Option Value} {base : Heap} {x : Str} {k : Nat} {ps : List Str} {sp sp' : Sp} (D : Dfn P w K mg base x k ps sp) (h : ∀ vs H Q E,sp' vs H Q E -> sp vs H Q E) : Dfn P w K mg base x k ps sp' := by
  obtain ⟨f,fd,F,r⟩ := D.ex
  exact ⟨f,fd,F.imp h,r⟩
section
variable {X : Cx} {x : Str} {k : Nat} {ps : List Str} {sp : Sp} {p pos : Pos} {e : Expr} {es : List Expr} {t : TA}
theorem zv (D : Dfn X.prog X.w X.K X.mg X.base x k ps sp) (hr : Room k X.A) (hg : Gl X x) (ha : PA X (e :: es) t) (hd : (x == ("__debug__" : Str)) = false := by decide)
    (hs : starEach (e :: es) X.env = (false,eval e X.env) :: starEach es X.env := by rfl) (hpl : (backTo pos (starEach es X.env)).any (·.1) = false := by rfl) : PE X (.Call (.Name x p) (e :: es) [] pos) (VU sp [] E0 t) := by
  obtain ⟨f,fd,F,hm,hk,hb⟩ := D.ex
  exact Vn F hr hg hm hk hb .nil YC ha hd hs hpl
end
end L2
set_option Elab.async false
set_option linter.all false
set_option maxRecDepth 100000
set_option maxHeartbeats 4000000
namespace L2
open PySem PySem.Spec PyProof.Rows
theorem ifT {b : Bool} {A B : Prop} (h : b = true) (q : A) : if b = true then A else B := by rw [if_pos h];exact q
theorem ifF {b : Bool} {A B : Prop} (h : b = false) (q : B) : if b = true then A else B := by rw [if_neg (by rw [h];exact Bool.false_ne_true)];exact q
theorem ZQ {K : PySem.W.Frag} {k1 k2 : Bool} {a1 a2 : Addr} {xs ys : List V} {g : TG} {tf : TT} {te : TE} {σ0 : St} {n : Nat} {R : List V -> Hp -> Prop} {H : Hp} (Pv : Nat -> List V -> Hp -> Prop) (h0 : Pv 0 [] H)
    (h1 : ∀ i zs H,Pv i zs H -> SqK K k1 H a1 xs /\ SqK K k2 H a2 ys)
    (hs : ∀ i x y zs H T,xs[i]? = some x -> ys[i]? = some y -> Pv i zs H -> H T = none -> g (.ref T) σ0 (upd H T (.tup [x,y])) fun σ4 H4 => σ4.drop n = σ0.drop n /\ tf σ4 H4 fun b H5 =>
      if b = true then te σ4 H5 fun v H6 => zs.length < sizeLine /\ Pv (i + 1) (zs ++ [v]) H6 else Pv (i + 1) zs H5)
    (hd : ∀ zs H,Pv (min xs.length ys.length) zs H -> zs.length <= sizeLine /\ R zs H) :
    ∃ W : Nat -> Nat -> List V -> Hp -> Prop,(∃ m,W 0 m [] H) /\ ∀ i m zs H2,W i m zs H2 ->
      ((Itz K k1 k2 a1 a2).stop i H2 /\ zs.length <= sizeLine /\ R zs H2) \/
      ((Itz K k1 k2 a1 a2).go i H2 /\ ∃ N : List V -> Hp -> Prop,(∀ zs H',N zs H' -> ∃ m',m' < m /\ W (i + 1) m' zs H') /\ ∀ x H3,(Itz K k1 k2 a1 a2).yld i H2 x H3 -> g x σ0 H3 fun σ4 H4 => σ4.drop n = σ0.drop n /\ tf σ4 H4 fun b H5 =>
        if b = true then te σ4 H5 fun y H6 => zs.length < sizeLine /\ N (zs ++ [y]) H6 else N zs H5) := by
  refine ⟨fun i m zs H2 => m = min xs.length ys.length - i /\ i <= min xs.length ys.length /\ Pv i zs H2,⟨_,rfl,Nat.zero_le _,h0⟩,?_⟩
  rintro i m zs H2 ⟨rfl,hi,p⟩
  obtain ⟨q1,q2⟩ := h1 i zs H2 p
  by_cases hlt : i < min xs.length ys.length
  · have l1 : i < xs.length := by omega
    have l2 : i < ys.length := by omega
    refine .inr ⟨⟨xs,ys,xs[i],ys[i],q1,q2,by simp [l1],by simp [l2]⟩,Pv (i + 1),fun zs' H' p' => ⟨_,by omega,rfl,hlt,p'⟩,fun x H3 y => ?_⟩
    obtain ⟨T,u,v,e1,hT,e2,y1,y2⟩ := y
    subst e1 e2
    exact hs i u v zs H2 T (y1 xs q1) (y2 ys q2) p hT
  · have e : i = min xs.length ys.length := by omega
    subst e
    obtain ⟨z1,z2⟩ := hd zs H2 p
    exact .inl ⟨⟨xs,ys,q1,q2,by omega⟩,z1,z2⟩
theorem xp {lo : Int} {N n : Nat} {g : TG} {tf : TT} {te : TE} {σ0 : St} {R : List V -> Hp -> Prop} {H : Hp} (Pv : Nat -> List V -> Hp -> Prop) (h0 : Pv 0 [] H)
    (hs : ∀ i zs H,i < N -> Pv i zs H -> g (.int (lo + i)) σ0 H fun σ4 H4 => σ4.drop n = σ0.drop n /\ tf σ4 H4 fun b H5 => if b = true then te σ4 H5 fun v H6 => zs.length < sizeLine /\ Pv (i + 1) (zs ++ [v]) H6 else Pv (i + 1) zs H5)
    (hd : ∀ zs H,Pv N zs H -> zs.length <= sizeLine /\ R zs H) :
    ∃ W : Nat -> Nat -> List V -> Hp -> Prop,(∃ m,W 0 m [] H) /\ ∀ i m zs H2,W i m zs H2 ->
      ((Itr lo N).stop i H2 /\ zs.length <= sizeLine /\ R zs H2) \/
      ((Itr lo N).go i H2 /\ ∃ M : List V -> Hp -> Prop,(∀ zs H',M zs H' -> ∃ m',m' < m /\ W (i + 1) m' zs H') /\ ∀ x H3,(Itr lo N).yld i H2 x H3 -> g x σ0 H3 fun σ4 H4 => σ4.drop n = σ0.drop n /\ tf σ4 H4 fun b H5 =>
        if b = true then te σ4 H5 fun y H6 => zs.length < sizeLine /\ M (zs ++ [y]) H6 else M zs H5) := by
  refine ⟨fun i m zs H2 => m = N - i /\ i <= N /\ Pv i zs H2,⟨_,rfl,Nat.zero_le _,h0⟩,?_⟩
  rintro i m zs H2 ⟨rfl,hi,p⟩
  by_cases hlt : i < N
  · refine .inr ⟨hlt,Pv (i + 1),fun zs' H' p' => ⟨_,by omega,rfl,hlt,p'⟩,fun x H3 y => ?_⟩
    obtain ⟨e1,e2⟩ := y
    subst e1 e2
    exact hs i zs _ hlt p
  · have e : i = N := by omega
    subst e
    obtain ⟨z1,z2⟩ := hd zs H2 p
    exact .inl ⟨Nat.le_refl _,z1,z2⟩
def j9 (sn on : List (Str × NameKind)) (N own fr : List Str) (js : List Nat) : Bool :=
  vY sn on N fr js && own.all (fun x => sn.lookup x == some .local) && decide (own ++ fr).Nodup
theorem jq {sn on : List (Str × NameKind)} {N own fr : List Str} {js : List Nat} (h : j9 sn on N own fr js = true) : vY sn on N fr js = true /\ (∀ x ∈ own,sn.lookup x = some .local) /\ (own ++ fr).Nodup := by
  unfold j9 at h
  rw [Bool.and_eq_true,Bool.and_eq_true,List.all_eq_true] at h
  exact ⟨h.1.1,fun x hx => by simpa using h.1.2 x hx,of_decide_eq_true h.2⟩
section
variable {X : Cx} {elt iter : Expr} {ifs : List Expr} {scope : Scope} {pos px py tp : Pos} {wi : TI} {tf : TT} {te : TE} {x y : Str} {kk : Nat}
theorem jh {N' : List Str} {C : Addr} {s : Shared} {H : Hp} {ex : List Addr} {i : Nat} (hl : scope.names.lookup x = some .local) (nd : N'.Nodup) (hi : N'[i]? = some x) : PG (zy X N' scope C s H ex) (.Name x px) (jo i) :=
  zV (X := zy X N' scope C s H ex) nd hi (.inl (lookup_relabel_local hl)) (.inr (lookup_relabel_local hl))
theorem jv (fr : List Str) (js : List Nat) (hc : X.calm = true) (hk : scope.kind = .function) (hb : j9 scope.names X.env.scope.names X.N [x] fr js = true) (hi : PI X (.Name x px) iter wi)
    (hf : ∀ C s H ex,PF (zy X ([x] ++ fr) scope C s H ex) ifs tf) (he : ∀ C s H ex,PE (zy X ([x] ++ fr) scope C s H ex) elt te)
    (hs : ∀ x,foldedSetIterable iter X.env x = pure x := by intro _;rfl) : PE X (.ListComp elt [⟨.Name x px,iter,ifs,0⟩] scope pos) (tLC wi 1 js (jo 0) tf te) := by
  obtain ⟨h1,h2,h3⟩ := jq hb
  exact Wb [x] fr js hc hk h1 hi (fun C s H ex => jh (h2 x (by simp)) h3 rfl) hf he hs
theorem ju (fr : List Str) (js : List Nat) (hc : X.calm = true) (hk : scope.kind = .function) (hb : j9 scope.names X.env.scope.names X.N [x,y] fr js = true) (hi : PI X (.Tuple [.Name x px,.Name y py] kk tp) iter wi)
    (hf : ∀ C s H ex,PF (zy X ([x,y] ++ fr) scope C s H ex) ifs tf) (he : ∀ C s H ex,PE (zy X ([x,y] ++ fr) scope C s H ex) elt te)
    (hs : ∀ x,foldedSetIterable iter X.env x = pure x := by intro _;rfl) : PE X (.ListComp elt [⟨.Tuple [.Name x px,.Name y py] kk tp,iter,ifs,0⟩] scope pos) (tLC wi 2 js (Jp X.K 2 (j4 (jo 0) (j4 (jo 1) XH))) tf te) := by
  obtain ⟨h1,h2,h3⟩ := jq hb
  refine Wb [x,y] fr js hc hk h1 hi (fun C s H ex => ?_) hf he hs
  exact qN (X := zy X ([x,y] ++ fr) scope C s H ex) hc (zK (jh (h2 x (by simp)) h3 rfl) (zK (jh (h2 y (by simp)) h3 rfl) qC))
end
def tWk (t : TS) : TS := fun D σ H => ∃ J : St -> Hp -> Prop,t { D with nx := J } σ H /\ ∀ σ' H',J σ' H' -> D.nx σ' H'
theorem yb {X : Cx} {st : Stmt} {t : TS} (h : PS X st t) : PS X st (tWk t) := by
  intro pins s σ H D I hw
  obtain ⟨J,q1,q2⟩ := hw
  refine thn (h pins s σ H _ I q1) fun f s1 q => ?_
  cases f with
  | next => obtain ⟨σ',H',I',z⟩ := q;exact ⟨σ',H',I',q2 σ' H' z⟩
  | brk => exact q
  | cont => exact q
  | ret u => exact q
def Dat.ok : Nat -> Dat -> Prop
  | n + 1,.lst ds => ds.length <= 1000000 /\ ∀ d ∈ ds,Dat.ok n d
  | n + 1,.tup ds => ds.length <= 1000000 /\ ∀ d ∈ ds,Dat.ok n d
  | 0,.lst _ => False
  | 0,.tup _ => False
  | _,_ => True
def Dat.tyN : Dat -> String
  | .non => "NoneType" | .bl _ => "bool" | .int _ => "int" | .str _ => "str" | .lst _ => "list" | .tup _ => "tuple"
theorem Rep.ty {K : PySem.W.Frag} {H : Hp} {d : Dat} {v : V} (h : Rep K H d v) : TyN K H v d.tyN := by
  cases d with
  | non => rw [show v = _ from h];exact rfl
  | bl b => rw [show v = _ from h];exact rfl
  | int b => rw [show v = _ from h];exact rfl
  | str b => rw [show v = _ from h];exact rfl
  | lst ds => obtain ⟨a,xs,rfl,e,_⟩ := h;exact .inl ⟨rfl,xs,e⟩
  | tup ds => obtain ⟨a,xs,rfl,e,_⟩ := h;exact .inr ⟨rfl,xs,e⟩
end L2
set_option Elab.async false
set_option linter.all false
set_option maxRecDepth 100000
set_option maxHeartbeats 4000000
namespace L2
open PySem PySem.Spec PyProof.Rows
mutual
def Dat.py : Dat -> PyData
  | .non => .none
  | .bl b => .bool b
  | .int i => .int i
  | .str x => .str x
  | .lst ds => .list (Dat.pys ds)
  | .tup ds => .tuple (Dat.pys ds)
def Dat.pys : List Dat -> List PyData
  | [] => []
  | d :: ds => d.py :: Dat.pys ds
end
mutual
def Dat.shw : Dat -> Bool
  | .int i => decide (i.natAbs < 1000000000000)
  | .str x => x.cps.toList.all fun c => decide (c < 1000000)
  | .lst ds => Dat.shws ds
  | .tup ds => Dat.shws ds
  | _ => true
def Dat.shws : List Dat -> Bool
  | [] => true
  | d :: ds => d.shw && Dat.shws ds
end
mutual
def Dat.blk : Dat -> Nat
  | .str x => x.cps.size
  | .lst ds => Dat.blks ds
  | .tup ds => Dat.blks ds
  | _ => 0
def Dat.blks : List Dat -> Nat
  | [] => 0
  | d :: ds => d.blk + 1 + Dat.blks ds
end
mutual
theorem Dat.py_blk : ∀ d : Dat,d.py.bulk = d.blk
  | .non => rfl
  | .bl _ => rfl
  | .int _ => rfl
  | .str _ => rfl
  | .lst ds => Dat.pys_blk ds
  | .tup ds => Dat.pys_blk ds
theorem Dat.pys_blk : ∀ ds : List Dat,PyData.bulkAll (Dat.pys ds) = Dat.blks ds
  | [] => rfl
  | d :: ds => by
    show PyData.bulk d.py + 1 + PyData.bulkAll (Dat.pys ds) = d.blk + 1 + Dat.blks ds
    rw [Dat.py_blk d,Dat.pys_blk ds]
end
theorem yh {n : Nat} (h : n < 1000000000000) : n.log2 < 1920 := by
  by_cases h0 : n = 0
  · rw [h0];decide
  · exact Nat.lt_trans ((Nat.log2_lt h0).mpr (Nat.lt_trans h (by decide : 1000000000000 < 2 ^ 40))) (by decide)
mutual
theorem Dat.py_short : ∀ d : Dat,d.shw = true -> d.py.leavesShort 13 = true /\ d.py.showable = true /\ d.py.hasDict = false
  | .non,_ => ⟨rfl,rfl,rfl⟩
  | .bl _,_ => ⟨rfl,rfl,rfl⟩
  | .int i,h => by
    have h' : i.natAbs < 1000000000000 := of_decide_eq_true h
    refine ⟨decide_eq_true (PyData.shown_int_le h'),decide_eq_true (yh h'),rfl⟩
  | .str x,h => by
    refine ⟨?_,rfl,rfl⟩
    have h' : (x.cps.toList.all fun c => decide (c < 1000000)) = true := h
    show (x.cps.toList.all fun c => decide (c < 16 ^ 8)) = true
    rw [List.all_eq_true] at h' ⊢
    intro c hc
    have := of_decide_eq_true (h' c hc)
    exact decide_eq_true (by omega)
  | .lst ds,h => Dat.pys_short ds h
  | .tup ds,h => Dat.pys_short ds h
theorem Dat.pys_short : ∀ ds : List Dat,Dat.shws ds = true -> PyData.leavesShortAll 13 (Dat.pys ds) = true /\ PyData.showableAll (Dat.pys ds) = true /\ PyData.hasDictAll (Dat.pys ds) = false
  | [],_ => ⟨rfl,rfl,rfl⟩
  | d :: ds,h => by
    have h' : (d.shw && Dat.shws ds) = true := h
    rw [Bool.and_eq_true] at h'
    obtain ⟨a1,a2,a3⟩ := Dat.py_short d h'.1
    obtain ⟨b1,b2,b3⟩ := Dat.pys_short ds h'.2
    refine ⟨?_,?_,?_⟩
    · show (PyData.leavesShort 13 d.py && PyData.leavesShortAll 13 (Dat.pys ds)) = true
      rw [a1,b1];rfl
    · show (PyData.showable d.py && PyData.showableAll (Dat.pys ds)) = true
      rw [a2,b2];rfl
    · show (PyData.hasDict d.py || PyData.hasDictAll (Dat.pys ds)) = false
      rw [a3,b3];rfl
end
mutual
theorem Rep.reads {X : Cx} {pins : List (Addr × Obj)} {σ : St} {H : Hp} {s : Shared} (I : Inv X pins σ H s) : ∀ {d : Dat} {v : V} {u : Value},Rep X.K H d v -> RelV v u -> ∃ as,Reads s.heap u d.py as
  | .non,v,u,h,r => by cases (show v = _ from h);cases (show u = _ from r);exact ⟨_,.none⟩
  | .bl b,v,u,h,r => by cases (show v = _ from h);cases (show u = _ from r);exact ⟨_,.bool b⟩
  | .int i,v,u,h,r => by cases (show v = _ from h);obtain ⟨t,rfl⟩ := r;exact ⟨_,.int i t⟩
  | .str x,v,u,h,r => by cases (show v = _ from h);obtain ⟨t,rfl⟩ := r;exact ⟨_,.str x t⟩
  | .lst ds,v,u,h,r => by
    obtain ⟨a,xs,rfl,hx,hr⟩ := h
    cases (show u = _ from r)
    obtain ⟨its,rv,pl,_⟩ := I.list hx
    obtain ⟨o,e,c,n,dd⟩ := pl.isList
    obtain ⟨as,q⟩ := Reps.reads I hr rv
    exact ⟨_,.list e c dd (by simpa using q)⟩
  | .tup ds,v,u,h,r => by
    obtain ⟨a,xs,rfl,hx,hr⟩ := h
    cases (show u = _ from r)
    obtain ⟨its,rv,⟨o,e,c,n,dd⟩,_⟩ := I.tuple hx
    obtain ⟨as,q⟩ := Reps.reads I hr rv
    exact ⟨_,.tuple e c dd (by simpa using q)⟩
theorem Reps.reads {X : Cx} {pins : List (Addr × Obj)} {σ : St} {H : Hp} {s : Shared} (I : Inv X pins σ H s) : ∀ {ds : List Dat} {xs : List V} {us : List Value},Reps X.K H ds xs -> Vals xs us -> ∃ as,ReadsAll s.heap us (Dat.pys ds) as
  | [],xs,us,h,r => by cases (show xs = _ from h);cases r;exact ⟨_,.nil⟩
  | d :: ds,xs,us,h,r => by
    obtain ⟨x,r',rfl,h1,h2⟩ := h
    cases r with
    | cons r1 r2 =>
      obtain ⟨as,q1⟩ := Rep.reads I h1 r1
      obtain ⟨bs,q2⟩ := Reps.reads I h2 r2
      exact ⟨_,.cons q1 q2⟩
end
section
variable {X : Cx}
inductive xW (K : PySem.W.Frag) (xs : List V) (H : Hp) (Q : VK) : Prop
  | mk (p : Addr) (ns : List Int) (_ : xs = [.ref p]) (_ : SqL K H p (ns.map V.int)) (_ : (∀ z ∈ ns,0 <= z /\ z <= 1000000)) (_ : ns.length <= 100000) (_ : Q (.int ns.sum) H) : xW K xs H Q
theorem Jt (hc : X.calm = true) : CallR X (.builtin "sum") (xW X.K) := by
  intro pins s σ H xs us Q I r h
  obtain ⟨p,ns,rfl,hq,hz,hn,q⟩ := h
  obtain ⟨u,rfl,ru⟩ := ja r
  cases (show u = _ from ru)
  obtain ⟨its,rv,pl,_⟩ := I.list hq
  have hl := pl.isList
  have hpl : p ≠ s.heap.objs.size := by
    obtain ⟨o,e,_⟩ := hl
    exact Nat.ne_of_lt (Heap.lt_size e)
  have hlen : its.length = ns.length := by have := rv.length;rw [List.length_map] at this;omega
  have hps : ∀ j,j <= ns.length -> 0 <= (ns.take j).sum /\ (ns.take j).sum <= 1000000 * (j : Int) := by
    intro j
    induction j with
    | zero => intro _;simp
    | succ j ih =>
      intro hj
      have := ih (by omega)
      have e : ns.take (j + 1) = ns.take j ++ [ns[j]'(by omega)] := by rw [List.take_append_getElem]
      have b := hz (ns[j]'(by omega)) (List.getElem_mem _)
      rw [e,List.sum_append]
      simp only [List.sum_cons,List.sum_nil]
      constructor
      · omega
      · have : (1000000 : Int) * ((j + 1 : Nat) : Int) = 1000000 * (j : Int) + 1000000 := by omega
        omega
  refine call_sum_walk (wpAny_pyIter_list hl ?_)
  refine ⟨s.heap.objs.size,_,_,_,_,_,fun i => ns.getD i 0,rfl,Walks.list (prog := X.prog) (w := X.w) (A := X.A.in1) (I.ok.hd hc) _ p hpl its.toArray,⟨⟨_,Heap.get?_push_size _ rfl,rfl,rfl⟩,hl.push _⟩,fun b hb => ?_,fun i v hP => ?_,fun j hj => ?_,fun h' tk t' hk => ?_⟩
  · have hz' : (s.heap.push { cls := .type "list_iterator",data := .fields #[.ref p,.int 0 0] }).objs.size = s.heap.objs.size + 1 := Heap.size_push ..
    show b < (s.heap.push _).objs.size
    rw [hz']
    rcases List.mem_cons.mp hb with z | z
    · rw [z];exact Nat.lt_succ_self _
    · rw [List.mem_singleton.mp z]
      obtain ⟨o,e,_⟩ := hl
      exact Nat.lt_succ_of_lt (Heap.lt_size e)
  · have e1 : its[i]? = some v := by simpa using hP
    have hi : i < ns.length := by have h1 := (List.getElem?_eq_some_iff.mp e1).1;omega
    obtain ⟨u',eu,ru'⟩ := rv.get (i := i) (x := .int ns[i]) (by simp [hi])
    rw [e1] at eu;cases eu
    obtain ⟨t,e⟩ := ru'
    exact ⟨t,by rw [e];simp [hi]⟩
  · have hj' : j < ns.length := by simp only [List.size_toArray] at hj;omega
    have a1 := hz ns[j] (List.getElem_mem hj')
    have a2 := hps (j + 1) (by omega)
    have e63 : (2 : Int) ^ 63 = 9223372036854775808 := by decide
    refine ⟨?_,?_⟩
    · show InLong (ns.getD j 0)
      rw [show ns.getD j 0 = ns[j] by simp [hj']]
      unfold InLong
      rw [e63];omega
    · rw [preSum_getD]
      unfold InLong
      rw [e63]
      have : ((j + 1 : Nat) : Int) <= 100000 := by omega
      omega
  · have k : ∀ b o,s.heap.get? b = some o -> h'.get? b = some o := fun b o e => hk b o (by simp;exact Nat.ne_of_lt (Heap.lt_size e)) (Heap.get?_push_of_some _ e)
    refine ⟨.int ns.sum,H,I.kept k,⟨t',?_⟩,q⟩
    rw [preSum_getD]
    have : ns.take its.toArray.size = ns := by rw [List.size_toArray,hlen,List.take_length]
    rw [this]
end
end L2
set_option Elab.async false
set_option linter.all false
set_option maxRecDepth 100000
set_option maxHeartbeats 4000000
namespace L2
open PySem PySem.Spec PyProof.Rows
end L2
set_option Elab.async false
set_option linter.all false
set_option maxRecDepth 100000
set_option maxHeartbeats 4000000
namespace L2
open PySem PySem.Spec PyProof.Rows
section
variable {X : Cx}
end
section
variable {X : Cx} {tg : Expr}
end
section
variable {X : Cx}
inductive Qm (x : V) (vs : List V) (H : Hp) (Q : VK) : Prop
  | mk (l : Addr) (xs : List V) (i : Int) (y : V) (_ : x = .ref l) (_ : vs = [.int i,y]) (_ : H l = some (.lst xs)) (_ : 0 <= i) (_ : i < 2 ^ 62) (_ : xs.length < sizeLine) (_ : Q .non (upd H l (.lst (xs.take i.toNat ++ y :: xs.drop i.toNat)))) : Qm  x vs H Q
theorem wH : MtM X "list.insert" Qm := by
  intro pins s σ H x vs v us Q I rx rv h
  obtain ⟨l,xs,i,y,rfl,rfl,hH,i0,i1,hz,q⟩ := h
  cases rx
  obtain ⟨u1,u2,rfl,r1,r2⟩ := vo rv
  obtain ⟨t,rfl⟩ := r1
  obtain ⟨z,its,n,r,hl,e⟩ := I.lstM hH
  have hlen := r.length
  refine call_meets F.slot_list_insert ⟨_,e,rfl⟩ F.entry_list_insert (F.args_list_insert_3 _ _ _) (AutoListH.list_insert_list_int_val_1 l its.toArray n i t u2 ?_ (by rw [List.size_toArray];omega)) ⟨e,?_⟩
  · unfold Builtin.List.listFitsIndex
    simp
    omega
  refine ⟨.non,_,I.lset (its' := its.take i.toNat ++ u2 :: its.drop i.toNat) hH e ?_ ((r.take _).append (.cons r2 (r.drop _))) ?_,rfl,q⟩
  · show (have k := if i < 0 then (i + ((its.toArray.size : Nat) : Int)).toNat else min i.toNat its.toArray.size;(its.toArray.extract 0 k).push u2 ++ its.toArray.extract k) = _
    have hk : (if i < 0 then (i + ((its.toArray.size : Nat) : Int)).toNat else min i.toNat its.toArray.size) = min i.toNat its.length := by
      rw [if_neg (by omega),List.size_toArray]
    simp only [hk]
    apply Array.toList_inj.mp
    simp
    by_cases hle : i.toNat <= its.length
    · have h1 : (its.drop i.toNat).take (its.length - i.toNat) = its.drop i.toNat := List.take_of_length_le (by rw [List.length_drop];omega)
      rw [Nat.min_eq_left hle,h1]
    · have h1 : its.length <= i.toNat := by omega
      rw [Nat.min_eq_right h1,List.take_of_length_le h1,List.drop_of_length_le h1]
      simp
  · simp only [List.length_append,List.length_take,List.length_cons,List.length_drop]
    omega
theorem ww {xs : List V} {its : List Value} (r : Vals xs its) : ∀ js : List Nat,Vals (js.filterMap (xs[·]?)) (js.filterMap (its[·]?))
  | [] => .nil
  | j :: js => by
    have ih := ww r js
    have hl := r.length
    cases h : xs[j]? with
    | none =>
      have h' : its[j]? = none := by
        rw [List.getElem?_eq_none_iff] at h ⊢;omega
      rw [List.filterMap_cons_none h,List.filterMap_cons_none h']
      exact ih
    | some x =>
      obtain ⟨u,e,ru⟩ := r.get h
      rw [List.filterMap_cons_some h,List.filterMap_cons_some e]
      exact .cons ru ih
variable {e st : Expr} {te : TE} {tk : TO} {pos p2 : Pos}
theorem Jf (he : PE X e te) (hk : PO X (some st) tk) : PE X (.Subscript e (.Slice none none (some st) p2) pos) (fun σ H Q => te σ H fun x H1 => tk σ H1 fun k H2 => ∃ a xs,x = .ref a /\ k ≠ some 0 /\ SqL X.K H2 a xs /\
    ∀ ys p,(∀ y ∈ ys,y ∈ xs) -> ys.length <= xs.length -> H2 p = none -> Q (.ref p) (upd H2 p (.lst ys))) := by
  intro pins s σ H Q I h
  refine Subscript_ (thn (he pins s σ H _ I h) fun v s1 ⟨x,H1,I1,r1,q1⟩ => ?_)
  refine wpAny_Slice ?_
  rw [evalPart_none]
  refine wpAny_pure (wpAny_pure ?_)
  refine thn (hk pins s1 σ H1 _ I1 q1) fun vk s3 ⟨k,H3,I3,pk,q3⟩ => ?_
  obtain ⟨a,xs,rfl,k0,hx,q⟩ := q3
  cases r1
  have I4 : Inv X pins σ H3 { s3 with heap := s3.heap.push { cls := .type "slice",data := .fields #[.none,.none,vk] } } := I3.kept (t' := s3.toks) fun b ob q => Heap.get?_push_of_some _ q
  obtain ⟨its,r,ht,hz⟩ := I4.list hx
  have hlen := r.length
  show wpAny (model X.prog X.w) X.A (subscriptTail e (.Slice none none (some st) p2) (.ref a) (.ref s3.heap.objs.size)) (EP X pins σ Q) X.xe { s3 with heap := s3.heap.push { cls := .type "slice",data := .fields #[.none,.none,vk] } }
  refine tail_any (ops := [.ref a,.ref s3.heap.objs.size]) (T := "list") ht.isList.typeIs slot_list_getitem.lookup ?_ (by with_unfolding_all rfl)
  refine wpAny_getItem_list_slice (lo := none) (hi := none) (st := k) ht.isList (Heap.IsSliceOf.new ..) .none .none pk k0 ?_ (by rw [List.size_toArray] <;> omega)
  have hsz := slicePick_size_le its.toArray none none k
  unfold slicePick at hsz ⊢
  generalize (sliceRange (sliceBounds none none k its.toArray.size).1 (sliceBounds none none k its.toArray.size).2.1 (sliceBounds none none k its.toArray.size).2.2) = js at hsz ⊢
  have e1 : js.filterMap (its.toArray[·]?) = js.filterMap (its[·]?) := by simp
  rw [e1] at hsz ⊢
  have rv := ww r js
  have hl2 := rv.length
  simp only [List.size_toArray] at hsz
  refine ⟨.ref _,_,I4.laid (t' := s3.toks) (o := .lst (js.filterMap (xs[·]?))) (fun b ob q => Heap.get?_push_of_some _ q) (Nat.le_refl _) ?_,rfl,q _ _ (fun y hy => ?_) (by omega) (I4.hok.fresh (Nat.le_refl _))⟩
  · exact ⟨by omega,_,0,rv,Heap.get?_push_size _ rfl⟩
  · obtain ⟨j,_,hj⟩ := List.mem_filterMap.mp hy
    exact List.mem_of_getElem? hj
end
end L2
set_option Elab.async false
set_option linter.all false
set_option maxRecDepth 100000
set_option maxHeartbeats 4000000
namespace L2
open PySem PySem.Spec PyProof.Rows
theorem jd {K : PySem.W.Frag} {a : Addr} {xs : List V} {g : TG} {tf : TT} {te : TE} {σ0 : St} {n : Nat} {R : List V -> Hp -> Prop} {H : Hp} (Pv : Nat -> List V -> Hp -> Prop) (h0 : Pv 0 [] H)
    (h1 : ∀ i zs H,Pv i zs H -> SqL K H a xs)
    (hs : ∀ i x zs H,xs[i]? = some x -> Pv i zs H -> g x σ0 H fun σ4 H4 => σ4.drop n = σ0.drop n /\ tf σ4 H4 fun b H5 =>
      if b = true then te σ4 H5 fun v H6 => zs.length < sizeLine /\ Pv (i + 1) (zs ++ [v]) H6 else Pv (i + 1) zs H5)
    (hd : ∀ zs H,Pv xs.length zs H -> zs.length <= sizeLine /\ R zs H) :
    ∃ W : Nat -> Nat -> List V -> Hp -> Prop,(∃ m,W 0 m [] H) /\ ∀ i m zs H2,W i m zs H2 ->
      ((Itl K a).stop i H2 /\ zs.length <= sizeLine /\ R zs H2) \/
      ((Itl K a).go i H2 /\ ∃ N : List V -> Hp -> Prop,(∀ zs H',N zs H' -> ∃ m',m' < m /\ W (i + 1) m' zs H') /\ ∀ x H3,(Itl K a).yld i H2 x H3 -> g x σ0 H3 fun σ4 H4 => σ4.drop n = σ0.drop n /\ tf σ4 H4 fun b H5 =>
        if b = true then te σ4 H5 fun y H6 => zs.length < sizeLine /\ N (zs ++ [y]) H6 else N zs H5) := by
  refine ⟨fun i m zs H2 => m = xs.length - i /\ i <= xs.length /\ Pv i zs H2,⟨_,rfl,Nat.zero_le _,h0⟩,?_⟩
  rintro i m zs H2 ⟨rfl,hi,p⟩
  have q := h1 i zs H2 p
  by_cases hlt : i < xs.length
  · refine .inr ⟨⟨xs,xs[i],q,by simp [hlt]⟩,Pv (i + 1),fun zs' H' p' => ⟨_,by omega,rfl,hlt,p'⟩,fun x H3 y => ?_⟩
    obtain ⟨e,y⟩ := y
    subst e
    exact hs i x zs _ (y xs q) p
  · have e : i = xs.length := by omega
    subst e
    obtain ⟨z1,z2⟩ := hd zs H2 p
    exact .inl ⟨⟨xs,q,Nat.le_refl _⟩,z1,z2⟩
inductive DV (K : PySem.W.Frag) (F : Hp) (n : Nat) : V -> Prop
  | non : DV K F n .non
  | bl (b : Bool) : DV K F n (.bl b)
  | int (i : Int) (h : i.natAbs <= 10000000000 + n) : DV K F n (.int i)
  | str (x : Str) (h : x.length <= n) : DV K F n (.str x)
  | lst (a : Addr) (xs : List V) (h : SqL K F a xs) (hl : xs.length <= n) (all : ∀ x ∈ xs,DV K F n x) : DV K F n (.ref a)
  | tup (a : Addr) (xs : List V) (h : SqT K F a xs) (hl : xs.length <= n) (all : ∀ x ∈ xs,DV K F n x) : DV K F n (.ref a)
theorem DV.up {K : PySem.W.Frag} {F F' : Hp} {n m : Nat} {v : V} (h : DV K F n v) (s : Same F F') (hm : n <= m) : DV K F' m v := by
  induction h with
  | non => exact .non
  | bl b => exact .bl b
  | int i h => exact .int i (by omega)
  | str x h => exact .str x (by omega)
  | lst a xs h hl all ih => exact .lst a xs (s.seq h) (by omega) ih
  | tup a xs h hl all ih => exact .tup a xs (s.sqT h) (by omega) ih
def WX (ex : List Addr) (H : Hp) : Hp := fun c => if c ∈ ex then none else H c
theorem WX.le {ex : List Addr} {H : Hp} : Same (WX ex H) H := fun c o e => by
  unfold WX at e
  split at e
  · cases e
  · exact e
theorem WX.new {ex : List Addr} {H : Hp} {p : Addr} {o : HO} (h : H p = none) : Same (WX ex H) (WX ex (upd H p o)) := fun c u e => by
  unfold WX at e ⊢
  split at e
  · cases e
  · rename_i hc
    rw [if_neg hc,zw (zr e h)]
    exact e
theorem WX.same {ex : List Addr} {H H' : Hp} (h : Same H H') : Same (WX ex H) (WX ex H') := fun c u e => by
  unfold WX at e ⊢
  split at e
  · cases e
  · rename_i hc
    rw [if_neg hc]
    exact h c u e
theorem WX.cons {ex : List Addr} {H : Hp} {m : Addr} : Same (WX (m :: ex) H) (WX ex H) := fun c u e => by
  unfold WX at e ⊢
  split at e
  · cases e
  · rename_i hc
    rw [if_neg (fun z => hc (List.mem_cons_of_mem _ z))]
    exact e
theorem WX.fresh {ex : List Addr} {H : Hp} {m : Addr} (h : H m = none) (o : HO) : Same (WX ex H) (WX (m :: ex) (upd H m o)) := fun c u e => by
  unfold WX at e ⊢
  split at e
  · cases e
  · rename_i hc
    have hm : c ≠ m := zr e h
    rw [if_neg (fun z => (List.mem_cons.mp z).elim hm hc),zw hm]
    exact e
theorem WX.put {ex : List Addr} {H : Hp} {m : Addr} {o : HO} (h : m ∈ ex) : Same (WX ex H) (WX ex (upd H m o)) := fun c u e => by
  unfold WX at e ⊢
  split at e
  · cases e
  · rename_i hc
    rw [if_neg hc,zw (show c ≠ m from fun z => hc (by rw [z];exact h))]
    exact e
theorem WX.at {ex : List Addr} {H : Hp} {c : Addr} {o : HO} (h : c ∉ ex) (e : H c = some o) : WX ex H c = some o := by
  unfold WX;rw [if_neg h];exact e
theorem ZS {i : Int} (h : i.natAbs < 1000000000000) : (Str.ofString (toString i)).length <= 13 := PyData.shown_int_le h
end L2
set_option Elab.async false
set_option linter.all false
set_option maxRecDepth 100000
set_option maxHeartbeats 4000000
namespace L2
open PySem PySem.Spec PyProof.Rows
def Qr : Expr -> Bool
  | .Starred _ _ => false
  | _ => true
theorem zB {e : Expr} {es : List Expr} {env : Env} (h : Qr e = true) : starEach (e :: es) env = (false,eval e env) :: starEach es env := by
  cases e <;> first | rfl | cases h
theorem pa5 {X : Cx} {e0 e1 e2 e3 e4 : Expr} {t0 t1 t2 t3 t4 : TE} (h0 : PE X e0 t0) (h1 : PE X e1 t1) (h2 : PE X e2 t2) (h3 : PE X e3 t3) (h4 : PE X e4 t4) (h : ([e0,e1,e2,e3,e4]).all Qr = true := by rfl) : PA X [e0,e1,e2,e3,e4] (qf t0 (qf t1 (qf t2 (qf t3 (qf t4 X8))))) := by
  have hz := List.all_eq_true.mp h
  exact (ze h0 (ze h1 (ze h2 (ze h3 (ze h4 zg (zB (hz _ (by simp)))) (zB (hz _ (by simp)))) (zB (hz _ (by simp)))) (zB (hz _ (by simp)))) (zB (hz _ (by simp))))
theorem pa6 {X : Cx} {e0 e1 e2 e3 e4 e5 : Expr} {t0 t1 t2 t3 t4 t5 : TE} (h0 : PE X e0 t0) (h1 : PE X e1 t1) (h2 : PE X e2 t2) (h3 : PE X e3 t3) (h4 : PE X e4 t4) (h5 : PE X e5 t5) (h : ([e0,e1,e2,e3,e4,e5]).all Qr = true := by rfl) : PA X [e0,e1,e2,e3,e4,e5] (qf t0 (qf t1 (qf t2 (qf t3 (qf t4 (qf t5 X8)))))) := by
  have hz := List.all_eq_true.mp h
  exact (ze h0 (ze h1 (ze h2 (ze h3 (ze h4 (ze h5 zg (zB (hz _ (by simp)))) (zB (hz _ (by simp)))) (zB (hz _ (by simp)))) (zB (hz _ (by simp)))) (zB (hz _ (by simp)))) (zB (hz _ (by simp))))
end L2
set_option Elab.async false
set_option linter.all false
set_option maxRecDepth 100000
set_option maxHeartbeats 4000000
namespace L2
open PySem PySem.Spec PyProof.Rows
section
variable {X : Cx} {elt tg iter : Expr} {ifs : List Expr} {scope : Scope} {pos : Pos} {wi : TI} {g : TG} {tf : TT} {te : TE}
theorem V9 {y : Str} {py spos : Pos} {g2 : TG} (own fr : List Str) (js : List Nat) (hc : X.calm = true) (hk : scope.kind = .function) (hb : vY scope.names X.env.scope.names X.N fr js = true) (hi : PI X tg iter wi)
    (hg : ∀ C s H ex,PG (zy X (own ++ fr) scope C s H ex) tg g) (hf : ∀ C s H ex,PF (zy X (own ++ fr) scope C s H ex) ifs tf) (he : ∀ C s H ex,PE (zy X (own ++ fr) scope C s H ex) elt te)
    (hg2 : PG X (.Name y py) g2) (hsw : swapsWith (.ListComp elt [⟨tg,iter,ifs,0⟩] scope pos) (some (.Name y py)) spos.line X.env = pure true := by rfl)
    (hs : ∀ x,foldedSetIterable iter X.env x = pure x := by intro _;rfl) : PS X (.Assign [.Name y py] (.ListComp elt [⟨tg,iter,ifs,0⟩] scope pos) spos) (JK (tLC wi own.length js g tf te) g2) := by
  intro pins s σ H Dn I h
  have B := vX hb
  have hasF : ∀ y ∈ scope.names,y.2 = NameKind.free -> ∃ c,X.env.cells.lookup y.1 = some c := fun y hy e => I.ok.has y.1 (B.free y hy e)
  rw [exec_Assign_Name_used _ _ _ _ hsw]
  refine wpAny_bind (wpAny_standAt (wpAny_bind ?_))
  show wpAny _ X.A (do let _ <- comprehension (.ListComp elt [⟨tg,iter,ifs,0⟩] scope pos) scope X.env _ (newList []) false (eval iter X.env) (some (assign (.Name y py) X.env))) _ _ s
  refine wpAny_bind (wpAny_mono (wpAny_comprehension_free (use := some (assign (.Name y py) X.env)) (Q := fun _ s' => ∃ σ' H',Inv X pins σ' H' s' /\ Dn.nx σ' H') rfl hs (yq hasF) hk (fun y hy e => B.loc y hy e) (thn (hi pins s σ H _ I h) fun v s1 h1 => thn h1 fun itv s2 h2 => ?_)) (fun _ s' hq => wpAny_pure (wpAny_pure hq)) fun _ _ e => e)
  obtain ⟨it,fp,tn,J,H2,e,I2,T,st2,f2,W,⟨m0,w0⟩,turn⟩ := h2
  subst e
  have fl : ∀ b ∈ fp,b < s2.heap.objs.size := fun b hb => let ⟨o,e,_⟩ := T.obj _ _ st2 b hb;Heap.lt_size e
  refine wpAny_newObj_type (wpAny_newFunctionEnv B.cell (by intro y hy;simp at hy) (fun h1 hns hsb => ?_) hk)
  dsimp only at hns hsb ⊢
  generalize e3 : s2.heap.push { cls := .type "list",dict := none,data := .seq ([] : List Value).toArray } = h3 at hns hsb ⊢
  have k3 : ∀ b o,s2.heap.get? b = some o -> h3.get? b = some o := fun b o e => by rw [<- e3];exact Heap.get?_push_of_some _ e
  have k4 : ∀ b o,h3.get? b = some o -> h1.get? b = some o := fun b o e => hsb.extBut b o (Nat.ne_of_lt (Heap.lt_size e)) (Heap.get?_push_of_some _ e)
  have I4 : Inv (zy X (own ++ fr) scope h3.objs.size { s2 with heap := h3 } H2 (s2.heap.objs.size :: fp)) [] (upS own.length js σ) H2 { s2 with heap := h1,toks := s2.toks + ([] : List (Str × Value)).length } :=
    xK own fr js I2 B hk f2 fl rfl e3.symm rfl hns k4
  have I3 : Inv X pins σ H2 { s2 with heap := h3 } := I2.kept (t' := s2.toks) k3
  have hz : h3.objs.size = s2.heap.objs.size + 1 := by rw [<- e3,Heap.size_push]
  have hDl : s2.heap.objs.size ≠ h3.objs.size := by rw [hz];exact Nat.ne_of_lt (Nat.lt_succ_self _)
  have hacc : h1.get? s2.heap.objs.size = some { cls := .type "list",data := .seq ([] : List Value).toArray } := k4 _ _ (by rw [<- e3];exact Heap.get?_push_size _ rfl)
  have fpC := (I3.fpOk (b := h3.objs.size) (Nat.le_refl _) (I3.hok.fresh (Nat.le_refl _))).2
  generalize eD : s2.heap.objs.size = D at *
  generalize eC : h3.objs.size = C at *
  have fD : ∀ b ∈ fp,D ≠ b := fun b hb => Nat.ne_of_gt (fl b hb)
  have hx : ∀ x c,(qu X.env.cells scope.names []).lookup x = some c -> c ≠ D := fun x c e => by
    obtain ⟨v,q⟩ := I2.cell x c (qa e hasF)
    rw [<- eD];exact Nat.ne_of_lt q.lt
  have hx2 : ∀ b ∈ fp,∀ x c,(qu X.env.cells scope.names []).lookup x = some c -> c ≠ b := fun b hb x c e => (f2 b hb).2.2.2.2.1 x c (qa e hasF)
  have nfs : ∀ b ∈ D :: fp,b ∉ frs X.stack := I4.ok.exfs
  have fpB : ∀ {pins' : List (Addr × Obj)} {H' : Hp} {b : Addr},b ∈ fp -> H' b = none -> (∀ p ∈ pins',p.1 ≠ b) -> qZ (zy X (own ++ fr) scope C { s2 with heap := h3 } H2 (D :: fp)) pins' H' b := fun {pins' H' b} hb hn hp =>
    ⟨hn,(I4.ok.exf b (List.mem_cons_of_mem _ hb)).1,nfs b (List.mem_cons_of_mem _ hb),.inl (List.mem_cons_of_mem _ hb),fun x c e => hx2 b hb x c e,fun p h => hp p (by simpa using h)⟩
  have fpD : ∀ {pins' : List (Addr × Obj)} {H' : Hp},H' D = none -> (∀ p ∈ pins',p.1 ≠ D) -> qZ (zy X (own ++ fr) scope C { s2 with heap := h3 } H2 (D :: fp)) pins' H' D := fun {pins' H'} hn hp =>
    ⟨hn,hDl,nfs D List.mem_cons_self,.inl List.mem_cons_self,fun x c e => hx x c e,fun p h => hp p (by simpa using h)⟩
  have loop : ∀ s4 : Shared,s4 = { s2 with heap := h1,toks := s2.toks + ([] : List (Str × Value)).length } ->
      codeAny (model X.prog X.w) X.A (.compLoop (.ListComp elt [⟨tg,iter,ifs,0⟩] scope pos) 0 (.ref it) (.ref D) (compEnvC scope (qu X.env.cells scope.names []) C X.env))
        (compPost (model X.prog X.w) X.A X.xe (some (assign (.Name y py) X.env)) (fun _ s' => ∃ σ' H',Inv X pins σ' H' s' /\ Dn.nx σ' H') (.ref D) C) s4 := by
    intro s4 e4
    refine Zx (fun n s' => ∃ i ys its H',∃ z : Nat,Inv (zy X (own ++ fr) scope C { s2 with heap := h3 } H2 (D :: fp)) [] (upS own.length js σ) H' s' /\ tn i s'.heap /\ (∀ b ∈ fp,H' b = none) /\ H' D = none /\
      s'.heap.get? D = some { cls := .type "list",data := .seq (its : List Value).toArray z } /\ Vals ys its /\ W i n ys H') ?_ m0 ?_
    · rintro n s5 ⟨i,ys,its,H5,z5,I5,st5,fr5,hD5,ho5,rv5,w5⟩
      have I5' := I5.pinned (fp := [D]) (fun b hb => by rw [List.mem_singleton.mp hb];exact fpD hD5 (fun p hp => absurd hp (by simp))) (fun b hb => by
        rw [List.mem_singleton.mp hb];exact ⟨_,ho5,fun v q => nomatch q⟩)
      have pD : ∀ p ∈ [] ++ zD [D] s5.heap,p.1 = D := fun p hp => by
        rw [List.nil_append] at hp
        exact List.mem_singleton.mp (qV hp).1
      have mD : (D,({ cls := .type "list",data := .seq its.toArray z5 } : Obj)) ∈ [] ++ zD [D] s5.heap := by
        rw [List.nil_append];exact zX (List.mem_singleton.mpr rfl) ho5
      have fp5 : ∀ {H' : Hp},(∀ b ∈ fp,H' b = none) -> ∀ b ∈ fp,qZ (zy X (own ++ fr) scope C { s2 with heap := h3 } H2 (D :: fp)) ([] ++ zD [D] s5.heap) H' b := fun hn b hb => fpB hb (hn b hb) fun p hp => by
        rw [pD p hp];exact fD b hb
      rcases turn i n ys H5 w5 with ⟨stop,hlen,q⟩ | ⟨go,N,hN,step⟩
      · refine thn (T.done (zy X (own ++ fr) scope C { s2 with heap := h3 } H2 (D :: fp)) rfl rfl rfl hc i _ s5 _ H5 _ I5' (fp5 fr5) st5 stop) fun r s6 ⟨hr,I6⟩ => ?_
        subst hr
        obtain ⟨m6,hn6,_⟩ := I6.loc
        obtain ⟨o6,nD6,_⟩ := I6.pin (D,_) (List.mem_append_right _ mD)
        have k7 : ∀ b o,b ≠ C -> s6.heap.get? b = some o -> s6.heap.get? b = some o := fun b o _ e => e
        have J0 : Inv X pins σ (upd H5 D (.lst ys)) s6 := by
          refine I3.call' (s' := s6) (ch := D :: fp) I6.os (vq (ZB I6.base (Nat.le_of_eq eC) k7) List.mem_cons_self (I2.hok.fresh ?_)) (xJ (ym I6.hok I6.free k7) nD6 ⟨hlen,its,z5,rv5,k7 D _ hDl o6⟩) I6.bare fun b hb => ?_
          · rw [<- eD];exact Nat.le_refl _
          · rcases List.mem_cons.mp hb with y | hb
            · subst y
              refine ⟨.inr (by rw [<- eD];exact I2.sz),by rw [<- eD];exact Nat.ne_of_gt I2.lt,fun x c e => ?_,fun p hp => ?_⟩
              · obtain ⟨v,q⟩ := I2.cell x c e
                rw [<- eD];exact Nat.ne_of_lt q.lt
              · rw [<- eD];exact Nat.ne_of_lt (Heap.lt_size (I2.pin p hp).1)
            · obtain ⟨_,g1,_,g3,g4,g5⟩ := f2 b hb
              exact ⟨g3,g1,g4,g5⟩
        obtain ⟨oC,eoC,dC⟩ : ∃ o,s6.heap.get? C = some o /\ ∀ v,o.data ≠ .cell v := by
          obtain ⟨o,es,ep,ho,hd,_⟩ := hn6
          exact ⟨o,ho,fun v z => by rw [hd] at z;cases z⟩
        have hC0 : (upd H5 D (.lst ys)) C = none := by
          rw [zw (Ne.symm hDl)];exact I6.free
        have J1 := J0.pinned (fp := [C]) (fun b hb => by rw [List.mem_singleton.mp hb];exact ⟨hC0,fpC⟩) (fun b hb => by rw [List.mem_singleton.mp hb];exact ⟨oC,eoC,dC⟩)
        have mC : (C,oC) ∈ pins ++ zD [C] s6.heap := List.mem_append_right _ (zX (List.mem_singleton.mpr rfl) eoC)
        refine thn (hg2 _ s6 σ _ (.ref D) (.ref D) _ J1 rfl (q D nD6)) fun _ s8 ⟨σ8,H8,I8,q8⟩ => ?_
        obtain ⟨e8,n8,_⟩ := I8.pin (C,oC) (List.mem_append_right _ mC)
        refine ⟨m6,?_,fun h9 hs9 => ⟨σ8,H8,?_,q8⟩⟩
        · obtain ⟨o,es,ep,ho,r⟩ := hn6
          have ho' : s6.heap.get? C = some o := ho
          rw [eoC] at ho';cases ho'
          exact ⟨oC,es,ep,e8,r⟩
        · obtain ⟨g1,_,g3,g4,g5⟩ := fpC
          exact (I8.unpinned).turned (t' := s8.toks) (it := C) (fun b o hb e => hs9.extBut b o hb e) n8 g1 g3 g4 g5
      · refine thn (T.item (zy X (own ++ fr) scope C { s2 with heap := h3 } H2 (D :: fp)) rfl rfl rfl hc i _ s5 _ H5 _ I5' (fp5 fr5) st5 go) fun r s6 ⟨u,hr,h6⟩ => ?_
        subst hr
        refine thn h6 fun _ s7 ⟨x,H7,I7,r7,y7,st7,fr7⟩ => ?_
        have I7' := I7.pinned (fp5 fr7) (T.obj _ _ st7)
        refine thn (hg _ _ _ _ _ s7 _ H7 x u _ I7' r7 (step x H7 y7)) fun _ s8 ⟨σ8,H8,I8,hd8,q8⟩ => ?_
        refine thn (hf _ _ _ _ _ s8 σ8 H8 _ I8 q8) fun ok s9 ⟨H9,I9,q9⟩ => ?_
        have weak : ∀ {H' : Hp} {s' : Shared},Inv (zy X (own ++ fr) scope C { s2 with heap := h3 } H2 (D :: fp)) (([] ++ zD [D] s5.heap) ++ zD fp s7.heap) σ8 H' s' ->
            Inv (zy X (own ++ fr) scope C { s2 with heap := h3 } H2 (D :: fp)) [] (upS own.length js σ) H' s' := fun {H' s'} J => by
          refine (J.unpinned).unpinned.weak (I5.len.trans J.len.symm) fun k v e => ?_
          obtain ⟨hn,e1,_⟩ := jD e
          rw [<- hd8,List.getElem?_drop] at e1
          rw [<- e1]
          congr 1
          omega
        have mF : ∀ b ∈ fp,∀ o,s7.heap.get? b = some o -> (b,o) ∈ ([] ++ zD [D] s5.heap) ++ zD fp s7.heap := fun b hb o e => List.mem_append_right _ (zX hb e)
        have mD' := List.mem_append_left (zD fp s7.heap) mD
        have frB : ∀ {H' : Hp} {s' : Shared},Inv (zy X (own ++ fr) scope C { s2 with heap := h3 } H2 (D :: fp)) (([] ++ zD [D] s5.heap) ++ zD fp s7.heap) σ8 H' s' -> ∀ b ∈ fp,H' b = none := fun {H' s'} J b hb => by
          obtain ⟨o,e,_⟩ := T.obj _ _ st7 b hb
          exact (J.pin (b,o) (List.mem_append_right _ (mF b hb o e))).2.1
        cases ok with
        | false =>
          have q9' : N ys H9 := by simpa using q9
          obtain ⟨m',hm,w'⟩ := hN _ _ q9'
          obtain ⟨o9,nD9,_⟩ := I9.pin (D,_) (List.mem_append_right _ mD')
          exact ⟨m',hm,i + 1,ys,its,H9,z5,weak I9,T.keep _ _ _ st7 fun b hb o e => (I9.pin (b,o) (List.mem_append_right _ (mF b hb o e))).1,frB I9,nD9,o9,rv5,w'⟩
        | true =>
          have q9' : te σ8 H9 fun y H6 => ys.length < sizeLine /\ N (ys ++ [y]) H6 := by simpa using q9
          refine thn (he _ _ _ _ _ s9 σ8 H9 _ I9 q9') fun yv s10 ⟨y,H10,I10,r10,hlt,w10⟩ => ?_
          obtain ⟨m',hm,w'⟩ := hN _ _ w10
          obtain ⟨o10,nD10,_⟩ := I10.pin (D,_) (List.mem_append_right _ mD')
          refine wpAny_list_append_plain (l := D) (items := its.toArray) (hsz := by rw [List.size_toArray,<- rv5.length];exact Nat.le_of_lt hlt) ⟨_,o10⟩ fun h11 hl11 hs11 => ?_
          obtain ⟨z11,e11⟩ := hl11
          refine ⟨m',hm,i + 1,ys ++ [y],its ++ [yv],H10,z11,?_,T.keep _ _ _ st7 fun b hb o e => hs11.extBut b o (Ne.symm (fD b hb)) (I10.pin (b,o) (List.mem_append_right _ (mF b hb o e))).1,frB I10,nD10,?_,rv5.append (.cons r10 .nil),w'⟩
          · exact (weak I10).turned (t' := s10.toks) (it := D) (fun b o hb e => hs11.extBut b o hb e) nD10 hDl (.inl List.mem_cons_self) (fun x c e => hx x c e) fun p hp => absurd (show p ∈ ([] : List (Addr × Obj)) from hp) (by simp)
          · rw [e11];simp
    · subst e4
      exact ⟨0,[],[],H2,0,I4,T.keep _ _ _ st2 fun b hb o e => k4 b o (k3 b o e),fun b hb => (f2 b hb).1,I2.hok.fresh (by rw [<- eD];exact Nat.le_refl _),hacc,.nil,w0⟩
  exact codeAny_compStart_list (loop _ rfl) (T.self X.A 0 _ _ _ (T.keep _ _ _ st2 fun b hb o e => k4 b o (k3 b o e)) (loop _ rfl))
theorem Wy {x y : Str} {px py spos : Pos} {g2 : TG} (fr : List Str) (js : List Nat) (hc : X.calm = true) (hk : scope.kind = .function) (hb : j9 scope.names X.env.scope.names X.N [x] fr js = true) (hi : PI X (.Name x px) iter wi)
    (hf : ∀ C s H ex,PF (zy X ([x] ++ fr) scope C s H ex) ifs tf) (he : ∀ C s H ex,PE (zy X ([x] ++ fr) scope C s H ex) elt te)
    (hg2 : PG X (.Name y py) g2) (hsw : swapsWith (.ListComp elt [⟨.Name x px,iter,ifs,0⟩] scope pos) (some (.Name y py)) spos.line X.env = pure true := by rfl)
    (hs : ∀ x,foldedSetIterable iter X.env x = pure x := by intro _;rfl) : PS X (.Assign [.Name y py] (.ListComp elt [⟨.Name x px,iter,ifs,0⟩] scope pos) spos) (JK (tLC wi 1 js (jo 0) tf te) g2) := by
  obtain ⟨h1,h2,h3⟩ := jq hb
  exact V9 [x] fr js hc hk h1 hi (fun C s H ex => jh (h2 x (by simp)) h3 rfl) hf he hg2 hsw hs
theorem Wx {x z y : Str} {px pz py spos tp : Pos} {kk : Nat} {g2 : TG} (fr : List Str) (js : List Nat) (hc : X.calm = true) (hk : scope.kind = .function) (hb : j9 scope.names X.env.scope.names X.N [x,z] fr js = true) (hi : PI X (.Tuple [.Name x px,.Name z pz] kk tp) iter wi)
    (hf : ∀ C s H ex,PF (zy X ([x,z] ++ fr) scope C s H ex) ifs tf) (he : ∀ C s H ex,PE (zy X ([x,z] ++ fr) scope C s H ex) elt te)
    (hg2 : PG X (.Name y py) g2) (hsw : swapsWith (.ListComp elt [⟨.Tuple [.Name x px,.Name z pz] kk tp,iter,ifs,0⟩] scope pos) (some (.Name y py)) spos.line X.env = pure true := by rfl)
    (hs : ∀ x,foldedSetIterable iter X.env x = pure x := by intro _;rfl) : PS X (.Assign [.Name y py] (.ListComp elt [⟨.Tuple [.Name x px,.Name z pz] kk tp,iter,ifs,0⟩] scope pos) spos) (JK (tLC wi 2 js (Jp X.K 2 (j4 (jo 0) (j4 (jo 1) XH))) tf te) g2) := by
  obtain ⟨h1,h2,h3⟩ := jq hb
  refine V9 [x,z] fr js hc hk h1 hi (fun C s H ex => ?_) hf he hg2 hsw hs
  exact qN (X := zy X ([x,z] ++ fr) scope C s H ex) hc (zK (jh (h2 x (by simp)) h3 rfl) (zK (jh (h2 z (by simp)) h3 rfl) qC))
end
end L2
set_option Elab.async false
set_option linter.all false
set_option maxRecDepth 100000
set_option maxHeartbeats 4000000
namespace L2
open PySem PySem.Spec PyProof.Rows
theorem Vals.mem {u : Value} : ∀ {xs : List V} {us : List Value},Vals xs us -> u ∈ us -> ∃ x ∈ xs,RelV x u
  | _,_,.nil,h => by cases h
  | x :: xs,v :: vs,.cons r t,h => by
    rcases List.mem_cons.mp h with e | h
    · rw [e];exact ⟨x,List.mem_cons_self,r⟩
    · obtain ⟨y,hy,ry⟩ := Vals.mem t h
      exact ⟨y,List.mem_cons_of_mem _ hy,ry⟩
section
variable {X : Cx}
inductive wb (K : PySem.W.Frag) (x : V) (y : V) (H : Hp) (Q : VK) : Prop
  | mk (a b : Addr) (xs : List V) (_ : x = .ref a) (_ : y = .ref b) (_ : SqL K H a xs) (_ : SqL K H b []) (_ : Q (.bl (!xs.isEmpty)) H) : wb K x y H Q
theorem Xm (hu : X.A.units < cLine) : OpR X (compareOp .NotEq) (wb X.K) := by
  intro pins s σ H x y v u Q I rx ry h
  obtain ⟨a,b,xs,rfl,rfl,hx,hy,q⟩ := h
  cases rx
  cases ry
  obtain ⟨its1,r1,p1,z1⟩ := I.list hx
  obtain ⟨its2,r2,p2,z2⟩ := I.list hy
  cases r2
  cases r1 with
  | nil => exact SeqAt.RcNeAt.lists (e := fun _ => true) p1.isList p2.isList rfl hu (fun j h1 _ => by simp at h1) _ _ _ _ ⟨.bl _,H,I,rfl,q⟩
  | cons r t => exact SeqAt.RcNeAt.lists_lengths p1.isList p2.isList (by simp) hu _ _ _ _ ⟨.bl _,H,I,rfl,q⟩
theorem yz : ∀ {its : List Value} {n k : Nat},its.length = n -> (∀ j v,its[j]? = some v -> ∃ t,v = Value.int ((k + j : Nat) : Int) t) -> Vals ((List.range' k n).map fun i : Nat => V.int (i : Int)) its
  | [],0,k,_,_ => .nil
  | v :: its,n + 1,k,hl,h => by
    rw [List.range'_succ,List.map_cons]
    obtain ⟨t,e⟩ := h 0 v rfl
    refine .cons ⟨t,by rw [e];rfl⟩ (yz (by simpa using hl) fun j w hw => ?_)
    obtain ⟨t',e'⟩ := h (j + 1) w (by simpa using hw)
    exact ⟨t',by rw [e',show k + (j + 1) = k + 1 + j by omega]⟩
theorem yg {a : Expr} {ta : TA} {p p2 pos pos2 : Pos} (hc : X.calm = true) (hg : Gl X "list") (hm : X.mg "list" = none) (hg2 : Gl X "range") (hm2 : X.mg "range" = none) (hv : bootBuiltins "list" = some (.type "list")) (ha : PA X [a] ta) (hs : starEach [a] X.env = [(false,eval a X.env)] := by rfl)
    (he : starEach [.Call (.Name "range" p2) [a] [] pos2] X.env = [(false,eval (.Call (.Name "range" p2) [a] [] pos2) X.env)] := by rfl) :
    PE X (.Call (.Name "list" p) [.Call (.Name "range" p2) [a] [] pos2] [] pos) (fun σ H Q => ta σ H fun vs H1 => ∃ j : Int,vs = [.int j] /\ 0 <= j /\ j <= 1000000 /\ ∀ l,H1 l = none -> Q (.ref l) (upd H1 l (.lst ((List.range j.toNat).map fun i : Nat => V.int (i : Int))))) := by
  intro pins s σ H Q I h
  refine wpAny_Call_Name_kw (jH I hg hm hv ?_ (by decide) (by decide))
  refine PyProof.Rows.callWith_type1 ?_ he rfl
  rw [he]
  refine Calls.spliced_cons ?_
  refine Call_ (jH I hg2 hm2 boot_range (PyProof.Rows.callWith_type1 (thn (ha pos2 pins s σ H _ I h) fun us s1 ⟨vs,H1,I1,r1,q1⟩ => ?_) hs rfl))
  obtain ⟨j,e,j0,j1,q⟩ := q1
  subst e
  cases r1 with
  | cons r rr =>
    cases rr
    obtain ⟨t,rfl⟩ := r
    refine call_range_1 (Calls.spliced_nil ?_)
    have I2 : Inv X pins σ H1 { s1 with heap := s1.heap.push { cls := .type "range",data := .fields #[.int 0 s1.toks,.int j t,.int 1 (s1.toks + 1)] },toks := s1.toks + 1 + 1 } := I1.kept fun b o e => Heap.get?_push_of_some _ e
    have e62 : (2 : Int) ^ 62 = 4611686018427387904 := by decide
    refine call_list_range (n := j.toNat) (I.ok.hd hc) (IsRange.new ..) (small_one (by rw [e62];omega) (by rw [e62];omega) (by rw [e62];omega) (by rw [e62];omega)) (by rw [rangeSize_one];split <;> omega) (by omega) fun h' tk acc' c' keep get items => ?_
    refine ⟨.ref _,_,I2.laid (t' := tk) (o := .lst ((List.range j.toNat).map fun i : Nat => V.int (i : Int))) keep (Nat.le_refl _) ?_,rfl,q _ (I2.hok.fresh (Nat.le_refl _))⟩
    refine ⟨by rw [List.length_map,List.length_range,sizeLine_eq];omega,acc'.toList,c',?_,by rw [Array.toArray_toList];exact get⟩
    rw [List.range_eq_range']
    refine yz (by rw [Array.length_toList];exact items.1) fun i v hv => ?_
    obtain ⟨t',e'⟩ := items.2 i v (by simpa using hv)
    exact ⟨t',by rw [e'];congr 1;omega⟩
end
end L2
set_option Elab.async false
set_option linter.all false
set_option maxRecDepth 100000
set_option maxHeartbeats 4000000
namespace L2
open PySem PySem.Spec PyProof.Rows
section
variable {prog : Program} {w : World} {A : Around} {E : Value -> Shared -> Prop} {s : Shared}
end
end L2
set_option Elab.async false
set_option linter.all false
set_option maxRecDepth 100000
set_option maxHeartbeats 4000000
namespace L2
open PySem PySem.Spec PyProof.Rows
def Tups (H : Hp) (xs ys : List V) (Ts : List Addr) : Prop := ∀ (j : Nat) (T : Addr),Ts[j]? = some T -> ∃ x y,xs[j]? = some x /\ ys[j]? = some y /\ H T = some (.tup [x,y])
theorem Tups.same {H H' : Hp} {xs ys : List V} {Ts : List Addr} (h : Tups H xs ys Ts) (s : Same H H') : Tups H' xs ys Ts := fun j T e => let ⟨x,y,a,b,c⟩ := h j T e;⟨x,y,a,b,s _ _ c⟩
theorem Tups.snoc {H : Hp} {xs ys : List V} {Ts : List Addr} {T : Addr} {x y : V} (h : Tups H xs ys Ts) (hx : xs[Ts.length]? = some x) (hy : ys[Ts.length]? = some y) (hT : H T = some (.tup [x,y])) : Tups H xs ys (Ts ++ [T]) := fun j U e => by
  by_cases hj : j < Ts.length
  · rw [List.getElem?_append_left hj] at e
    exact h j U e
  · rw [List.getElem?_append_right (by omega)] at e
    have : j = Ts.length := by
      have := (List.getElem?_eq_some_iff.mp e).1
      simp at this;omega
    subst this
    simp at e
    subst e
    exact ⟨x,y,hx,hy,hT⟩
section
variable {X : Cx} {A : Around} {R : Result -> Shared -> Prop}
end
end L2
set_option Elab.async false
set_option linter.all false
set_option maxRecDepth 100000
set_option maxHeartbeats 4000000
namespace L2
open PySem PySem.Spec PyProof.Rows
section
variable {X : Cx}
end
end L2
set_option Elab.async false
set_option linter.all false
set_option maxRecDepth 100000
set_option maxHeartbeats 4000000
namespace L2
open PySem PySem.Spec PyProof.Rows
section
variable {X : Cx}
theorem qK {K : PySem.W.Frag} (h : X.K = K) : IxR X (Vh K) := by rw [<- h];exact zG
theorem Qv {K : PySem.W.Frag} (h : X.K = K) : IxR X (Vg K) := by rw [<- h];exact qO
theorem wt {K : PySem.W.Frag} (h : X.K = K) : CallR X (.builtin "len") (qY K) := by rw [<- h];exact zx
end
end L2
set_option Elab.async false
set_option linter.all false
set_option maxRecDepth 100000
set_option maxHeartbeats 4000000
namespace L2
open PySem PySem.Spec PyProof.Rows
section
variable {X : Cx}
end
end L2
set_option Elab.async false
set_option linter.all false
set_option maxRecDepth 100000
set_option maxHeartbeats 4000000
namespace L2
open PySem PySem.Spec PyProof.Rows
section
open AutoSeq1 (wpAny_loadPart')
end
section
variable {prog : Program} {w : World} {A : Around} {E : Value -> Shared -> Prop} {s : Shared}
theorem Draws.tuple {prog : Program} {w : World} {A : Around} (hh : A.handled = none) (it l : Addr) (hne : l ≠ it) (items : Array Value) :
    Draws prog w A it [it,l] items.size (fun i v => items[i]? = some v) (fun i h => h.IsTupleIter it l i /\ h.IsTuple l items) where
  live := fun _ _ st => let ⟨o,ho,_⟩ := st.1;⟨o,ho⟩
  frame := fun _ _ _ st hk => ⟨ItrK.at (kd := false) st.1 fun o e => hk it (by simp) o e,SeqK.at (kd := false) st.2 fun o e => hk l (by simp) o e⟩
  item := fun i s Q E hi st hQ => by
    refine jx (kd := false) st.1 st.2 (x := items[i]) (by simp [hi]) fun h' hit' hs' => ?_
    exact hQ _ h' s.toks (by simp [hi]) ⟨hit',SeqK.at (kd := false) st.2 fun o e => hs'.extBut l o hne e⟩ hs'
  done := fun s Q E st hE => xH (kd := false) hh st.1 st.2 (by simp) hE
end
section
variable {X : Cx}
end
end L2
set_option Elab.async false
set_option linter.all false
set_option maxRecDepth 100000
set_option maxHeartbeats 4000000
namespace L2
open PySem PySem.Spec PyProof.Rows
section
variable {prog : Program} {w : World} {A : Around} {R : Result -> Shared -> Prop} {s : Shared}
abbrev lc2 (elt tg1 iter1 : Expr) (ifs1 : List Expr) (tg iter : Expr) (ifs : List Expr) (scope : Scope) (pos : Pos) : Expr := .ListComp elt [⟨tg1,iter1,ifs1,0⟩,⟨tg,iter,ifs,0⟩] scope pos
theorem Zn (elt tg1 iter1 : Expr) (ifs1 : List Expr) (tg iter : Expr) (ifs : List Expr) (scope : Scope) (pos : Pos) (it acc : Value) (env : Env) :
    compTurn (lc2 elt tg1 iter1 ifs1 tg iter ifs scope pos) 1 it acc env = (do
      standAt iter.pos
      match <- pyNext it with
      | none => pure (.done .next)
      | some v =>
        letOwnedTupleGo tg it v
        assign tg env v
        let mut ok := true
        for c in ifs do
          if ok then ok <- isTrue c env (eval c env)
        if ok then
          (do let _ <- call (.builtin "list.append") [acc,<- eval elt env])
        again (.compLoop (lc2 elt tg1 iter1 ifs1 tg iter ifs scope pos) 1 it acc env)) := by rfl
theorem yo (elt tg1 iter1 : Expr) (ifs1 : List Expr) (tg iter : Expr) (ifs : List Expr) (scope : Scope) (pos : Pos) (it acc : Value) (env : Env) :
    compTurn (lc2 elt tg1 iter1 ifs1 tg iter ifs scope pos) 0 it acc env = (do
      standAt iter1.pos
      match <- pyNext it with
      | none => pure (.done .next)
      | some v =>
        letOwnedTupleGo tg1 it v
        assign tg1 env v
        let ok <- jP ifs1 env
        if ok = true then do
          let x <- eval iter env
          standAt iter.pos
          let x <- foldedSetIterable iter env x
          let i2 <- holding [x] (pyIter x)
          let _ <- runOwn (.compStart (lc2 elt tg1 iter1 ifs1 tg iter ifs scope pos) 1 i2 acc env) env
          again (.compLoop (lc2 elt tg1 iter1 ifs1 tg iter ifs scope pos) 0 it acc env)
        else again (.compLoop (lc2 elt tg1 iter1 ifs1 tg iter ifs scope pos) 0 it acc env)) := by rfl
theorem jK {elt tg1 iter1 ifs1 tg iter ifs scope pos it acc env}
    (h0 : codeAny (model prog w) A (.compLoop (lc2 elt tg1 iter1 ifs1 tg iter ifs scope pos) 1 it acc env) R s)
    (h : wpAny (model prog w) A (pyIter it) (fun it' s' => codeAny (model prog w) A (.compLoop (lc2 elt tg1 iter1 ifs1 tg iter ifs scope pos) 1 it' acc env) R s')
      (notedBy (model prog w) A env fun x s' => R (.error x) s') s) :
    codeAny (model prog w) A (.compStart (lc2 elt tg1 iter1 ifs1 tg iter ifs scope pos) 1 it acc env) R s := by
  refine codeAny_of_tree ?_
  show wpAny _ _ ((compStart (lc2 elt tg1 iter1 ifs1 tg iter ifs scope pos) 1 it acc env).onRaise (fun x => do noteFrame x env;standAt theWindowsPlace)) _ _ s
  refine wpAny_notedAt ?_
  unfold compStart
  show wpAny _ _ (ask >>= _) _ _ s
  refine wpAny_bind (wpAny_askSetting (wpAny_ite ?_))
  split
  · first
      | exact wpAny_bind (wpAny_pure (wpAny_pure (And.intro rfl h0)))
      | exact wpAny_pure (And.intro rfl h0)
  · first
      | exact wpAny_bind (wpAny_rule (wpAny_bind (wpAny_standAt (wpAny_bind (wpAny_mono h (fun it' s' h' => wpAny_pure (And.intro rfl h')) fun _ _ x => x)))))
      | (refine wpAny_bind (wpAny_rule ?_);show wpAny _ _ (standAt iter.pos >>= _) _ _ s;exact wpAny_bind (wpAny_standAt (wpAny_bind (wpAny_mono h (fun it' s' h' => wpAny_pure (And.intro rfl h')) fun _ _ x => x))))
theorem W4 {elt tg1 iter1 : Expr} {ifs1 : List Expr} {tg iter : Expr} {ifs : List Expr} {scope : Scope} {pos : Pos} {it acc : Value} {env : Env} (J : Nat -> Shared -> Prop)
    (turn : ∀ n s,J n s -> wpAny (model prog w) A (pyNext it) (fun r s1 => match r with
      | none => R (.ok .next) s1
      | some v => wpAny (model prog w) A (letOwnedTupleGo tg it v) (fun _ s2 => wpAny (model prog w) A (assign tg env v) (fun _ s3 =>
          wpAny (model prog w) A (jP ifs env) (fun ok s4 =>
            if ok = true then wpAny (model prog w) A (eval elt env) (fun x s5 =>
              wpAny (model prog w) A (call (.builtin "list.append") [acc,x]) (fun _ s6 => ∃ m,m < n /\ J m s6) (fun _ _ => False) s5) (fun _ _ => False) s4
            else ∃ m,m < n /\ J m s4) (fun _ _ => False) s3) (fun _ _ => False) s2) (fun _ _ => False) s1) (fun _ _ => False) s)
    (n : Nat) (h : J n s) : codeAny (model prog w) A (.compLoop (lc2 elt tg1 iter1 ifs1 tg iter ifs scope pos) 1 it acc env) R s := by
  have no : ∀ {α : Type} {t : Sem α} {Q : α -> Shared -> Prop} {E : Value -> Shared -> Prop} {s : Shared},wpAny (model prog w) A t Q (fun _ _ => False) s -> wpAny (model prog w) A t Q E s := fun x => wpAny_mono x (fun _ _ q => q) fun _ _ q => q.elim
  refine codeAny_loop rfl J (fun k u hJ => ?_) n h
  show wpAny _ A ((compTurn (lc2 elt tg1 iter1 ifs1 tg iter ifs scope pos) 1 it acc env).onRaise (fun x => do noteFrame x env;theTreesLotGoes x)) _ _ u
  refine wpAny_noted ?_
  rw [Zn]
  refine wpAny_bind (wpAny_standAt (wpAny_bind (no (wpAny_mono (turn k u hJ) (fun r s1 h1 => ?_) fun _ _ q => q))))
  cases r with
  | none => exact wpAny_pure h1
  | some v =>
    refine wpAny_bind (no (wpAny_mono h1 (fun _ s2 h2 => wpAny_bind (no (wpAny_mono h2 (fun _ s3 h3 => wpAny_bind (no (wpAny_mono h3 (fun ok s4 h4 => ?_) fun _ _ q => q))) fun _ _ q => q))) fun _ _ q => q))
    cases ok with
    | false => exact wpAny_pure ⟨rfl,h4⟩
    | true =>
      have h4' : wpAny (model prog w) A (eval elt env) (fun x s5 => wpAny (model prog w) A (call (.builtin "list.append") [acc,x]) (fun _ s6 => ∃ m,m < k /\ J m s6) (fun _ _ => False) s5) (fun _ _ => False) s4 := h4
      refine wpAny_bind (wpAny_bind (no (wpAny_mono h4' (fun x s5 h5 => wpAny_bind (no (wpAny_mono h5 (fun _ s6 h6 => wpAny_pure (wpAny_pure ⟨rfl,h6⟩)) fun _ _ q => q))) fun _ _ q => q)))
theorem VO {elt tg1 iter1 : Expr} {ifs1 : List Expr} {tg iter : Expr} {ifs : List Expr} {scope : Scope} {pos : Pos} {it acc : Value} {env : Env} (hs : ∀ x,foldedSetIterable iter env x = pure x) (J : Nat -> Shared -> Prop)
    (turn : ∀ n s,J n s -> wpAny (model prog w) A (pyNext it) (fun r s1 => match r with
      | none => R (.ok .next) s1
      | some v => wpAny (model prog w) A (letOwnedTupleGo tg1 it v) (fun _ s2 => wpAny (model prog w) A (assign tg1 env v) (fun _ s3 =>
          wpAny (model prog w) A (jP ifs1 env) (fun ok s4 =>
            if ok = true then wpAny (model prog w) A (eval iter env) (fun x s5 =>
              wpAny (model prog w) A (pyIter x) (fun i2 s6 => codeAny (model prog w) A (.compStart (lc2 elt tg1 iter1 ifs1 tg iter ifs scope pos) 1 i2 acc env) (fun r s7 => match r with | .ok _ => ∃ m,m < n /\ J m s7 | .error _ => False) s6) (fun _ _ => False) s5) (fun _ _ => False) s4
            else ∃ m,m < n /\ J m s4) (fun _ _ => False) s3) (fun _ _ => False) s2) (fun _ _ => False) s1) (fun _ _ => False) s)
    (n : Nat) (h : J n s) : codeAny (model prog w) A (.compLoop (lc2 elt tg1 iter1 ifs1 tg iter ifs scope pos) 0 it acc env) R s := by
  have no : ∀ {α : Type} {t : Sem α} {Q : α -> Shared -> Prop} {E : Value -> Shared -> Prop} {s : Shared},wpAny (model prog w) A t Q (fun _ _ => False) s -> wpAny (model prog w) A t Q E s := fun x => wpAny_mono x (fun _ _ q => q) fun _ _ q => q.elim
  refine codeAny_loop rfl J (fun k u hJ => ?_) n h
  show wpAny _ A ((compTurn (lc2 elt tg1 iter1 ifs1 tg iter ifs scope pos) 0 it acc env).onRaise (fun x => do noteFrame x env;theTreesLotGoes x)) _ _ u
  refine wpAny_noted ?_
  rw [yo]
  refine wpAny_bind (wpAny_standAt (wpAny_bind (no (wpAny_mono (turn k u hJ) (fun r s1 h1 => ?_) fun _ _ q => q))))
  cases r with
  | none => exact wpAny_pure h1
  | some v =>
    refine wpAny_bind (no (wpAny_mono h1 (fun _ s2 h2 => wpAny_bind (no (wpAny_mono h2 (fun _ s3 h3 => wpAny_bind (no (wpAny_mono h3 (fun ok s4 h4 => ?_) fun _ _ q => q))) fun _ _ q => q))) fun _ _ q => q))
    cases ok with
    | false => exact wpAny_pure ⟨rfl,h4⟩
    | true =>
      have h4' : wpAny (model prog w) A (eval iter env) (fun x s5 =>
              wpAny (model prog w) A (pyIter x) (fun i2 s6 => codeAny (model prog w) A (.compStart (lc2 elt tg1 iter1 ifs1 tg iter ifs scope pos) 1 i2 acc env) (fun r s7 => match r with | .ok _ => ∃ m,m < k /\ J m s7 | .error _ => False) s6) (fun _ _ => False) s5) (fun _ _ => False) s4 := h4
      refine wpAny_bind (no (wpAny_mono h4' (fun x s5 h5 => wpAny_bind (wpAny_standAt (wpAny_bind (wpAny_of_eq (hs x) (wpAny_bind (wpAny_holding (no (wpAny_mono h5 (fun i2 s6 h6 => ?_) fun _ _ q => q)))))))) fun _ _ q => q))
      refine wpAny_bind (wpAny_runOwn (h := none) ?_)
      rw [Around.mark_none]
      refine codeAny_mono h6 fun r s7 h7 => ?_
      cases r with
      | ok f => exact wpAny_pure ⟨rfl,h7⟩
      | error e => exact h7.elim
end
def Sub : St -> St -> Prop
  | [],[] => True
  | none :: r,_ :: r' => Sub r r'
  | some v :: r,x :: r' => x = some v /\ Sub r r'
  | _,_ => False
theorem Sub.len : ∀ {a b : St},Sub a b -> a.length = b.length
  | [],[],_ => rfl
  | [],_ :: _,h => h.elim
  | none :: _,[],h => h.elim
  | some _ :: _,[],h => h.elim
  | none :: r,_ :: r',h => by rw [List.length_cons,List.length_cons,Sub.len (a := r) (b := r') h]
  | some _ :: r,_ :: r',h => by rw [List.length_cons,List.length_cons,Sub.len (a := r) (b := r') h.2]
theorem Sub.get : ∀ {a b : St} {i : Nat} {v : V},Sub a b -> a[i]? = some (some v) -> b[i]? = some (some v)
  | [],[],_,_,_,e => e
  | [],_ :: _,_,_,h,_ => h.elim
  | none :: _,[],_,_,h,_ => h.elim
  | some _ :: _,[],_,_,h,_ => h.elim
  | none :: r,_ :: r',0,v,h,e => by simp at e
  | none :: r,_ :: r',i + 1,v,h,e => by
    rw [List.getElem?_cons_succ] at e ⊢
    exact Sub.get (a := r) (b := r') h e
  | some _ :: r,_ :: r',0,v,h,e => by
    rw [List.getElem?_cons_zero] at e ⊢
    rw [h.1];exact e
  | some _ :: r,_ :: r',i + 1,v,h,e => by
    rw [List.getElem?_cons_succ] at e ⊢
    exact Sub.get (a := r) (b := r') h.2 e
def tIn (wi : TI) (g : TG) (tf : TT) (te : TE) (ys : List V) (N : List V -> Hp -> Prop) : St -> Hp -> Prop := fun σ4 H5 => wi σ4 H5 fun J H6 =>
  ∃ W : Nat -> Nat -> List V -> Hp -> Prop,(∃ m,W 0 m ys H6) /\ ∀ i m zs H7,W i m zs H7 ->
    (J.stop i H7 /\ N zs H7) \/
    (J.go i H7 /\ ∃ N2 : List V -> Hp -> Prop,(∀ zs H',N2 zs H' -> ∃ m',m' < m /\ W (i + 1) m' zs H') /\ ∀ x H8,J.yld i H7 x H8 -> g x σ4 H8 fun σ9 H9 => Sub σ4 σ9 /\ tf σ9 H9 fun b H10 =>
      if b = true then te σ9 H10 fun y H11 => zs.length < sizeLine /\ N2 (zs ++ [y]) H11 else N2 zs H10)
section
variable {X : Cx} {elt tg1 iter1 : Expr} {ifs1 : List Expr} {tg iter : Expr} {ifs : List Expr} {scope : Scope} {pos : Pos} {wi wi1 : TI} {g g1 : TG} {tf tf1 : TT} {te : TE}
theorem VF {N' : List Str} {C D : Addr} {sx : Shared} {Hx : Hp} {ex : List Addr} {pins : List (Addr × Obj)} {σ4 : St} {H0 : Hp} {s0 : Shared} {it : Addr} {fp : List Addr} {tn : Nat -> Heap -> Prop} {J : It} {R : Result -> Shared -> Prop} {N : List V -> Hp -> Prop} {ys : List V} {its : List Value} {z : Nat} {m0 : Nat} {W : Nat -> Nat -> List V -> Hp -> Prop}
    (hc : X.calm = true) (hg : PG (zy X N' scope C sx Hx ex) tg g) (hf : PF (zy X N' scope C sx Hx ex) ifs tf) (he : PE (zy X N' scope C sx Hx ex) elt te)
    (T : Zy X.prog X.w X.K tg J fp it tn) (fD : ∀ H' : Hp,H' D = none -> qZ (zy X N' scope C sx Hx ex) pins H' D) (f2 : ∀ b ∈ fp,∀ H' : Hp,H' b = none -> qZ (zy X N' scope C sx Hx ex) pins H' b) (nD : ∀ b ∈ fp,D ≠ b)
    (I : Inv (zy X N' scope C sx Hx ex) pins σ4 H0 s0) (st : tn 0 s0.heap) (fr : ∀ b ∈ fp,H0 b = none) (hDn : H0 D = none) (ho : s0.heap.get? D = some { cls := .type "list",data := .seq its.toArray z }) (rv : Vals ys its) (w0 : W 0 m0 ys H0)
    (turn : ∀ i m zs H7,W i m zs H7 ->
      (J.stop i H7 /\ N zs H7) \/
      (J.go i H7 /\ ∃ N2 : List V -> Hp -> Prop,(∀ zs H',N2 zs H' -> ∃ m',m' < m /\ W (i + 1) m' zs H') /\ ∀ x H8,J.yld i H7 x H8 -> g x σ4 H8 fun σ9 H9 => Sub σ4 σ9 /\ tf σ9 H9 fun b H10 =>
        if b = true then te σ9 H10 fun y H11 => zs.length < sizeLine /\ N2 (zs ++ [y]) H11 else N2 zs H10))
    (fin : ∀ (zs : List V) (its : List Value) (z : Nat) (H' : Hp) (s' : Shared),Inv (zy X N' scope C sx Hx ex) pins σ4 H' s' -> H' D = none -> s'.heap.get? D = some { cls := .type "list",data := .seq its.toArray z } -> Vals zs its -> N zs H' -> R (.ok .next) s') :
    codeAny (model X.prog X.w) X.A (.compLoop (lc2 elt tg1 iter1 ifs1 tg iter ifs scope pos) 1 (.ref it) (.ref D) (compEnvC scope (qu X.env.cells scope.names []) C X.env)) R s0 := by
  refine W4 (fun n s' => ∃ i ys its H',∃ z : Nat,Inv (zy X N' scope C sx Hx ex) pins σ4 H' s' /\ tn i s'.heap /\ (∀ b ∈ fp,H' b = none) /\ H' D = none /\
      s'.heap.get? D = some { cls := .type "list",data := .seq (its : List Value).toArray z } /\ Vals ys its /\ W i n ys H') ?_ m0 ⟨0,ys,its,H0,z,I,st,fr,hDn,ho,rv,w0⟩
  rintro n s5 ⟨i,ys,its,H5,z5,I5,st5,fr5,hD5,ho5,rv5,w5⟩
  have I5' := I5.pinned (fp := [D]) (fun b hb => by rw [List.mem_singleton.mp hb];exact fD _ hD5) (fun b hb => by
    rw [List.mem_singleton.mp hb];exact ⟨_,ho5,fun v q => nomatch q⟩)
  have mD : (D,({ cls := .type "list",data := .seq its.toArray z5 } : Obj)) ∈ pins ++ zD [D] s5.heap := List.mem_append_right _ (zX (List.mem_singleton.mpr rfl) ho5)
  have fp5 : ∀ {H' : Hp},(∀ b ∈ fp,H' b = none) -> ∀ b ∈ fp,qZ (zy X N' scope C sx Hx ex) (pins ++ zD [D] s5.heap) H' b := fun hn b hb => by
    obtain ⟨a1,a2,a3,a4,a5,a6⟩ := f2 b hb _ (hn b hb)
    refine ⟨a1,a2,a3,a4,a5,fun p hp => ?_⟩
    rcases List.mem_append.mp hp with q | q
    · exact a6 p (List.mem_append_left _ q)
    · rcases List.mem_append.mp q with q | q
      · exact a6 p (List.mem_append_right _ q)
      · rw [List.mem_singleton.mp (qV q).1];exact nD b hb
  rcases turn i n ys H5 w5 with ⟨stop,q⟩ | ⟨go,N2,hN,step⟩
  · refine thn (T.done (zy X N' scope C sx Hx ex) rfl rfl rfl hc i _ s5 _ H5 _ I5' (fp5 fr5) st5 stop) fun r s6 ⟨hr,I6⟩ => ?_
    subst hr
    obtain ⟨o6,nD6,_⟩ := I6.pin (D,_) (List.mem_append_right _ mD)
    exact fin ys its z5 H5 s6 I6.unpinned nD6 o6 rv5 q
  · refine thn (T.item (zy X N' scope C sx Hx ex) rfl rfl rfl hc i _ s5 _ H5 _ I5' (fp5 fr5) st5 go) fun r s6 ⟨u,hr,h6⟩ => ?_
    subst hr
    refine thn h6 fun _ s7 ⟨x,H7,I7,r7,y7,st7,fr7⟩ => ?_
    have I7' := I7.pinned (fp5 fr7) (T.obj _ _ st7)
    refine thn (hg _ s7 _ H7 x u _ I7' r7 (step x H7 y7)) fun _ s8 ⟨σ8,H8,I8,hd8,q8⟩ => ?_
    refine thn (hf _ s8 σ8 H8 _ I8 q8) fun ok s9 ⟨H9,I9,q9⟩ => ?_
    have weak : ∀ {H' : Hp} {s' : Shared},Inv (zy X N' scope C sx Hx ex) ((pins ++ zD [D] s5.heap) ++ zD fp s7.heap) σ8 H' s' -> Inv (zy X N' scope C sx Hx ex) pins σ4 H' s' := fun {H' s'} J =>
      (J.unpinned).unpinned.weak hd8.len fun k v e => hd8.get e
    have mF : ∀ b ∈ fp,∀ o,s7.heap.get? b = some o -> (b,o) ∈ (pins ++ zD [D] s5.heap) ++ zD fp s7.heap := fun b hb o e => List.mem_append_right _ (zX hb e)
    have mD' := List.mem_append_left (zD fp s7.heap) mD
    have frB : ∀ {H' : Hp} {s' : Shared},Inv (zy X N' scope C sx Hx ex) ((pins ++ zD [D] s5.heap) ++ zD fp s7.heap) σ8 H' s' -> ∀ b ∈ fp,H' b = none := fun {H' s'} J b hb => by
      obtain ⟨o,e,_⟩ := T.obj _ _ st7 b hb
      exact (J.pin (b,o) (List.mem_append_right _ (mF b hb o e))).2.1
    cases ok with
    | false =>
      have q9' : N2 ys H9 := by simpa using q9
      obtain ⟨m',hm,w'⟩ := hN _ _ q9'
      obtain ⟨o9,nD9,_⟩ := I9.pin (D,_) (List.mem_append_right _ mD')
      exact ⟨m',hm,i + 1,ys,its,H9,z5,weak I9,T.keep _ _ _ st7 fun b hb o e => (I9.pin (b,o) (List.mem_append_right _ (mF b hb o e))).1,frB I9,nD9,o9,rv5,w'⟩
    | true =>
      have q9' : te σ8 H9 fun y H6 => ys.length < sizeLine /\ N2 (ys ++ [y]) H6 := by simpa using q9
      refine thn (he _ s9 σ8 H9 _ I9 q9') fun yv s10 ⟨y,H10,I10,r10,hlt,w10⟩ => ?_
      obtain ⟨m',hm,w'⟩ := hN _ _ w10
      obtain ⟨o10,nD10,_⟩ := I10.pin (D,_) (List.mem_append_right _ mD')
      refine wpAny_list_append_plain (l := D) (items := its.toArray) (hsz := by rw [List.size_toArray,<- rv5.length];exact Nat.le_of_lt hlt) ⟨_,o10⟩ fun h11 hl11 hs11 => ?_
      obtain ⟨z11,e11⟩ := hl11
      obtain ⟨d0,d1,d2,d3,d4,d5⟩ := fD _ nD10
      refine ⟨m',hm,i + 1,ys ++ [y],its ++ [yv],H10,z11,?_,T.keep _ _ _ st7 fun b hb o e => hs11.extBut b o (Ne.symm (nD b hb)) (I10.pin (b,o) (List.mem_append_right _ (mF b hb o e))).1,frB I10,nD10,?_,rv5.append (.cons r10 .nil),w'⟩
      · exact (weak I10).turned (t' := s10.toks) (it := D) (fun b o hb e => hs11.extBut b o hb e) nD10 d1 d3 d4 d5
      · rw [e11];simp
end
end L2
set_option Elab.async false
set_option linter.all false
set_option maxRecDepth 100000
set_option maxHeartbeats 4000000
namespace L2
open PySem PySem.Spec PyProof.Rows
def Ye (wi1 : TI) (n : Nat) (js : List Nat) (g1 : TG) (tf1 : TT) (wi : TI) (g : TG) (tf : TT) (te : TE) : TE := fun σ H Q => wi1 σ H fun J H1 =>
  ∃ W : Nat -> Nat -> List V -> Hp -> Prop,(∃ m,W 0 m [] H1) /\ ∀ i m ys H2,W i m ys H2 ->
    (J.stop i H2 /\ ys.length <= sizeLine /\ ∀ D,H2 D = none -> Q (.ref D) (upd H2 D (.lst ys))) \/
    (J.go i H2 /\ ∃ N : List V -> Hp -> Prop,(∀ zs H',N zs H' -> ∃ m',m' < m /\ W (i + 1) m' zs H') /\ ∀ x H3,J.yld i H2 x H3 -> g1 x (upS n js σ) H3 fun σ4 H4 => σ4.drop n = (upS n js σ).drop n /\ tf1 σ4 H4 fun b H5 =>
      if b = true then tIn wi g tf te ys N σ4 H5 else N ys H5)
section
variable {X : Cx} {elt tg1 iter1 : Expr} {ifs1 : List Expr} {tg iter : Expr} {ifs : List Expr} {scope : Scope} {pos : Pos} {wi wi1 : TI} {g g1 : TG} {tf tf1 : TT} {te : TE}
theorem WC (own fr : List Str) (js : List Nat) (hc : X.calm = true) (hk : scope.kind = .function) (hb : vY scope.names X.env.scope.names X.N fr js = true) (hi : PI X tg1 iter1 wi1)
    (hg : ∀ C s H ex,PG (zy X (own ++ fr) scope C s H ex) tg1 g1) (hf : ∀ C s H ex,PF (zy X (own ++ fr) scope C s H ex) ifs1 tf1)
    (hi2 : ∀ C s H ex,PI (zy X (own ++ fr) scope C s H ex) tg iter wi) (hg2 : ∀ C s H ex,PG (zy X (own ++ fr) scope C s H ex) tg g) (hf2 : ∀ C s H ex,PF (zy X (own ++ fr) scope C s H ex) ifs tf) (he : ∀ C s H ex,PE (zy X (own ++ fr) scope C s H ex) elt te)
    (hs : ∀ x,foldedSetIterable iter1 X.env x = pure x := by intro _;rfl) (hs2 : ∀ C x,foldedSetIterable iter (compEnvC scope (qu X.env.cells scope.names []) C X.env) x = pure x := by intro _ _;rfl) : PE X (lc2 elt tg1 iter1 ifs1 tg iter ifs scope pos) (Ye wi1 own.length js g1 tf1 wi g tf te) := by
  intro pins s σ H Q I h
  have B := vX hb
  have hasF : ∀ y ∈ scope.names,y.2 = NameKind.free -> ∃ c,X.env.cells.lookup y.1 = some c := fun y hy e => I.ok.has y.1 (B.free y hy e)
  rw [eval_ListComp]
  refine wpAny_comprehension_free (use := none) rfl hs (yq hasF) hk (fun y hy e => B.loc y hy e) (thn (hi pins s σ H _ I h) fun v s1 h1 => thn h1 fun itv s2 h2 => ?_)
  obtain ⟨it,fp,tn,J,H2,e,I2,T,st2,f2,W,⟨m0,w0⟩,turn⟩ := h2
  subst e
  have fl : ∀ b ∈ fp,b < s2.heap.objs.size := fun b hb => let ⟨o,e,_⟩ := T.obj _ _ st2 b hb;Heap.lt_size e
  refine wpAny_newObj_type (wpAny_newFunctionEnv B.cell (by intro y hy;simp at hy) (fun h1 hns hsb => ?_) hk)
  dsimp only at hns hsb ⊢
  generalize e3 : s2.heap.push { cls := .type "list",dict := none,data := .seq ([] : List Value).toArray } = h3 at hns hsb ⊢
  have k3 : ∀ b o,s2.heap.get? b = some o -> h3.get? b = some o := fun b o e => by rw [<- e3];exact Heap.get?_push_of_some _ e
  have k4 : ∀ b o,h3.get? b = some o -> h1.get? b = some o := fun b o e => hsb.extBut b o (Nat.ne_of_lt (Heap.lt_size e)) (Heap.get?_push_of_some _ e)
  have I4 : Inv (zy X (own ++ fr) scope h3.objs.size { s2 with heap := h3 } H2 (s2.heap.objs.size :: fp)) [] (upS own.length js σ) H2 { s2 with heap := h1,toks := s2.toks + ([] : List (Str × Value)).length } :=
    xK own fr js I2 B hk f2 fl rfl e3.symm rfl hns k4
  have I3 : Inv X pins σ H2 { s2 with heap := h3 } := I2.kept (t' := s2.toks) k3
  have hz : h3.objs.size = s2.heap.objs.size + 1 := by rw [<- e3,Heap.size_push]
  have hDl : s2.heap.objs.size ≠ h3.objs.size := by rw [hz];exact Nat.ne_of_lt (Nat.lt_succ_self _)
  have hacc : h1.get? s2.heap.objs.size = some { cls := .type "list",data := .seq ([] : List Value).toArray } := k4 _ _ (by rw [<- e3];exact Heap.get?_push_size _ rfl)
  generalize eD : s2.heap.objs.size = D at *
  generalize eC : h3.objs.size = C at *
  have fD : ∀ b ∈ fp,D ≠ b := fun b hb => Nat.ne_of_gt (fl b hb)
  have hx : ∀ x c,(qu X.env.cells scope.names []).lookup x = some c -> c ≠ D := fun x c e => by
    obtain ⟨v,q⟩ := I2.cell x c (qa e hasF)
    rw [<- eD];exact Nat.ne_of_lt q.lt
  have hx2 : ∀ b ∈ fp,∀ x c,(qu X.env.cells scope.names []).lookup x = some c -> c ≠ b := fun b hb x c e => (f2 b hb).2.2.2.2.1 x c (qa e hasF)
  have nfs : ∀ b ∈ D :: fp,b ∉ frs X.stack := I4.ok.exfs
  have fpB : ∀ {pins' : List (Addr × Obj)} {H' : Hp} {b : Addr},b ∈ fp -> H' b = none -> (∀ p ∈ pins',p.1 ≠ b) -> qZ (zy X (own ++ fr) scope C { s2 with heap := h3 } H2 (D :: fp)) pins' H' b := fun {pins' H' b} hb hn hp =>
    ⟨hn,(I4.ok.exf b (List.mem_cons_of_mem _ hb)).1,nfs b (List.mem_cons_of_mem _ hb),.inl (List.mem_cons_of_mem _ hb),fun x c e => hx2 b hb x c e,fun p h => hp p (by simpa using h)⟩
  have fpD : ∀ {pins' : List (Addr × Obj)} {H' : Hp},H' D = none -> (∀ p ∈ pins',p.1 ≠ D) -> qZ (zy X (own ++ fr) scope C { s2 with heap := h3 } H2 (D :: fp)) pins' H' D := fun {pins' H'} hn hp =>
    ⟨hn,hDl,nfs D List.mem_cons_self,.inl List.mem_cons_self,fun x c e => hx x c e,fun p h => hp p (by simpa using h)⟩
  have loop : ∀ s4 : Shared,s4 = { s2 with heap := h1,toks := s2.toks + ([] : List (Str × Value)).length } ->
      codeAny (model X.prog X.w) X.A (.compLoop (lc2 elt tg1 iter1 ifs1 tg iter ifs scope pos) 0 (.ref it) (.ref D) (compEnvC scope (qu X.env.cells scope.names []) C X.env))
        (compPost (model X.prog X.w) X.A X.xe none (EP X pins σ Q) (.ref D) C) s4 := by
    intro s4 e4
    refine VO (hs2 C) (fun n s' => ∃ i ys its H',∃ z : Nat,Inv (zy X (own ++ fr) scope C { s2 with heap := h3 } H2 (D :: fp)) [] (upS own.length js σ) H' s' /\ tn i s'.heap /\ (∀ b ∈ fp,H' b = none) /\ H' D = none /\
      s'.heap.get? D = some { cls := .type "list",data := .seq (its : List Value).toArray z } /\ Vals ys its /\ W i n ys H') ?_ m0 ?_
    · rintro n s5 ⟨i,ys,its,H5,z5,I5,st5,fr5,hD5,ho5,rv5,w5⟩
      have I5' := I5.pinned (fp := [D]) (fun b hb => by rw [List.mem_singleton.mp hb];exact fpD hD5 (fun p hp => absurd hp (by simp))) (fun b hb => by
        rw [List.mem_singleton.mp hb];exact ⟨_,ho5,fun v q => nomatch q⟩)
      have pD : ∀ p ∈ [] ++ zD [D] s5.heap,p.1 = D := fun p hp => by
        rw [List.nil_append] at hp
        exact List.mem_singleton.mp (qV hp).1
      have mD : (D,({ cls := .type "list",data := .seq its.toArray z5 } : Obj)) ∈ [] ++ zD [D] s5.heap := by
        rw [List.nil_append];exact zX (List.mem_singleton.mpr rfl) ho5
      have fp5 : ∀ {H' : Hp},(∀ b ∈ fp,H' b = none) -> ∀ b ∈ fp,qZ (zy X (own ++ fr) scope C { s2 with heap := h3 } H2 (D :: fp)) ([] ++ zD [D] s5.heap) H' b := fun hn b hb => fpB hb (hn b hb) fun p hp => by
        rw [pD p hp];exact fD b hb
      rcases turn i n ys H5 w5 with ⟨stop,hlen,q⟩ | ⟨go,N,hN,step⟩
      · refine thn (T.done (zy X (own ++ fr) scope C { s2 with heap := h3 } H2 (D :: fp)) rfl rfl rfl hc i _ s5 _ H5 _ I5' (fp5 fr5) st5 stop) fun r s6 ⟨hr,I6⟩ => ?_
        subst hr
        obtain ⟨m6,hn6,_⟩ := I6.loc
        refine ⟨m6,hn6,fun h7 hs7 => ?_⟩
        obtain ⟨o6,nD6,_⟩ := I6.pin (D,_) (List.mem_append_right _ mD)
        have k7 : ∀ b o,b ≠ C -> s6.heap.get? b = some o -> h7.get? b = some o := fun b o hb e => hs7.extBut b o hb e
        refine ⟨.ref D,upd H5 D (.lst ys),?_,rfl,q D nD6⟩
        refine I3.call' (s' := { s6 with heap := h7 }) (ch := D :: fp) I6.os (vq (ZB I6.base (Nat.le_of_eq eC) k7) List.mem_cons_self (I2.hok.fresh ?_)) (xJ (ym I6.hok I6.free k7) nD6 ⟨hlen,its,z5,rv5,k7 D _ hDl o6⟩) I6.bare fun b hb => ?_
        · rw [<- eD];exact Nat.le_refl _
        · rcases List.mem_cons.mp hb with y | hb
          · subst y
            refine ⟨.inr (by rw [<- eD];exact I2.sz),by rw [<- eD];exact Nat.ne_of_gt I2.lt,fun x c e => ?_,fun p hp => ?_⟩
            · obtain ⟨v,q⟩ := I2.cell x c e
              rw [<- eD];exact Nat.ne_of_lt q.lt
            · rw [<- eD];exact Nat.ne_of_lt (Heap.lt_size (I2.pin p hp).1)
          · obtain ⟨_,g1,_,g3,g4,g5⟩ := f2 b hb
            exact ⟨g3,g1,g4,g5⟩
      · refine thn (T.item (zy X (own ++ fr) scope C { s2 with heap := h3 } H2 (D :: fp)) rfl rfl rfl hc i _ s5 _ H5 _ I5' (fp5 fr5) st5 go) fun r s6 ⟨u,hr,h6⟩ => ?_
        subst hr
        refine thn h6 fun _ s7 ⟨x,H7,I7,r7,y7,st7,fr7⟩ => ?_
        have I7' := I7.pinned (fp5 fr7) (T.obj _ _ st7)
        refine thn (hg _ _ _ _ _ s7 _ H7 x u _ I7' r7 (step x H7 y7)) fun _ s8 ⟨σ8,H8,I8,hd8,q8⟩ => ?_
        refine thn (hf _ _ _ _ _ s8 σ8 H8 _ I8 q8) fun ok s9 ⟨H9,I9,q9⟩ => ?_
        have weak : ∀ {H' : Hp} {s' : Shared},Inv (zy X (own ++ fr) scope C { s2 with heap := h3 } H2 (D :: fp)) (([] ++ zD [D] s5.heap) ++ zD fp s7.heap) σ8 H' s' ->
            Inv (zy X (own ++ fr) scope C { s2 with heap := h3 } H2 (D :: fp)) [] (upS own.length js σ) H' s' := fun {H' s'} J => by
          refine (J.unpinned).unpinned.weak (I5.len.trans J.len.symm) fun k v e => ?_
          obtain ⟨hn,e1,_⟩ := jD e
          rw [<- hd8,List.getElem?_drop] at e1
          rw [<- e1]
          congr 1
          omega
        have mF : ∀ b ∈ fp,∀ o,s7.heap.get? b = some o -> (b,o) ∈ ([] ++ zD [D] s5.heap) ++ zD fp s7.heap := fun b hb o e => List.mem_append_right _ (zX hb e)
        have mD' := List.mem_append_left (zD fp s7.heap) mD
        have frB : ∀ {H' : Hp} {s' : Shared},Inv (zy X (own ++ fr) scope C { s2 with heap := h3 } H2 (D :: fp)) (([] ++ zD [D] s5.heap) ++ zD fp s7.heap) σ8 H' s' -> ∀ b ∈ fp,H' b = none := fun {H' s'} J b hb => by
          obtain ⟨o,e,_⟩ := T.obj _ _ st7 b hb
          exact (J.pin (b,o) (List.mem_append_right _ (mF b hb o e))).2.1
        cases ok with
        | false =>
          have q9' : N ys H9 := by simpa using q9
          obtain ⟨m',hm,w'⟩ := hN _ _ q9'
          obtain ⟨o9,nD9,_⟩ := I9.pin (D,_) (List.mem_append_right _ mD')
          exact ⟨m',hm,i + 1,ys,its,H9,z5,weak I9,T.keep _ _ _ st7 fun b hb o e => (I9.pin (b,o) (List.mem_append_right _ (mF b hb o e))).1,frB I9,nD9,o9,rv5,w'⟩
        | true =>
          have q9' : tIn wi g tf te ys N σ8 H9 := by simpa using q9
          refine thn (hi2 _ _ _ _ _ s9 σ8 H9 _ I9 q9') fun xv s10 h10 => thn h10 fun itv s11 ⟨it2,fp2,tn2,J2,H11,ei,I11,T2,st11,f11,W2,⟨m2,w2⟩,turn2⟩ => ?_
          subst ei
          have I12 : Inv (zy X (own ++ fr) scope C { s2 with heap := h3 } H2 (D :: fp)) (zD fp s7.heap) σ8 H11 s11 := I11.pins_of fun p hp => I11.pin p (List.mem_append_right _ (List.mem_append_right _ hp))
          obtain ⟨o11,nD11,_⟩ := I11.pin (D,_) (List.mem_append_right _ mD')
          have pF : ∀ p ∈ zD fp s7.heap,p.1 ≠ D := fun p hp => Ne.symm (fD _ (qV hp).1)
          have nD2 : ∀ b ∈ fp2,D ≠ b := fun b hb => (f11 b hb).2.2.2.2.2 (D,_) (List.mem_append_right _ mD')
          have f12 : ∀ b ∈ fp2,∀ H' : Hp,H' b = none -> qZ (zy X (own ++ fr) scope C { s2 with heap := h3 } H2 (D :: fp)) (zD fp s7.heap) H' b := fun b hb H' hn => by
            obtain ⟨_,a2,a3,a4,a5,a6⟩ := f11 b hb
            exact ⟨hn,a2,a3,a4,a5,fun p hp => a6 p ((List.mem_append.mp hp).elim (fun q => List.mem_append_left _ q) fun q => List.mem_append_right _ (List.mem_append_right _ q))⟩
          have loop2 : codeAny (model X.prog X.w) X.A (.compLoop (lc2 elt tg1 iter1 ifs1 tg iter ifs scope pos) 1 (.ref it2) (.ref D) (compEnvC scope (qu X.env.cells scope.names []) C X.env)) (fun r s7 => match r with
              | .ok _ => ∃ m,m < n /\ ∃ i ys its H',∃ z : Nat,Inv (zy X (own ++ fr) scope C { s2 with heap := h3 } H2 (D :: fp)) [] (upS own.length js σ) H' s7 /\ tn i s7.heap /\ (∀ b ∈ fp,H' b = none) /\ H' D = none /\ s7.heap.get? D = some { cls := .type "list",data := .seq (its : List Value).toArray z } /\ Vals ys its /\ W i m ys H'
              | .error _ => False) s11 := by
            refine VF (N := N) hc (hg2 _ _ _ _) (hf2 _ _ _ _) (he _ _ _ _) T2 (fun H' hn => fpD hn pF) f12 nD2 I12 st11 (fun b hb => (f11 b hb).1) nD11 o11 rv5 w2 turn2 fun zs its' z' H' s' I' nD' o' rv' q' => ?_
            obtain ⟨m',hm,w'⟩ := hN _ _ q'
            refine ⟨m',hm,i + 1,zs,its',H',z',?_,T.keep _ _ _ st7 fun b hb o e => (I'.pin (b,o) (List.mem_append_right _ (zX hb e))).1,fun b hb => ?_,nD',o',rv',w'⟩
            · refine (I'.pins_of (pins' := []) fun p hp => absurd hp (by simp)).weak (I5.len.trans I'.len.symm) fun k v e => ?_
              obtain ⟨hn,e1,_⟩ := jD e
              rw [<- hd8,List.getElem?_drop] at e1
              rw [<- e1]
              congr 1
              omega
            · obtain ⟨o,e,_⟩ := T.obj _ _ st7 b hb
              exact (I'.pin (b,o) (List.mem_append_right _ (zX hb e))).2.1
          exact jK loop2 (T2.self X.A 0 _ _ _ st11 loop2)
    · subst e4
      exact ⟨0,[],[],H2,0,I4,T.keep _ _ _ st2 fun b hb o e => k4 b o (k3 b o e),fun b hb => (f2 b hb).1,I2.hok.fresh (by rw [<- eD];exact Nat.le_refl _),hacc,.nil,w0⟩
  exact codeAny_compStart_list (loop _ rfl) (T.self X.A 0 _ _ _ (T.keep _ _ _ st2 fun b hb o e => k4 b o (k3 b o e)) (loop _ rfl))
end
end L2
set_option Elab.async false
set_option linter.all false
set_option maxRecDepth 100000
set_option maxHeartbeats 4000000
namespace L2
open PySem PySem.Spec PyProof.Rows
section
variable {X : Cx}
inductive x8 (K : PySem.W.Frag) (xs : List V) (H : Hp) (Q : VK) : Prop
  | mk (p : Addr) (bs : List Bool) (_ : xs = [.ref p]) (_ : SqL K H p (bs.map V.bl)) (_ : Q (.bl (bs.any id)) H) : x8 K xs H Q
theorem Jy (hc : X.calm = true) : CallR X (.builtin "any") (x8 X.K) := by
  intro pins s σ H xs us Q I r h
  obtain ⟨p,bs,rfl,hq,q⟩ := h
  obtain ⟨u,rfl,ru⟩ := ja r
  cases ru
  obtain ⟨its,rv,pl,hz⟩ := I.list hq
  have hl := pl.isList
  have hpl : p ≠ s.heap.objs.size := by
    obtain ⟨o,e,_⟩ := hl
    exact Nat.ne_of_lt (Heap.lt_size e)
  refine call_any_walk (wpAny_pyIter_list hl ?_)
  refine ⟨s.heap.objs.size,_,_,_,_,_,fun i => bs.getD i false,rfl,Walks.list (prog := X.prog) (w := X.w) (A := X.A.in1) (I.ok.hd hc) _ p hpl its.toArray,⟨⟨_,Heap.get?_push_size _ rfl,rfl,rfl⟩,hl.push _⟩,?_,fun h' tk hk => ?_⟩
  · intro i v s' Q' E' hP hQ
    have hP : its.toArray[i]? = some v := hP
    have e1 : its[i]? = some v := by simpa using hP
    have hi : i < bs.length := by
      have h1 := (List.getElem?_eq_some_iff.mp e1).1
      have h2 := rv.length
      rw [List.length_map] at h2
      omega
    have e2 : (bs.map V.bl)[i]? = some (.bl bs[i]) := by simp [hi]
    obtain ⟨u',eu,ru⟩ := rv.get e2
    rw [e1] at eu
    cases eu
    cases ru
    have e3 : bs.getD i false = bs[i] := by simp [hi]
    have hQ2 : Q' (bs.getD i false) s' := hQ
    rw [e3] at hQ2
    exact wpAny_truthy_bool hQ2
  · have k : ∀ b o,s.heap.get? b = some o -> h'.get? b = some o := fun b o e => hk b o (by simp;exact Nat.ne_of_lt (Heap.lt_size e)) (Heap.get?_push_of_some _ e)
    have ea : (List.range its.toArray.size).any (fun i => bs.getD i false) = bs.any id := by
      have hlen : its.toArray.size = bs.length := by
        have := rv.length
        rw [List.length_map] at this
        simp only [List.size_toArray];omega
      rw [hlen,Bool.eq_iff_iff,List.any_eq_true,List.any_eq_true]
      constructor
      · rintro ⟨i,hi,e⟩
        have hi := List.mem_range.mp hi
        exact ⟨bs[i],List.getElem_mem hi,by simpa [hi] using e⟩
      · rintro ⟨b,hb,e⟩
        obtain ⟨i,hi,rfl⟩ := List.mem_iff_getElem.mp hb
        exact ⟨i,List.mem_range.mpr hi,by simpa [hi] using e⟩
    exact ⟨.bl (bs.any id),H,I.kept k,by rw [ea];rfl,q⟩
theorem XZ : bootBuiltins "any" = some (.builtin "any") := by decide +kernel
end
end L2
set_option Elab.async false
set_option linter.all false
set_option maxRecDepth 100000
set_option maxHeartbeats 4000000
namespace L2
open PySem PySem.Spec PyProof.Rows
theorem jI {K : PySem.W.Frag} {a : Addr} {xs : List V} {g : TG} {tf : TT} {te : TE} {σ0 : St} {n : Nat} {R : List V -> Hp -> Prop} {H : Hp} (Pv : Nat -> List V -> Hp -> Prop) (h0 : Pv 0 [] H)
    (h1 : ∀ i zs H,Pv i zs H -> SqL K H a xs)
    (hs : ∀ i x zs H T,xs[i]? = some x -> Pv i zs H -> H T = none -> g (.ref T) σ0 (upd H T (.tup [.int i,x])) fun σ4 H4 => σ4.drop n = σ0.drop n /\ tf σ4 H4 fun b H5 =>
      if b = true then te σ4 H5 fun v H6 => zs.length < sizeLine /\ Pv (i + 1) (zs ++ [v]) H6 else Pv (i + 1) zs H5)
    (hd : ∀ zs H,Pv xs.length zs H -> zs.length <= sizeLine /\ R zs H) :
    ∃ W : Nat -> Nat -> List V -> Hp -> Prop,(∃ m,W 0 m [] H) /\ ∀ i m zs H2,W i m zs H2 ->
      ((Ite K a).stop i H2 /\ zs.length <= sizeLine /\ R zs H2) \/
      ((Ite K a).go i H2 /\ ∃ N : List V -> Hp -> Prop,(∀ zs H',N zs H' -> ∃ m',m' < m /\ W (i + 1) m' zs H') /\ ∀ x H3,(Ite K a).yld i H2 x H3 -> g x σ0 H3 fun σ4 H4 => σ4.drop n = σ0.drop n /\ tf σ4 H4 fun b H5 =>
        if b = true then te σ4 H5 fun y H6 => zs.length < sizeLine /\ N (zs ++ [y]) H6 else N zs H5) := by
  refine ⟨fun i m zs H2 => m = xs.length - i /\ i <= xs.length /\ Pv i zs H2,⟨_,rfl,Nat.zero_le _,h0⟩,?_⟩
  rintro i m zs H2 ⟨rfl,hi,p⟩
  have q := h1 i zs H2 p
  by_cases hlt : i < xs.length
  · refine .inr ⟨⟨xs,xs[i],q,by simp [hlt]⟩,Pv (i + 1),fun zs' H' p' => ⟨_,by omega,rfl,hlt,p'⟩,fun x H3 y => ?_⟩
    obtain ⟨T,z,e1,hT,e2,y⟩ := y
    subst e1 e2
    exact hs i z zs H2 T (y xs q) p hT
  · have e : i = xs.length := by omega
    subst e
    obtain ⟨z1,z2⟩ := hd zs H2 p
    exact .inl ⟨⟨xs,q,Nat.le_refl _⟩,z1,z2⟩
section
variable {X : Cx} {elt iter1 : Expr} {ifs1 : List Expr} {iter : Expr} {ifs : List Expr} {scope : Scope} {pos : Pos} {wi wi1 : TI} {tf tf1 : TT} {te : TE} {x y z : Str} {px py pz tp tp2 : Pos} {kk kk2 : Nat}
end
end L2
set_option Elab.async false
set_option linter.all false
set_option maxRecDepth 100000
set_option maxHeartbeats 4000000
namespace L2
open PySem PySem.Spec PyProof.Rows
section
variable {X : Cx}
end
end L2
set_option Elab.async false
set_option linter.all false
set_option maxRecDepth 100000
set_option maxHeartbeats 4000000
namespace L2
open PySem PySem.Spec PyProof.Rows
theorem zal {X : Cx} {e0 e1 e2 e3 e4 e5 e6 e7 e8 e9 e10 e11 e12 e13 e14 e15 e16 : Expr} {t0 t1 t2 t3 t4 t5 t6 t7 t8 t9 t10 t11 t12 t13 t14 t15 t16 : TE} (h0 : PE X e0 t0) (h1 : PE X e1 t1) (h2 : PE X e2 t2) (h3 : PE X e3 t3) (h4 : PE X e4 t4) (h5 : PE X e5 t5) (h6 : PE X e6 t6) (h7 : PE X e7 t7) (h8 : PE X e8 t8) (h9 : PE X e9 t9) (h10 : PE X e10 t10) (h11 : PE X e11 t11) (h12 : PE X e12 t12) (h13 : PE X e13 t13) (h14 : PE X e14 t14) (h15 : PE X e15 t15) (h16 : PE X e16 t16) (h : ([e0,e1,e2,e3,e4,e5,e6,e7,e8,e9,e10,e11,e12,e13,e14,e15,e16]).all Qr = true := by rfl) : PA X [e0,e1,e2,e3,e4,e5,e6,e7,e8,e9,e10,e11,e12,e13,e14,e15,e16] (qf t0 (qf t1 (qf t2 (qf t3 (qf t4 (qf t5 (qf t6 (qf t7 (qf t8 (qf t9 (qf t10 (qf t11 (qf t12 (qf t13 (qf t14 (qf t15 (qf t16 X8))))))))))))))))) := by
  have hz := List.all_eq_true.mp h
  exact (ze h0 (ze h1 (ze h2 (ze h3 (ze h4 (ze h5 (ze h6 (ze h7 (ze h8 (ze h9 (ze h10 (ze h11 (ze h12 (ze h13 (ze h14 (ze h15 (ze h16 zg (zB (hz _ (by simp)))) (zB (hz _ (by simp)))) (zB (hz _ (by simp)))) (zB (hz _ (by simp)))) (zB (hz _ (by simp)))) (zB (hz _ (by simp)))) (zB (hz _ (by simp)))) (zB (hz _ (by simp)))) (zB (hz _ (by simp)))) (zB (hz _ (by simp)))) (zB (hz _ (by simp)))) (zB (hz _ (by simp)))) (zB (hz _ (by simp)))) (zB (hz _ (by simp)))) (zB (hz _ (by simp)))) (zB (hz _ (by simp)))) (zB (hz _ (by simp))))
section
variable {X : Cx}
inductive xz (K : PySem.W.Frag) (xs : List V) (H : Hp) (Q : VK) : Prop
  | mk (v : V) (d : Dat) (_ : xs = [v]) (_ : Rep K H d v) (_ : d.shw = true) (_ : d.blk <= 1048576) (_ : d.py.depth <= 60) (_ : Q (.str d.py.shown) H) : xz K xs H Q
theorem vU (hg : X.A.guards = some []) (hu : X.A.units + 64 < cLine) : CallR X (.builtin "repr") (xz X.K) := by
  intro pins s σ H xs us Q I r h
  obtain ⟨v,d,rfl,hr,h1,h2,h3,q⟩ := h
  obtain ⟨u,rfl,ru⟩ := ja r
  obtain ⟨s1,s2,s3⟩ := Dat.py_short d h1
  have fits : d.py.shown.length <= sizeLine := PyData.shown_fits_bulk (B := 13) (by decide) (by decide) s1 (by rw [Dat.py_blk];exact h2)
  have onRef : ∀ (a : Addr),v = .ref a -> wpAny (model X.prog X.w) X.A (call (.builtin "repr") [u]) (EP X pins σ Q) X.xe s := fun a e => by
    subst e
    obtain ⟨as,q1⟩ := hr.reads I ru
    cases (show u = _ from ru)
    exact repr_of_reads' q1 s2 (PyData.noDict_hsm s3) hg (by omega) (fun _ _ e => e) (fun h' u tk hk => ⟨.str d.py.shown,H,I.kept hk,⟨u,rfl⟩,q⟩) fits
  cases d with
  | non =>
    cases (show v = _ from hr)
    cases (show u = _ from ru)
    exact P.repr_of_none ⟨.str _,H,I.tok _,⟨_,rfl⟩,q⟩
  | bl b =>
    cases (show v = _ from hr)
    cases (show u = _ from ru)
    refine P.repr_of_bool ⟨.str _,H,I.tok _,⟨s.toks,?_⟩,q⟩
    cases b <;> rfl
  | int i =>
    cases (show v = _ from hr)
    obtain ⟨t,rfl⟩ := ru
    exact P.repr_of_int (yh (of_decide_eq_true h1)) ⟨.str _,H,I.tok _,⟨_,rfl⟩,q⟩
  | str x =>
    cases (show v = _ from hr)
    obtain ⟨t,rfl⟩ := ru
    exact P.repr_of_str ⟨.str _,H,I.tok _,⟨_,rfl⟩,q⟩ fits
  | lst ds => obtain ⟨a,_,e,_⟩ := id hr;exact onRef a e
  | tup ds => obtain ⟨a,_,e,_⟩ := id hr;exact onRef a e
theorem wO : bootBuiltins "repr" = some (.builtin "repr") := by decide +kernel
def tLT (K : PySem.W.Frag) (t : TE) : TT := fun σ H Q => t σ H fun x H1 => ∃ a xs,x = .ref a /\ SqL K H1 a xs /\ Q (!xs.isEmpty) H1
theorem Vj {e : Expr} {t : TE} (h : PE X e t) (he : ∀ whole,isTrue e X.env whole = (do let v <- whole;standAt e.pos;holding [v] (truthy v)) := by intro _;rfl) : PT X e (tLT X.K t) := by
  intro pins s σ H Q I hw
  refine isTrue_plain (thn (h pins s σ H _ I hw) fun v s1 ⟨x,H1,I1,r1,q1⟩ => ?_) (he _)
  obtain ⟨a,xs,rfl,hq,q⟩ := q1
  cases (show v = _ from r1)
  obtain ⟨its,rv,pl,hz⟩ := I1.list hq
  have hl := rv.length
  refine wpAny_truthy_list pl.isList (by rw [List.size_toArray,<- hl];rw [sizeLine_eq] at hz;omega) ?_
  have e : (!xs.isEmpty) = (!its.toArray.isEmpty) := by
    cases xs with
    | nil => cases rv;rfl
    | cons y ys => cases rv;rfl
  first
    | exact ⟨H1,I1.tok _,by rw [e] at q;simpa using q⟩
    | exact ⟨H1,I1,by rw [e] at q;simpa using q⟩
end
end L2
set_option Elab.async false
set_option linter.all false
set_option maxRecDepth 100000
set_option maxHeartbeats 4000000
namespace L2
open PySem PySem.Spec PyProof.Rows
section
variable {X : Cx} {elt tg1 iter1 : Expr} {ifs1 : List Expr} {tg iter : Expr} {ifs : List Expr} {scope : Scope} {pos : Pos} {wi wi1 : TI} {g g1 : TG} {tf tf1 : TT} {te : TE} {x z : Str} {px pz tp tp2 : Pos} {kk kk2 : Nat}
end
end L2
set_option Elab.async false
set_option linter.all false
set_option maxRecDepth 100000
namespace L2
open PySem PySem.Spec PyProof.Rows
section
variable {κ : Type} [DecidableEq κ]
def xB (kvs : List (κ × V)) (k : κ) : Option V := (kvs.find? fun kv => decide (kv.1 = k)).map (·.2)
def jF (kvs : List (κ × V)) (k : κ) (v : V) : List (κ × V) :=
  if (kvs.any fun kv => decide (kv.1 = k)) = true then kvs.map (fun kv => if kv.1 = k then (kv.1,v) else kv) else kvs ++ [(k,v)]
def Wd (kvs : List (κ × V)) (k : κ) : List (κ × V) := kvs.filter fun kv => decide (kv.1 ≠ k)
theorem xa {p : κ × V} {r : List (κ × V)} {k : κ} (e : p.1 = k) : xB (p :: r) k = some p.2 := by simp [xB,List.find?_cons,e]
theorem xb {p : κ × V} {r : List (κ × V)} {k : κ} (e : ¬ p.1 = k) : xB (p :: r) k = xB r k := by simp [xB,List.find?_cons,e]
theorem yA (k : κ) : ∀ kvs : List (κ × V),(kvs.any fun kv => decide (kv.1 = k)) = (xB kvs k).isSome
  | [] => rfl
  | p :: r => by
    rw [List.any_cons]
    by_cases e : p.1 = k
    · simp only [xa e,decide_eq_true e,Bool.true_or,Option.isSome_some]
    · rw [xb e,decide_eq_false e,Bool.false_or];exact yA k r
theorem xR (kvs : List (κ × V)) (k : κ) (v : V) : (jF kvs k v).length <= kvs.length + 1 := by
  unfold jF
  split
  · rw [List.length_map];omega
  · rw [List.length_append,List.length_cons,List.length_nil];omega
theorem RelO.isSome_eq {o : Option V} {u : Option Value} (r : RelO o u) : o.isSome = u.isSome := by
  cases o with
  | none => cases u with
    | none => rfl
    | some _ => exact (show False from r).elim
  | some _ => cases u with
    | none => exact (show False from r).elim
    | some _ => rfl
theorem RelO.getD {o : Option V} {u : Option Value} {d : V} {d' : Value} (r : RelO o u) (rd : RelV d d') : RelV (o.getD d) (u.getD d') := by
  cases o with
  | none => cases u with
    | none => exact rd
    | some _ => exact (show False from r).elim
  | some _ => cases u with
    | none => exact (show False from r).elim
    | some _ => exact r
theorem KV.val {kvs : List (κ × V)} {vs : List (κ × Value)} (r : KV kvs vs) (k : κ) : RelO (xB kvs k) (valueAt vs k) := by
  unfold KV at r
  induction r with
  | nil => exact True.intro
  | @cons p q ps qs h t ih =>
    obtain ⟨h1,h2⟩ := h
    by_cases e : p.1 = k
    · have e' : q.1 = k := h1.symm.trans e
      have b : valueAt (q :: qs) k = some q.2 := by simp [valueAt,List.find?_cons,e']
      rw [xa e,b];exact h2
    · have e' : ¬ q.1 = k := fun z => e (h1.trans z)
      have b : valueAt (q :: qs) k = valueAt qs k := by simp [valueAt,List.find?_cons,e']
      rw [xb e,b];exact ih
theorem KV.any {kvs : List (κ × V)} {vs : List (κ × Value)} (r : KV kvs vs) (k : κ) : (kvs.any fun kv => decide (kv.1 = k)) = vs.any fun kv => decide (kv.1 = k) := by
  unfold KV at r
  induction r with
  | nil => rfl
  | cons h t ih => rw [List.any_cons,List.any_cons,ih,h.1]
theorem KV.repl {kvs : List (κ × V)} {vs : List (κ × Value)} (r : KV kvs vs) (k : κ) {y : V} {u : Value} (ry : RelV y u) :
    KV (kvs.map fun kv => if kv.1 = k then (kv.1,y) else kv) (vs.map fun kv => if kv.1 = k then (kv.1,u) else kv) := by
  unfold KV at r ⊢
  induction r with
  | nil => exact .nil
  | @cons p q ps qs h t ih =>
    rw [List.map_cons,List.map_cons]
    refine .cons ?_ ih
    obtain ⟨h1,h2⟩ := h
    by_cases e : p.1 = k
    · rw [if_pos e,if_pos (h1.symm.trans e)];exact ⟨h1,ry⟩
    · rw [if_neg e,if_neg (fun z => e (h1.trans z))];exact ⟨h1,h2⟩
theorem KV.put {kvs : List (κ × V)} {vs : List (κ × Value)} (r : KV kvs vs) (k : κ) {y : V} {u : Value} (ry : RelV y u) : KV (jF kvs k y) (stored vs k u) := by
  unfold jF stored
  rw [r.any k]
  by_cases e : (vs.any fun kv => decide (kv.1 = k)) = true
  · rw [if_pos e,if_pos e];exact r.repl k ry
  · rw [if_neg e,if_neg e];exact Paired.snoc r ⟨rfl,ry⟩
theorem KV.drop {kvs : List (κ × V)} {vs : List (κ × Value)} (r : KV kvs vs) (k : κ) : KV (Wd kvs k) (without vs k) := by
  unfold KV at r ⊢
  unfold Wd without
  induction r with
  | nil => exact .nil
  | @cons p q ps qs h t ih =>
    obtain ⟨h1,h2⟩ := h
    rw [List.filter_cons,List.filter_cons]
    by_cases e : p.1 = k
    · have a : ¬ decide (p.1 ≠ k) = true := by simp [e]
      have b : ¬ decide (q.1 ≠ k) = true := by simp [h1.symm.trans e]
      rw [if_neg a,if_neg b];exact ih
    · have e' : ¬ q.1 = k := fun z => e (h1.trans z)
      have a : decide (p.1 ≠ k) = true := by simp [e]
      have b : decide (q.1 ≠ k) = true := by simp [e']
      rw [if_pos a,if_pos b];exact .cons ⟨h1,h2⟩ ih
theorem KV.keys {kvs : List (κ × V)} {vs : List (κ × Value)} (r : KV kvs vs) : kvs.map (·.1) = vs.map (·.1) := by
  unfold KV at r
  induction r with
  | nil => rfl
  | cons h t ih => rw [List.map_cons,List.map_cons,ih,h.1]
theorem KV.length {kvs : List (κ × V)} {vs : List (κ × Value)} (r : KV kvs vs) : kvs.length = vs.length := Paired.length r
end
theorem jJ {P : Program} {w : World} {k : Key} {u : Value} (r : RelV (kV k) u) : (zO P w).is k u = true := by
  cases k with
  | inl i => obtain ⟨t,e⟩ := (show ∃ t,u = Value.int i t from r);subst e;exact yZ P w i t
  | inr x => obtain ⟨t,e⟩ := (show ∃ t,u = Value.str x t from r);subst e;exact yY P w x t
theorem jV {P : Program} {w : World} : ∀ {ks : List Key} {us : List Value},Vals (ks.map kV) us -> ItemsAre (zO P w) ks us
  | [],_,r => by rw [List.map_nil] at r;cases r;exact .nil
  | k :: ks,_,r => by
    rw [List.map_cons] at r
    cases r with
    | cons h t => exact .cons (jJ h) (jV t)
abbrev KT (H : Hp) : List (List Key × V) -> List (List Key × Addr × Value) -> Prop := Paired fun p q => p.1 = q.1 /\ H q.2.1 = some (.tup (p.1.map kV)) /\ RelV p.2 q.2.2
theorem KT.val {H : Hp} {kvs : List (List Key × V)} {xs : List (List Key × Addr × Value)} (r : KT H kvs xs) (k : List Key) : RelO (xB kvs k) ((atKey xs k).map (·.2)) := by
  induction r with
  | nil => exact True.intro
  | @cons p q ps qs h t ih =>
    obtain ⟨h1,_,h2⟩ := h
    by_cases e : p.1 = k
    · have e' : q.1 = k := h1.symm.trans e
      have b : atKey (q :: qs) k = some q.2 := by simp [atKey,List.find?_cons,e']
      rw [xa e,b];exact h2
    · have e' : ¬ q.1 = k := fun z => e (h1.trans z)
      have b : atKey (q :: qs) k = atKey qs k := by simp [atKey,List.find?_cons,e']
      rw [xb e,b];exact ih
theorem KT.repl {H : Hp} {kvs : List (List Key × V)} {xs : List (List Key × Addr × Value)} (r : KT H kvs xs) (k : List Key) {y : V} {u : Value} (ry : RelV y u) :
    KT H (kvs.map fun kv => if kv.1 = k then (kv.1,y) else kv) (xs.map (putAt k u)) := by
  induction r with
  | nil => exact .nil
  | @cons p q ps qs h t ih =>
    rw [List.map_cons,List.map_cons]
    refine .cons ?_ ih
    obtain ⟨h1,h2,h3⟩ := h
    unfold putAt
    by_cases e : p.1 = k
    · rw [if_pos e,if_pos (h1.symm.trans e)];exact ⟨h1,h2,ry⟩
    · rw [if_neg e,if_neg (fun z => e (h1.trans z))];exact ⟨h1,h2,h3⟩
theorem KT.put {H : Hp} {kvs : List (List Key × V)} {xs : List (List Key × Addr × Value)} (r : KT H kvs xs) (k : List Key) {b : Addr} {y : V} {u : Value} (hb : H b = some (.tup (k.map kV))) (ry : RelV y u) :
    KT H (jF kvs k y) (storedH xs k b u) := by
  have e : (kvs.any fun kv => decide (kv.1 = k)) = (atKey xs k).isSome := by
    rw [yA,(r.val k).isSome_eq,Option.isSome_map]
  unfold jF storedH
  rw [e]
  by_cases q : (atKey xs k).isSome = true
  · rw [if_pos q,if_pos q];exact r.repl k ry
  · rw [if_neg q,if_neg q];exact Paired.snoc r ⟨rfl,hb,ry⟩
theorem KT.keeps {H H' : Hp} {kvs : List (List Key × V)} {xs : List (List Key × Addr × Value)} (r : KT H kvs xs) (ht : ∀ b ys,H b = some (.tup ys) -> H' b = some (.tup ys)) : KT H' kvs xs :=
  Paired.mapP r fun _ _ z => ⟨z.1,ht _ _ z.2.1,z.2.2⟩
section
variable {P : Program} {w : World} {H : Hp} {h : Heap} {a : Addr}
theorem V6 {u : HO} (ok : HOk P w H h) (e : Rd H a u) : ObjOk P w H h a u := e.ok ok
theorem wJ {kvs : List (Key × V)} (ok : HOk P w H h) (e : Rd H a (.dK kvs)) : kvs.length <= sizeLine /\ (a == sysModules) = false /\ ∃ vs,KV kvs vs /\ h.DictOf (zO P w) a vs :=
  show ObjOk P w H h a (.dK kvs) from V6 ok e
theorem Y2 {kvs : List (Key × V)} (ok : HOk P w H h) (e : H a = some (.dK kvs)) : kvs.length <= sizeLine /\ (a == sysModules) = false /\ ∃ vs,KV kvs vs /\ h.DictOf (zO P w) a vs := wJ ok (.inl e)
theorem yj {ks : List Key} (ok : HOk P w H h) (e : H a = some (.tup (ks.map kV))) : (tupleKind (zO P w)).is h ks a := by
  obtain ⟨_,its,r,⟨o,h1,h2,n,h3⟩,_⟩ := (show ObjOk P w H h a (.tup (ks.map kV)) from ok a _ e)
  exact ⟨o,its.toArray,n,h1,h2,h3,by simpa using jV r⟩
theorem QA {kvs : List (List Key × V)} (ok : HOk P w H h) (e : Rd H a (.dT kvs)) : kvs.length <= sizeLine /\ (a == sysModules) = false /\
    ∃ xs,KT H kvs xs /\ h.DictOfH (tupleKind (zO P w)) a xs := by
  obtain ⟨z,y,xs,r,o,es,ep,h1,h2,h3,h4,h5⟩ := (show ObjOk P w H h a (.dT kvs) from V6 ok e)
  refine ⟨z,y,xs,r,o,es,ep,h1,h2,h3,h4,fun x hx => ?_,h5⟩
  have all : ∀ {l : List (List Key × V)} {m : List (List Key × Addr × Value)},KT H l m -> ∀ x ∈ m,(tupleKind (zO P w)).is h x.1 x.2.1 := by
    intro l m q
    induction q with
    | nil => intro x hx;exact nomatch hx
    | @cons p q ps qs hq t ih =>
      intro x hx
      rcases List.mem_cons.mp hx with e | hx
      · subst e
        exact yj ok (by rw [<- hq.1];exact hq.2.1)
      · exact ih x hx
  exact all r x hx
theorem Y1 {kvs : List (List Key × V)} (ok : HOk P w H h) (e : H a = some (.dT kvs)) : kvs.length <= sizeLine /\ (a == sysModules) = false /\
    ∃ xs,KT H kvs xs /\ h.DictOfH (tupleKind (zO P w)) a xs := QA ok (.inl e)
end
def DGet (H : Hp) (a : Addr) (y : V) (r : Option V) : Prop :=
  (∃ kvs k,Rd H a (.dK kvs) /\ y = kV k /\ r = xB kvs k) \/ ∃ kvs k b,Rd H a (.dT kvs) /\ y = .ref b /\ H b = some (.tup (k.map kV)) /\ r = xB kvs k
def DPut (H : Hp) (a : Addr) (y v : V) (H' : Hp) : Prop :=
  (∃ kvs k,H a = some (.dK kvs) /\ y = kV k /\ kvs.length < sizeLine /\ H' = upd H a (.dK (jF kvs k v))) \/
  ∃ kvs k b,H a = some (.dT kvs) /\ y = .ref b /\ H b = some (.tup (k.map kV)) /\ kvs.length < sizeLine /\ H' = upd H a (.dT (jF kvs k v))
theorem DGet.k {H : Hp} {a : Addr} {kvs : List (Key × V)} {k : Key} (e : H a = some (.dK kvs)) : DGet H a (kV k) (xB kvs k) := .inl ⟨kvs,k,.inl e,rfl,rfl⟩
theorem DGet.t {H : Hp} {a b : Addr} {kvs : List (List Key × V)} {k : List Key} (e : H a = some (.dT kvs)) (eb : H b = some (.tup (k.map kV))) : DGet H a (.ref b) (xB kvs k) := .inr ⟨kvs,k,b,.inl e,rfl,eb,rfl⟩
theorem DPut.k {H : Hp} {a : Addr} {kvs : List (Key × V)} {k : Key} {v : V} (e : H a = some (.dK kvs)) (hl : kvs.length < sizeLine) : DPut H a (kV k) v (upd H a (.dK (jF kvs k v))) := .inl ⟨kvs,k,e,rfl,hl,rfl⟩
theorem DPut.t {H : Hp} {a b : Addr} {kvs : List (List Key × V)} {k : List Key} {v : V} (e : H a = some (.dT kvs)) (eb : H b = some (.tup (k.map kV))) (hl : kvs.length < sizeLine) :
    DPut H a (.ref b) v (upd H a (.dT (jF kvs k v))) := .inr ⟨kvs,k,b,e,rfl,eb,hl,rfl⟩
section
variable {X : Cx} {pins : List (Addr × Obj)} {σ : St} {H : Hp} {s : Shared} {a : Addr} {y v : V} {u r : Value} {o : Option V} {A : Around} {E : Value -> Shared -> Prop}
theorem Inv.big (I : Inv X pins σ H s) : sysModules < s.heap.objs.size := by
  have h : mainGlobals < s.heap.objs.size := (I.mod.glob.keeps I.bk).lt
  exact Nat.lt_trans (by decide) h
theorem VJ {Q : Value -> Shared -> Prop} (hu : A.units + 1 < cLine) (I : Inv X pins σ H s) (g : DGet H a y o) (ry : RelV y u) (h : ∀ s',Inv X pins σ H s' -> Q (.bool (!o.isSome)) s') :
    wpAny (model X.prog X.w) A (compareOp .NotIn u (.ref a)) Q E s := by
  rcases g with ⟨kvs,k,e,ey,l⟩ | ⟨kvs,k,b,e,ey,eb,l⟩
  · subst ey
    obtain ⟨z,hd,vs,rel,dd⟩ := wJ I.hok e
    refine wpAny_notIn_of (jJ ry) hd dd.mapOf ?_
    rw [<- (rel.val k).isSome_eq,<- l]
    exact h _ (I.tok _)
  · subst ey
    cases (show u = Value.ref b from ry)
    obtain ⟨z,hd,xs,rel,dd⟩ := QA I.hok e
    refine wpAny_notIn_heap (tupleKind_room_in1 hu) (yj I.hok eb) hd dd ?_
    have q := (rel.val k).isSome_eq
    rw [Option.isSome_map] at q
    rw [<- q,<- l]
    exact h _ (I.tok _)
theorem QE {h' : Heap} {t' : Nat} {ob : HO} (I : Inv X pins σ H s) (mu : Mut (H a)) (hs : Heap.SameBut a s.heap h') (he : ∃ q,h'.get? a = some q) (new : ObjOk X.prog X.w (upd H a ob) h' a ob) :
    Inv X pins σ (upd H a ob) { s with heap := h',toks := t' } :=
  I.write (x := a) (e := a) mu (.inl rfl) (fun b q hb z => (hs.2 b hb).trans z) he new
theorem XN {P : Program} {w : World} {H' : Hp} {h' : Heap} {kvs : List (Key × V)} {vs : List (Key × Value)} (z : kvs.length <= sizeLine) (hd : (a == sysModules) = false) (rel : KV kvs vs) (dd : h'.DictOf (zO P w) a vs) :
    ObjOk P w H' h' a (.dK kvs) := ⟨z,hd,vs,rel,dd⟩
theorem Jq {H' : Hp} {Q : Unit -> Shared -> Prop} (hu : A.units + 1 < cLine) (I : Inv X pins σ H s) (g : DPut H a y v H') (ry : RelV y u) (rv : RelV v r) (h : ∀ s',Inv X pins σ H' s' -> Q () s') :
    wpAny (model X.prog X.w) A (setItem (.ref a) u r) Q E s := by
  rcases g with ⟨kvs,k,e,ey,l,eH⟩ | ⟨kvs,k,b,e,ey,eb,l,eH⟩
  · subst ey eH
    obtain ⟨z,hd,vs,rel,dd⟩ := Y2 I.hok e
    have hz : vs.length <= sizeLine := by rw [<- rel.length];exact z
    have hl : (jF kvs k v).length <= sizeLine := by have := xR kvs k v;omega
    refine wpAny_setItem_pairs (hsz := hz) (jJ ry) dd fun h' dd' hs => h _ ?_
    have he : ∃ q,h'.get? a = some q := let ⟨q,_,_,hq,_⟩ := dd';⟨q,hq⟩
    exact QE I (by rw [e];exact True.intro) hs he (XN hl hd (rel.put k rv) dd')
  · subst ey eH
    cases (show u = Value.ref b from ry)
    obtain ⟨z,hd,xs,rel,dd⟩ := Y1 I.hok e
    have hz : xs.length <= sizeLine := by rw [<- Paired.length rel];exact z
    have hl : (jF kvs k v).length <= sizeLine := by have := xR kvs k v;omega
    refine wpAny_setItem_heap (hsz := hz) (tupleKind_room_in1 hu) (yj I.hok eb) dd fun h' dd' hs => h _ ?_
    obtain ⟨q,es,ep,hq,h2,h3,h4,_,h5⟩ := dd'
    refine QE I (by rw [e];exact True.intro) hs ⟨q,hq⟩ ⟨hl,hd,_,(rel.put k eb rv).keeps fun c ys ec => ?_,q,es,ep,hq,h2,h3,h4,h5⟩
    rw [zw (YS ec e (fun z => nomatch z))]
    exact ec
end
section
variable {X : Cx} {pins : List (Addr × Obj)} {σ : St} {H : Hp} {s : Shared} {a : Addr} {kvs : List (Key × V)} {k : Key} {u : Value} {A : Around} {E : Value -> Shared -> Prop}
end
def X9 (ty td : TE) : TE := fun σ H Q => ty σ H fun y H1 => td σ H1 fun x H2 => ∃ a o,x = .ref a /\ DGet H2 a y o /\ Q (.bl (!o.isSome)) H2
def Yu (td ty tv : TE) : TS := fun D σ H => tv σ H fun v H1 => td σ H1 fun x H2 => ty σ H2 fun y H3 => ∃ a H4,x = .ref a /\ DPut H3 a y v H4 /\ D.nx σ H4
section
variable {X : Cx} {o i e value : Expr} {pos pos' tpos : Pos} {td ty tv : TE}
theorem Jg (hu : X.A.units + 1 < cLine) (hi : PE X i ty) (ho : PE X o td) : PC X .NotIn i o (X9 ty td) := by
  intro pins s σ H Q I h
  refine thn (hi pins s σ H _ I h) fun iv s1 ⟨y,H1,I1,ry,q1⟩ => thn (ho pins s1 σ H1 _ I1 q1) fun u s2 ⟨x,H2,I2,rx,a,ov,ex,g,q2⟩ => ?_
  subst ex
  obtain rfl : u = Value.ref a := rx
  exact VJ hu I2 g ry fun s3 I3 => ⟨.bl (!ov.isSome),H2,I3,rfl,q2⟩
theorem Vk (hu : X.A.units + 1 < cLine) (ho : PE X o td) (hi : PE X i ty) (hv : PE X value tv) (hs : swapsWith value (some (.Subscript o i pos')) pos.line X.env = pure false) :
    PS X (.Assign [.Subscript o i pos'] value pos) (Yu td ty tv) := by
  intro pins s σ H D I h
  refine wpAny_Assign_Subscript (thn (hv pins s σ H _ I h) fun r s1 ⟨v,H1,I1,rv,q1⟩ => thn (ho pins s1 σ H1 _ I1 q1) fun u s2 ⟨x,H2,I2,rx,q2⟩ => thn (hi pins s2 σ H2 _ I2 q2) fun iv s3 ⟨y,H3,I3,ry,a,H4,ex,g,q3⟩ => ?_) hs
  subst ex
  obtain rfl : u = Value.ref a := rx
  exact Jq hu I3 g ry rv fun s4 I4 => ⟨σ,H4,I4,q3⟩
end
theorem XO {P : Program} {w : World} {H : Hp} (h : Heap) (hb : sysModules < h.objs.size) : ObjOk P w H (h.push { cls := .type "dict",data := .dict #[] }) h.objs.size (.dK []) :=
  ⟨Nat.zero_le _,beq_eq_false_iff_ne.mpr (Ne.symm (Nat.ne_of_lt hb)),[],.nil,Heap.DictOf.new h⟩
def Wl : TE := fun _ H Q => ∀ p,H p = none -> Q (.ref p) (upd H p (.dK []))
section
variable {X : Cx} {pos : Pos}
theorem Xi : PE X (.Dict [] [] pos) Wl := fun pins s σ H Q I h =>
  wpAny_Dict_empty ⟨.ref s.heap.objs.size,_,I.laid (a := s.heap.objs.size) (o := .dK []) (t' := s.toks) (fun _ _ q => Heap.get?_push_of_some _ q) (Nat.le_refl _) (XO s.heap I.big),rfl,h _ (I.hok.fresh (Nat.le_refl _))⟩
end
structure M1 (X : Cx) (o : Expr) (m : Str) (apos : Pos) (e : Expr) (cpos : Pos) : Prop where
  base : attributeBase o m X.env (eval o X.env) = eval o X.env
  few : ((backTo cpos (starEach [e] X.env)).all (fun x => !x.1) && (backToKw cpos (keywordEach [] X.env)).all (fun x => x.1.isSome)
    && decide (([e] : List Expr).length + ([] : List Keyword).length + (if ([] : List Keyword).isEmpty then 0 else 1) < 30)) = true
  line : (apos.endLine == cpos.line) = true
  trees : backTo cpos (starEach [e] X.env) = [(false,eval e X.env)]
structure M2 (X : Cx) (o : Expr) (m : Str) (apos : Pos) (e f : Expr) (cpos : Pos) : Prop where
  base : attributeBase o m X.env (eval o X.env) = eval o X.env
  few : ((backTo cpos (starEach [e,f] X.env)).all (fun x => !x.1) && (backToKw cpos (keywordEach [] X.env)).all (fun x => x.1.isSome)
    && decide (([e,f] : List Expr).length + ([] : List Keyword).length + (if ([] : List Keyword).isEmpty then 0 else 1) < 30)) = true
  line : (apos.endLine == cpos.line) = true
  trees : backTo cpos (starEach [e,f] X.env) = [(false,eval e X.env),(false,eval f X.env)]
def IsD (H : Hp) (a : Addr) : Prop := (∃ kvs,Rd H a (.dK kvs)) \/ ∃ kvs,Rd H a (.dT kvs)
theorem XD {X : Cx} {pins : List (Addr × Obj)} {σ : St} {H : Hp} {s : Shared} {a : Addr} (I : Inv X pins σ H s) (d : IsD H a) :
    s.TypeIs (.ref a) "dict" /\ (∀ b,Value.ref a = .ref b -> ∃ ob,s.heap.get? b = some ob /\ ob.dict = none) /\ (a == sysModules) = false := by
  rcases d with ⟨kvs,e⟩ | ⟨kvs,e⟩
  · obtain ⟨_,hd,vs,_,dd⟩ := wJ I.hok e
    refine ⟨dd.typeIs,fun b q => ?_,hd⟩
    cases q
    obtain ⟨ob,_,_,h1,h2,_⟩ := dd
    exact ⟨ob,h1,h2.2.1⟩
  · obtain ⟨_,hd,xs,_,dd⟩ := QA I.hok e
    refine ⟨dd.typeIs,fun b q => ?_,hd⟩
    cases q
    obtain ⟨ob,_,_,h1,h2,_⟩ := dd
    exact ⟨ob,h1,h2.2.1⟩
section
variable {X : Cx} {pins : List (Addr × Obj)} {σ : St} {H : Hp} {s : Shared} {a : Addr} {y d : V} {u r : Value} {o : Option V} {A : Around} {E : Value -> Shared -> Prop}
theorem W3 {Q : Value -> Shared -> Prop} (hu : A.units + 1 < cLine) (I : Inv X pins σ H s) (g : DGet H a y o) (ry : RelV y u) (h : ∀ w' s',Inv X pins σ H s' -> RelV (o.getD .non) w' -> Q w' s') :
    wpAny (model X.prog X.w) A (call (.builtin "dict.get") [.ref a,u]) Q E s := by
  rcases g with ⟨kvs,k,e,ey,l⟩ | ⟨kvs,k,b,e,ey,eb,l⟩
  · subst ey
    obtain ⟨z,hd,vs,rel,dd⟩ := wJ I.hok e
    refine call_meetsIn PySem.F.slot_dict_get dd.typeIs PySem.F.entry_dict_get (PySem.F.args_dict_get_2 _ _) (meets_dict_get (zO X.prog X.w) a (jJ ry) hd) ⟨_,dd.mapOf,h _ _ (I.tok _) ?_⟩
    rw [l]
    exact (rel.val k).getD rfl
  · subst ey
    cases (show u = Value.ref b from ry)
    obtain ⟨z,hd,xs,rel,dd⟩ := QA I.hok e
    refine call_meetsIn PySem.F.slot_dict_get dd.typeIs PySem.F.entry_dict_get (PySem.F.args_dict_get_2 _ _) (meetsH_dict_get (tupleKind (zO X.prog X.w)) a b hd) ⟨tupleKind_room_in1 hu,k,xs,yj I.hok eb,dd,h _ _ (I.tok _) ?_⟩
    rw [l]
    exact (rel.val k).getD rfl
end
def Wm (td ty : TE) : TE := fun σ H Q => td σ H fun x H1 => ∃ a,x = .ref a /\ IsD H1 a /\ ty σ H1 fun y H2 => ∃ o,DGet H2 a y o /\ Q (o.getD .non) H2
section
variable {X : Cx} {o e f : Expr} {apos cpos : Pos} {td ty tx : TE}
theorem Xj (hu : X.A.units + 1 < cLine) (ho : PE X o td) (he : PE X e ty) (m : M1 X o "get" apos e cpos) : PE X (.Call (.Attribute o "get" apos) [e] [] cpos) (Wm td ty) := by
  intro pins s σ H Q I h
  refine wpAny_Call_method m.base m.few m.line PySem.F.plainAttrs_dict PySem.F.slot_dict_get PySem.F.type_dict_get (thn (ho pins s σ H _ I h) fun u s1 ⟨x,H1,I1,rx,a,ex,d,q1⟩ => ?_)
  subst ex
  obtain rfl : u = Value.ref a := rx
  obtain ⟨t1,t2,_⟩ := XD I1 d
  refine ⟨t1,t2,?_⟩
  rw [m.trees]
  refine Calls.callWith_builtin rfl (Calls.evalArgs_plain (Calls.spliced_cons (thn (he pins s1 σ H1 _ I1 q1) fun iv s2 ⟨y,H2,I2,ry,ov,g,q2⟩ => Calls.spliced_nil ?_)))
  exact W3 hu I2 g ry fun w' s3 I3 rw' => ⟨_,H2,I3,rw',q2⟩
end
section
variable {X : Cx} {pins : List (Addr × Obj)} {σ : St} {H : Hp} {s : Shared} {a : Addr} {kvs : List (Key × V)} {A : Around} {E : Value -> Shared -> Prop}
theorem XR {Q : Value -> Shared -> Prop} (I : Inv X pins σ H s) (e : Rd H a (.dK kvs)) (h : ∀ p s',H p = none -> Inv X pins σ (upd H p (.dK kvs)) s' -> Q (.ref p) s') : wpAny (model X.prog X.w) A (call (.type "dict") [.ref a]) Q E s := by
  obtain ⟨z,hd,vs,rel,dd⟩ := wJ I.hok e
  refine kt_call_dict hd dd (by rw [<- rel.length];exact z) fun h' dd' hs => ?_
  refine h _ _ (I.hok.fresh (Nat.le_refl _)) (I.laid (a := s.heap.objs.size) (o := .dK kvs) (t' := s.toks) (fun b q hq => ?_) (Nat.le_refl _) (XN z (beq_eq_false_iff_ne.mpr (Ne.symm (Nat.ne_of_lt I.big))) rel dd'))
  exact (hs.2 b (Nat.ne_of_lt (Heap.lt_size hq))).trans (Heap.get?_push_of_some _ hq)
end
section
variable {X : Cx} {pins : List (Addr × Obj)} {σ : St} {H : Hp} {s : Shared} {a : Addr} {y : V} {u : Value} {A : Around} {E : Value -> Shared -> Prop}
end
end L2
set_option Elab.async false
set_option linter.all false
set_option maxRecDepth 100000
set_option maxHeartbeats 4000000
namespace PySem
open PySem PySem.W PySem.Calls PyProof.Rows PyProof.V PySem.Spec
end PySem
namespace L2
open PySem PySem.Spec PyProof.Rows
section
variable {X : Cx}
end
end L2
set_option Elab.async false
set_option linter.all false
set_option maxRecDepth 100000
set_option maxHeartbeats 4000000
namespace L2
open PySem PySem.Spec PyProof.Rows
section
variable {X : Cx} {tg : Expr}
end
end L2
set_option Elab.async false
set_option linter.all false
set_option maxRecDepth 100000
set_option maxHeartbeats 4000000
namespace L2
open PySem PySem.Spec PyProof.Rows
section
variable {X : Cx}
end
end L2
set_option Elab.async false
set_option linter.all false
set_option maxRecDepth 100000
set_option maxHeartbeats 4000000
namespace L2
open PySem PySem.Spec PyProof.Rows
section
variable {X : Cx}
end
end L2
set_option Elab.async false
set_option linter.all false
set_option maxRecDepth 100000
set_option maxHeartbeats 4000000
namespace L2
open PySem PySem.Spec PyProof.Rows
section
variable {X : Cx}
variable {e st : Expr} {te : TE} {tk : TO} {pos p2 : Pos}
end
end L2
set_option Elab.async false
set_option linter.all false
set_option maxRecDepth 100000
set_option maxHeartbeats 4000000
namespace PySem
def RawD (h : Heap) (d : Addr) (es : Array DictEntry) (ep : Nat) : Prop := ∃ o,h.get? d = some o /\ o.ExactDict /\ o.data = .dict es ep
theorem RawD.at {h h' : Heap} {d : Addr} {es : Array DictEntry} {ep : Nat} (x : RawD h d es ep) (e : ∀ o,h.get? d = some o -> h'.get? d = some o) : RawD h' d es ep := let ⟨o,a,b⟩ := x;⟨o,e _ a,b⟩
section
variable {prog : Program} {w : World} {A : Around} {E : Value -> Shared -> Prop} {s : Shared} {d it : Addr} {es : Array DictEntry} {ep i : Nat}
end
end PySem
set_option Elab.async false
set_option linter.all false
set_option maxRecDepth 100000
set_option maxHeartbeats 4000000
namespace L2
open PySem PySem.Spec PyProof.Rows
section
variable {X : Cx} {tg : Expr}
end
end L2
set_option Elab.async false
set_option linter.all false
set_option maxRecDepth 100000
set_option maxHeartbeats 4000000
namespace L2
open PySem PySem.Spec PyProof.Rows
section
variable {prog : Program} {w : World} {A : Around} {R : Result -> Shared -> Prop} {s : Shared}
abbrev dc2 (kx vx tg1 iter1 : Expr) (ifs1 : List Expr) (tg iter : Expr) (ifs : List Expr) (scope : Scope) (pos : Pos) : Expr := .DictComp kx vx [⟨tg1,iter1,ifs1,0⟩,⟨tg,iter,ifs,0⟩] scope pos
end
def DPutT (H : Hp) (D : Addr) (y v : V) (H' : Hp) : Prop := ∃ kvs k b,H D = some (.dT kvs) /\ y = .ref b /\ H b = some (.tup (k.map kV)) /\ kvs.length < sizeLine /\ H' = upd H D (.dT (jF kvs k v))
theorem DPutT.t {H : Hp} {a b : Addr} {kvs : List (List Key × V)} {k : List Key} {v : V} (e : H a = some (.dT kvs)) (eb : H b = some (.tup (k.map kV))) (hl : kvs.length < sizeLine) : DPutT H a (.ref b) v (upd H a (.dT (jF kvs k v))) := ⟨kvs,k,b,e,rfl,eb,hl,rfl⟩
section
variable {X : Cx} {kx vx tg1 iter1 : Expr} {ifs1 : List Expr} {tg iter : Expr} {ifs : List Expr} {scope : Scope} {pos : Pos} {wi wi1 : TI} {g g1 : TG} {tf tf1 : TT} {tk tv : TE}
end
section
variable {X : Cx} {kx vx tg1 iter1 : Expr} {ifs1 : List Expr} {tg iter : Expr} {ifs : List Expr} {scope : Scope} {pos : Pos} {wi wi1 : TI} {g g1 : TG} {tf tf1 : TT} {tk tv : TE}
end
end L2
set_option Elab.async false
set_option linter.all false
set_option maxRecDepth 100000
set_option maxHeartbeats 4000000
namespace L2
open PySem PySem.Spec PyProof.Rows
structure BlkOkC (sn on : List (Str × NameKind)) (N : List Str) (x : Str) (fr : List Str) (js : List Nat) : Prop where
  one : (sn.filter fun y => y.2 == .cell) = [(x,.cell)]
  lk : sn.lookup x = some .cell
  nd : ([x] ++ fr).Nodup
  loc : ∀ y ∈ sn,y.2 = NameKind.local -> sn.lookup y.1 = some .local
  free : ∀ y ∈ sn,y.2 = NameKind.free -> on.lookup y.1 = some .cell \/ on.lookup y.1 = some .free
  len : fr.length = js.length
  fr : ∀ (k : Nat) (x : Str),fr[k]? = some x -> sn.lookup x = some .free /\ ∃ j : Nat,js[k]? = some j /\ N[j]? = some x
theorem BlkOkC.is {sn on : List (Str × NameKind)} {N : List Str} {x : Str} {fr : List Str} {js : List Nat} (B : BlkOkC sn on N x fr js) {y : Str × NameKind} (h : y ∈ sn) (e : y.2 = .cell) : y.1 = x := by
  have : y ∈ sn.filter fun y => y.2 == .cell := List.mem_filter.mpr ⟨h,by rw [e];rfl⟩
  rw [B.one,List.mem_singleton] at this
  rw [this]
section
variable {X : Cx} {elt tg iter : Expr} {ifs : List Expr} {scope : Scope} {pos : Pos} {wi : TI} {g : TG} {tf : TT} {te : TE} {x : Str}
end
end L2
set_option Elab.async false
set_option linter.all false
set_option maxRecDepth 100000
set_option maxHeartbeats 4000000
namespace L2
open PySem PySem.Spec PyProof.Rows
end L2
set_option Elab.async false
set_option linter.all false
namespace L2
end L2
set_option Elab.async false
set_option linter.all false
set_option maxRecDepth 100000
set_option maxHeartbeats 4000000
namespace L2
open PySem PySem.W PySem.Spec PyProof.Rows
abbrev bmV : List Value := [.type "ValueError",.type "Exception",.type "BaseException",.type "object"]
def Y7 (K : Frag) (C : Addr) (ini : Option Value) : Bool := match K.lookup C with
  | some ⟨.type "type",_,.cls cd,sl⟩ => (match cd.mro with
    | .ref C' :: bm => (match sl.toList with
      | [_,_,_,_,some (.builtin n),_] => C' == C && (n == "ValueError.__new__" && (!cd.hasDel && (tailIn K bmV bm && (nsOkIn K cd.ns && nsIn K cd.ns "__init__" == some ini))))
      | _ => false)
    | _ => false)
  | _ => false
structure Xc (h : Heap) (C : Addr) (ini : Option Value) : Prop where
  is : ∃ (bm : List Value) (N : Addr) (nm qn : Str) (bs : List Value) (hd : Bool) (sn : List Str) (sub : List Value) (ab : Bool) (col : Option Bool) (dd : Option Addr) (k0 k1 k2 k3 k5 : Option Value) (mN : Str -> Option Value),
    h.get? C = some (excClassObj nm qn C N bs bm hd sn sub ab col dd k0 k1 k2 k3 k5 "ValueError.__new__") /\ h.Ns N mN /\ mN "__init__" = ini /\ OwnTail h bmV bm
end L2
set_option Elab.async false
set_option linter.all false
set_option maxRecDepth 100000
set_option maxHeartbeats 4000000
namespace L2
open PySem PySem.W PySem.Spec PyProof.Rows
section
variable {P : Program} {w : World} {H : Hp} {h h' : Heap} {a : Addr} {o : HO}
theorem ObjOk.has (x : ObjOk P w H h a o) : ∃ u,h.get? a = some u := by
  cases o with
  | lst xs => obtain ⟨_,_,_,_,e⟩ := x;exact ⟨_,e⟩
  | tup xs => obtain ⟨_,_,_,⟨u,e,_⟩,_⟩ := x;exact ⟨u,e⟩
  | dK kvs => obtain ⟨_,_,_,_,u,_,_,e,_⟩ := x;exact ⟨u,e⟩
  | dT kvs => obtain ⟨_,_,_,_,u,_,_,e,_⟩ := x;exact ⟨u,e⟩
  | set S n => obtain ⟨u,_,_,_,e,_⟩ := x;exact ⟨u,e⟩
  | ins C dx fs => obtain ⟨_,_,_,e,_⟩ := x;exact ⟨_,e⟩
  | own y => obtain ⟨u,e⟩ := x;exact ⟨u,e⟩
  | xd fs => obtain ⟨_,⟨u,_,_,e,_⟩,_⟩ := x;exact ⟨u,e⟩
  | rng lo hi => obtain ⟨_,_,_,e⟩ := x;exact ⟨_,e⟩
  | frz ob u => obtain ⟨e,_⟩ := x;exact ⟨_,e⟩
  | tbl ps => exact ⟨_,show h.get? a = some _ from x⟩
  | met f y => exact ⟨_,show h.get? a = some _ from x⟩
  | ext φ => obtain ⟨_,⟨u,e⟩,_⟩ := x;exact ⟨u,e⟩
theorem HOk.none_of (x : HOk P w H h) (e : h.get? a = none) : H a = none := by
  cases q : H a with
  | none => rfl
  | some u => obtain ⟨z,ez⟩ := (x a u q).has;rw [e] at ez;cases ez
end
section
variable {X : Cx} {pins : List (Addr × Obj)} {σ : St} {H : Hp} {s : Shared} {h' : Heap}
theorem Inv.laidN {a : Addr} {o : HO} {t' : Nat} (I : Inv X pins σ H s) (k : ∀ b u,s.heap.get? b = some u -> h'.get? b = some u) (hn : s.heap.get? a = none) (new : ObjOk X.prog X.w (upd H a o) h' a o) :
    Inv X pins σ (upd H a o) { s with heap := h',toks := t' } := by
  have hH := I.hok.none_of hn
  have ne : ∀ b u,s.heap.get? b = some u -> b ≠ a := fun b u q z => by rw [z,hn] at q;cases q
  have neH : ∀ b u,H b = some u -> b ≠ a := fun b u q z => by rw [z,hH] at q;cases q
  refine I.un ⟨fun b u q _ _ _ => k b u q,fun b u q _ _ _ => ⟨u.slots,k b u q⟩,fun b u q n _ => by rw [zw (ne b u q)];exact n,fun b u q _ => ⟨u,k b u q⟩,
    fun b xs q => by rw [zw (neH b _ q)];exact q,fun b u xs q => by rw [zw (neH b _ q)];exact q,fun b ps q => ⟨#[],by rw [zw (neH b _ q),q];simp⟩⟩ ?_
  intro b u e
  by_cases hb : b = a
  · subst hb;rw [zi] at e;cases e;exact new
  · rw [zw hb] at e
    exact (I.hok b u e).stay (fun c v _ q => k c v q) (fun c q => by rw [zw (neH c _ q)];exact q) fun c xs q => by rw [zw (neH c _ q)];exact q
end
section
variable {prog : Program} {w : World} {A : Around} {E : Value -> Shared -> Prop} {h : Heap} {g : Array GenState} {d : Drawn} {t : Nat} {os : OsState} {C : Addr}
end
section
variable {prog : Program} {w : World} {A : Around} {E : Value -> Shared -> Prop} {h : Heap} {g : Array GenState} {d : Drawn} {t : Nat} {os : OsState}
variable {nm q : Str} {C N : Addr} {bs bm : List Value} {hdct : Bool} {sn : List Str} {sub : List Value} {ab : Bool} {col : Option Bool} {dd : Option Addr} {k0 k1 k2 k3 k5 : Option Value}
end
end L2
set_option Elab.async false
set_option linter.all false
set_option maxRecDepth 100000
set_option maxHeartbeats 4000000
namespace L2
open PySem PySem.W PySem.Spec PyProof.Rows
structure XK2 (K : Frag) (C : Addr) (ini : Option Value) : Prop where
  cls : Y7 K C ini = true
  sa : findIn K (.ref C) "__setattr__" = some (some (.builtin "object.__setattr__"))
  ga : findIn K (.ref C) "__getattribute__" = some (some (.builtin "BaseException.__getattribute__"))
  gh : findIn K (.ref C) "__getattr__" = some none
  ob : mroIn K C (.type "object") = some true
  be : mroIn K C (.type "BaseException") = some true
  hd : hasDictIn K C = true
section
variable {prog : Program} {w : World} {A : Around} {E : Value -> Shared -> Prop} {h : Heap} {g : Array GenState} {d : Drawn} {t : Nat} {os : OsState} {K : Frag} {C e t0 : Addr} {ini : Option Value} {f : Str} {v : Value}
end
end L2
set_option Elab.async false
set_option linter.all false
set_option maxRecDepth 100000
set_option maxHeartbeats 4000000
namespace L2
open PySem PySem.W PySem.Spec PyProof.Rows
section
variable {prog : Program} {w : World} {A : Around} {E : Value -> Shared -> Prop} {h : Heap} {g : Array GenState} {d : Drawn} {t : Nat} {os : OsState} {K : Frag} {C e t0 dx : Addr} {od : Option Addr} {ini : Option Value} {f : Str} {v : Value} {mA : Str -> Option Value}
end
end L2
set_option Elab.async false
set_option linter.all false
set_option maxRecDepth 100000
set_option maxHeartbeats 4000000
namespace L2
open PySem PySem.W PySem.Spec PyProof.Rows
structure XKc (K : Frag) (C : Addr) : Prop where
  lk : findIn K (.ref C) "__class__" = some (some (.builtin "object.__class__"))
  gt : specialIn K (.builtin "object.__class__") "__get__" = some (some (.builtin "getset_descriptor.__get__"))
  tk : takesIn K (.builtin "object.__class__") = some true
section
variable {prog : Program} {w : World} {A : Around} {E : Value -> Shared -> Prop} {h : Heap} {g : Array GenState} {d : Drawn} {t : Nat} {os : OsState} {K : Frag} {C C' e t0 : Addr} {dx : Option Addr} {ini : Option Value} {od : Option Obj}
end
end L2
set_option Elab.async false
set_option linter.all false
set_option maxRecDepth 100000
set_option maxHeartbeats 4000000
namespace L2
open PySem PySem.W PySem.Spec PyProof.Rows
structure XOk (K : Frag) (C : Addr) (ini : Option Value) : Prop where
  k : XK2 K C ini
  c : XKc K C
  kp : keepIn K (.ref C) = true
  ty : typeIn K (.ref C) = some (.type "type")
  cd : ∃ cd,clsIn K C = some cd
  ve : mroIn K C (.type "ValueError") = some true
section
variable {X : Cx} {CX : CXT} {k : Nat} {f C : Addr} {fd : FuncData} {ps : List Str} {ds : List Value} {dvs : List V} {sp : Sp} {E : XK} {x m : Str} {p pos apos : Pos} {e o value : Expr} {es : List Expr} {t : TA} {ta tv : TE} {ini : Option Value}
end
end L2
set_option Elab.async false
set_option linter.all false
set_option maxRecDepth 100000
set_option maxHeartbeats 4000000
namespace L2
open PySem PySem.W PySem.Spec PyProof.Rows
section
variable {X : Cx}
end
structure Xs (K : Frag) (mg : Str -> Option Value) (x : Str) (C : Addr) (ini : Option Value) : Prop where
  ok : XOk K C ini
  gl : mg x = some (.ref C)
structure XsI (P : Program) (w : World) (K : Frag) (mg : Str -> Option Value) (base : Heap) (x : Str) (C f : Addr) (k : Nat) (ps : List Str) (sp : Sp) : Prop extends Xs K mg x C (some (.ref f)) where
  ex : ∃ fd oF,FnOk P w K mg base CX0 k f fd ps sp /\ K.lookup f = some oF /\ oF.cls = .type "function" /\ Binds K fd ps []
section
variable {X : Cx} {x : Str} {k : Nat} {C f : Addr} {ps : List Str} {sp : Sp} {p pos : Pos} {e : Expr} {es : List Expr} {t : TA}
end
end L2
set_option Elab.async false
set_option linter.all false
set_option maxRecDepth 100000
set_option maxHeartbeats 4000000
namespace L2
open PySem PySem.Spec PyProof.Rows
section
variable {X : Cx}
end
end L2
set_option Elab.async false
set_option linter.all false
set_option maxRecDepth 100000
set_option maxHeartbeats 4000000
namespace L2
open PySem PySem.Spec PyProof.Rows
section
variable {prog : Program} {w : World} {κ : Type} [DecidableEq κ] {knd : PySem.KeyKind prog w κ} {A : Around} {E : Value -> Shared -> Prop} {s : Shared}
end
end L2
set_option Elab.async false
set_option linter.all false
set_option maxRecDepth 100000
set_option maxHeartbeats 4000000
namespace L2
open PySem PySem.Spec PyProof.Rows
section
variable {prog : Program} {w : World} {κ : Type} [DecidableEq κ] {knd : PySem.KeyKind prog w κ}
end
section
variable {X : Cx} {td ty tx : TE} {o e f : Expr} {apos cpos : Pos}
end
end L2
set_option Elab.async false
set_option linter.all false
set_option maxRecDepth 100000
set_option maxHeartbeats 4000000
namespace L2
open PySem PySem.Spec PyProof.Rows
theorem YT {P : Program} {w : World} {k : Key} {u : Value} (h : (zO P w).is k u = true) : RelV (kV k) u := by
  rw [ZO] at h
  rcases qc h with ⟨i,t,rfl,rfl⟩ | ⟨x,t,rfl,rfl⟩
  · exact ⟨t,rfl⟩
  · exact ⟨t,rfl⟩
theorem KV.get : ∀ {kvs : List (Key × V)} {vs : List (Key × Value)} {j : Nat} {q : Key × Value},KV kvs vs -> vs[j]? = some q -> ∃ p,kvs[j]? = some p /\ p.1 = q.1 /\ RelV p.2 q.2
  | _,_,j,_,.nil,e => by simp at e
  | _,_,0,_,.cons h _,e => by simp at e;subst e;exact ⟨_,rfl,h⟩
  | _,_,j + 1,_,.cons _ t,e => by
    obtain ⟨p,e1,r⟩ := KV.get (j := j) t (by simpa using e)
    exact ⟨p,by simpa using e1,r⟩
section
variable {X : Cx}
end
end L2
set_option Elab.async false
set_option linter.all false
set_option maxRecDepth 100000
set_option maxHeartbeats 4000000
namespace L2
open PySem PySem.Spec PyProof.Rows
section
variable {X : Cx} {td ty : TE} {o e : Expr} {apos cpos : Pos}
end
end L2
set_option Elab.async false
set_option linter.all false
set_option maxRecDepth 100000
set_option maxHeartbeats 4000000
namespace L2
open PySem PySem.Spec PyProof.Rows
section
variable {X : Cx}
end
end L2
set_option Elab.async false
set_option linter.all false
set_option maxRecDepth 100000
set_option maxHeartbeats 4000000
namespace L2
open PySem PySem.Spec PyProof.Rows
section
variable {X : Cx} {tg : Expr}
end
end L2
set_option Elab.async false
set_option linter.all false
set_option maxRecDepth 100000
set_option maxHeartbeats 4000000
namespace L2
open PySem PySem.Spec PyProof.Rows
section
variable {X : Cx} {tg : Expr}
end
end L2
set_option Elab.async false
set_option linter.all false
set_option maxRecDepth 100000
set_option maxHeartbeats 4000000
namespace L2
open PySem PySem.Spec PyProof.Rows
open Sem (wp)
section
variable {prog : Program} {w : World} {A : Around} {E : Value -> Shared -> Prop} {s : Shared}
end
section
variable {prog : Program} {w : World} {A : Around} {E : Value -> Shared -> Prop} {h : Heap} {g : Array GenState} {d : Drawn} {t : Nat} {os : OsState} {a : Addr} {n : Nat} {its : Array Value}
end
end L2
set_option Elab.async false
set_option linter.all false
set_option maxRecDepth 100000
set_option maxHeartbeats 4000000
namespace L2
open PySem PySem.Spec PyProof.Rows
section
variable {prog : Program} {w : World} {K : Type} [DecidableEq K] {knd : KeyKind prog w K} {A : Around} {R : Result -> Shared -> Prop} {it l D : Addr} {items : Array Value} {pairs : List (K × Value)} {res : Value}
end
end L2
set_option Elab.async false
set_option linter.all false
set_option maxRecDepth 100000
set_option maxHeartbeats 4000000
namespace L2
open PySem PySem.Spec PyProof.Rows
section
variable {prog : Program} {w : World} {K : Type} [DecidableEq K] {knd : KeyKind prog w K} {A : Around} {E : Value -> Shared -> Prop} {s : Shared}
end
def PrsL (H : Hp) (xs : List V) (kps : List (Key × V)) : Prop := xs.length = kps.length /\ ∀ (j : Nat) (x : V),xs[j]? = some x -> ∃ (T : Addr) (k : Key) (v : V),x = .ref T /\ H T = some (.tup [kV k,v]) /\ kps[j]? = some (k,v)
theorem PrsL.nil {H : Hp} : PrsL H [] [] := ⟨rfl,fun j x e => by simp at e⟩
theorem PrsL.same {H H' : Hp} {xs : List V} {kps : List (Key × V)} (h : PrsL H xs kps) (s : Same H H') : PrsL H' xs kps := ⟨h.1,fun j x e => let ⟨T,k,v,a,b,c⟩ := h.2 j x e;⟨T,k,v,a,s _ _ b,c⟩⟩
theorem PrsL.snoc {H : Hp} {xs : List V} {kps : List (Key × V)} {T : Addr} {k : Key} {v : V} (h : PrsL H xs kps) (e : H T = some (.tup [kV k,v])) : PrsL H (xs ++ [.ref T]) (kps ++ [(k,v)]) := by
  refine ⟨by rw [List.length_append,List.length_append,h.1];rfl,fun j x ex => ?_⟩
  have l := h.1
  by_cases hj : j < xs.length
  · rw [List.getElem?_append_left hj] at ex
    obtain ⟨T',k',v',a,b,c⟩ := h.2 j x ex
    exact ⟨T',k',v',a,b,by rw [List.getElem?_append_left (by omega)];exact c⟩
  · rw [List.getElem?_append_right (by omega)] at ex
    have : j = xs.length := by
      have := (List.getElem?_eq_some_iff.mp ex).1
      simp at this;omega
    subst this
    simp at ex
    subst ex
    exact ⟨T,k,v,rfl,e,by rw [l,List.getElem?_append_right (Nat.le_refl _)];simp⟩
theorem Vals.at : ∀ {xs : List V} {us : List Value} {i : Nat} {u : Value},Vals xs us -> us[i]? = some u -> ∃ x,xs[i]? = some x /\ RelV x u := fun {xs us i u} r e => by
  have l := Vals.length r
  have h := (List.getElem?_eq_some_iff.mp e).1
  obtain ⟨v,e1,r1⟩ := r.get (i := i) (x := xs[i]'(by omega)) (List.getElem?_eq_getElem _)
  rw [e] at e1
  cases e1
  exact ⟨_,List.getElem?_eq_getElem _,r1⟩
section
variable {X : Cx}
end
end L2
set_option Elab.async false
set_option linter.all false
set_option maxRecDepth 100000
set_option maxHeartbeats 4000000
namespace L2
open PySem PySem.Spec PyProof.Rows
section
variable {X : Cx}
end
end L2
set_option Elab.async false
set_option linter.all false
set_option maxRecDepth 100000
set_option maxHeartbeats 4000000
namespace L2
open PySem PySem.Spec PyProof.Rows
section
variable {X : Cx} {elt tg iter : Expr} {ifs : List Expr} {scope : Scope} {pos : Pos} {wi : TI} {g : TG} {tf : TT} {te : TE} {x : Str}
variable {y : Str} {px py tp : Pos} {kk : Nat}
end
end L2
set_option Elab.async false
set_option linter.all false
set_option maxRecDepth 100000
set_option maxHeartbeats 4000000
namespace L2
open PySem PySem.Spec PyProof.Rows
def Up (xs : Array Nat) : Prop := xs.toList.Pairwise (· < ·)
theorem Up.lt {xs : Array Nat} (h : Up xs) {i j : Nat} {a b : Nat} (hi : xs[i]? = some a) (hj : xs[j]? = some b) (hij : i < j) : a < b := by
  have h1 := Array.getElem?_eq_some_iff.mp hi
  have h2 := Array.getElem?_eq_some_iff.mp hj
  obtain ⟨l1,e1⟩ := h1
  obtain ⟨l2,e2⟩ := h2
  have := List.pairwise_iff_getElem.mp h i j (by simpa using l1) (by simpa using l2) hij
  simpa [e1,e2] using this
theorem vZ (xs : Array Nat) (j : Nat) : ∀ (fuel lo hi : Nat),hi - lo <= fuel -> lo <= hi -> hi <= xs.size -> Up xs -> (∀ i a,i < lo -> xs[i]? = some a -> a < j) -> (∀ i a,hi <= i -> xs[i]? = some a -> j <= a) ->
    SetTable.below.go xs j fuel lo hi <= xs.size /\ (∀ i a,i < SetTable.below.go xs j fuel lo hi -> xs[i]? = some a -> a < j) /\ ∀ i a,SetTable.below.go xs j fuel lo hi <= i -> xs[i]? = some a -> j <= a
  | 0,lo,hi,h1,h2,h3,u,a1,a2 => by
    have e : hi = lo := by omega
    subst e
    exact ⟨h3,a1,a2⟩
  | fuel + 1,lo,hi,h1,h2,h3,u,a1,a2 => by
    unfold SetTable.below.go
    by_cases c : lo < hi
    · rw [if_pos c]
      dsimp only
      have hm : (lo + hi) / 2 < xs.size := by omega
      have em : xs[(lo + hi) / 2]? = some (xs[(lo + hi) / 2]'hm) := Array.getElem?_eq_getElem hm
      have eg : xs.getD ((lo + hi) / 2) j = xs[(lo + hi) / 2]'hm := by rw [Array.getD_eq_getD_getElem?,em];rfl
      rw [eg]
      by_cases d : xs[(lo + hi) / 2]'hm < j
      · rw [if_pos d]
        refine vZ xs j fuel _ hi (by omega) (by omega) h3 u (fun i a hi' e => ?_) a2
        by_cases q : i = (lo + hi) / 2
        · subst q;rw [em] at e;cases e;exact d
        · have := u.lt e em (by omega)
          omega
      · rw [if_neg d]
        refine vZ xs j fuel lo _ (by omega) (by omega) (by omega) u a1 fun i a hi' e => ?_
        by_cases q : i = (lo + hi) / 2
        · subst q;rw [em] at e;cases e;omega
        · have := u.lt em e (by omega)
          omega
    · rw [if_neg c]
      have e : hi = lo := by omega
      subst e
      exact ⟨h3,a1,a2⟩
theorem X0 {xs : Array Nat} (u : Up xs) (j : Nat) : SetTable.below xs j <= xs.size /\ (∀ i a,i < SetTable.below xs j -> xs[i]? = some a -> a < j) /\ ∀ i a,SetTable.below xs j <= i -> xs[i]? = some a -> j <= a := by
  unfold SetTable.below
  exact vZ xs j xs.size 0 xs.size (by omega) (Nat.zero_le _) (Nat.le_refl _) u (fun i a h => absurd h (Nat.not_lt_zero _)) fun i a h e => absurd (Array.getElem?_eq_some_iff.mp e).1 (by omega)
theorem QX {xs : Array Nat} (u : Up xs) {j : Nat} (hn : xs[SetTable.below xs j]? ≠ some j) : Up (SetTable.insertAt xs (SetTable.below xs j) j) := by
  obtain ⟨b1,b2,b3⟩ := X0 u j
  unfold Up SetTable.insertAt
  generalize SetTable.below xs j = p at *
  have el : ((xs.extract 0 p).push j ++ xs.extract p xs.size).toList = xs.toList.take p ++ (j :: xs.toList.drop p) := by
    simp [Array.toList_extract,List.extract_eq_drop_take]
    exact List.take_of_length_le (by simp)
  rw [el,List.pairwise_append]
  have u' : xs.toList.Pairwise (· < ·) := u
  refine ⟨u'.sublist (List.take_sublist _ _),List.pairwise_cons.mpr ⟨fun a ha => ?_,u'.sublist (List.drop_sublist _ _)⟩,fun a ha b hb => ?_⟩
  · obtain ⟨k,hk,e⟩ := List.mem_drop_iff_getElem.mp ha
    have e' : xs[k + p]? = some a := by rw [<- Array.getElem?_toList,List.getElem?_eq_some_iff];exact ⟨by omega,by rw [<- e];congr 1;omega⟩
    have := b3 (k + p) a (by omega) e'
    by_cases q : k = 0
    · subst q
      rw [Nat.zero_add] at e'
      exact Nat.lt_of_le_of_ne this fun z => hn (by rw [e',z])
    · have hp : p < xs.size := by rw [Array.length_toList] at hk;omega
      have := b3 p _ (Nat.le_refl _) (Array.getElem?_eq_getElem hp)
      have := u.lt (Array.getElem?_eq_getElem hp) e' (by omega)
      omega
  · obtain ⟨k,hk,e⟩ := List.mem_take_iff_getElem.mp ha
    have e' : xs[k]? = some a := by rw [<- Array.getElem?_toList,List.getElem?_eq_some_iff];exact ⟨by omega,e⟩
    have ha' := b2 k a (by omega) e'
    rcases List.mem_cons.mp hb with z | z
    · rw [z];exact ha'
    · obtain ⟨k2,hk2,e2⟩ := List.mem_drop_iff_getElem.mp z
      have e2' : xs[k2 + p]? = some b := by rw [<- Array.getElem?_toList,List.getElem?_eq_some_iff];exact ⟨by omega,by rw [<- e2];congr 1;omega⟩
      have := b3 (k2 + p) b (by omega) e2'
      omega
end L2
set_option Elab.async false
set_option linter.all false
set_option maxRecDepth 100000
set_option maxHeartbeats 4000000
namespace L2
open PySem PySem.Spec PyProof.Rows
structure TabOk (b : Bool) (t : SetTable) : Prop where
  up : Up t.place
  no : t.dummies = #[]
  led : t.led = b
theorem Zh (j : Nat) : SetTable.has #[] j = false := by
  unfold SetTable.has
  rw [show (#[] : Array Nat)[SetTable.below #[] j]? = none from Array.getElem?_eq_none (by simp)]
  rfl
theorem Q7 {t : SetTable} (h : t.dummies = #[]) (j : Nat) : (t.slot j = .empty /\ t.place[SetTable.below t.place j]? ≠ some j) \/ ∃ i,t.slot j = .live i := by
  unfold SetTable.slot
  rw [h,Zh]
  dsimp only
  by_cases c : (t.place[SetTable.below t.place j]? == some j) = true
  · rw [if_pos c]
    exact .inr ⟨_,rfl⟩
  · rw [if_neg c,if_neg Bool.false_ne_true]
    exact .inl ⟨rfl,fun z => c (by rw [z];simp)⟩
theorem wu (t : SetTable) (p : SetTable.Probe) : (t.advance p).dummy = p.dummy := by
  unfold SetTable.advance
  split
  · rfl
  · rfl
theorem xO {t : SetTable} (hd : t.dummies = #[]) {f : Nat -> Int} {h : Int} : ∀ (fuel : Nat) (p : SetTable.Probe) (j : Nat) (d : Option Nat),SetTable.probe.go t f h fuel p = some (.empty j d) -> t.place[SetTable.below t.place j]? ≠ some j /\ d = p.dummy
  | 0,p,j,d,e => by unfold SetTable.probe.go at e;cases e
  | fuel + 1,p,j,d,e => by
    unfold SetTable.probe.go at e
    rcases Q7 hd p.j with ⟨c1,c2⟩ | ⟨i,c⟩
    · rw [c1] at e
      cases e
      exact ⟨c2,rfl⟩
    · rw [c] at e
      dsimp only at e
      split at e
      · cases e
      · have := xO hd fuel _ j d e
        rw [wu] at this
        exact this
theorem VG {t : SetTable} (hd : t.dummies = #[]) {h : Int} {s : Nat} {w : Bool} (e : t.freeSlot h = some (s,w)) : t.place[SetTable.below t.place s]? ≠ some s := by
  unfold SetTable.freeSlot SetTable.probe at e
  split at e
  · rename_i j d q
    obtain ⟨h1,h2⟩ := xO hd _ _ _ _ q
    cases (show d = none from h2)
    cases e
    exact h1
  · cases e
theorem JG (n : Nat) : Up (Array.range n) := by
  unfold Up
  rw [Array.toList_range]
  exact List.pairwise_lt_range
theorem TabOk.stand {b : Bool} {t : SetTable} (h : TabOk b t) (n : Nat) : TabOk b (t.standIn n) := ⟨JG n,rfl,h.led⟩
theorem TabOk.plain {b p : Bool} {t : SetTable} (h : TabOk b t) : TabOk b { t with plain := p } := ⟨h.up,h.no,h.led⟩
theorem TabOk.or {b : Bool} {t : SetTable} (h : TabOk b t) (n : Nat) : TabOk b (t.orStandIn n) := by
  unfold SetTable.orStandIn
  split
  · exact h
  · exact h.stand n
theorem TabOk.layNew {b : Bool} {t : SetTable} (h : TabOk b t) (es : Array (Int × Value)) (k : Int) (x : Value) : TabOk b (layNew t es k x).2.1 := by
  unfold PySem.layNew
  split
  · rename_i slot w e
    have hp : TabOk b (t.put slot).1 := ⟨QX h.up (VG h.no e),by
      show (if SetTable.has t.dummies slot = true then _ else t.dummies) = #[]
      rw [h.no,Zh]
      rfl,h.led⟩
    exact hp.or _
  · exact h.stand _
theorem X4 {α : Type} (m : Nat) (f : Nat -> Option α) : (((List.range m).filterMap fun j => (f j).map (j,·)).map (·.1)).Pairwise (· < ·) := by
  have hs : ∀ l : List Nat,((l.filterMap fun j => (f j).map (j,·)).map (·.1)).Sublist l := fun l => by
    induction l with
    | nil => exact .slnil
    | cons x l ih =>
      rw [List.filterMap_cons]
      cases f x with
      | none => exact ih.cons _
      | some y => exact ih.cons₂ _
  exact List.Pairwise.sublist (hs _) List.pairwise_lt_range
theorem TabOk.relay {b : Bool} {t : SetTable} (h : TabOk b t) (es : Array (Int × Value)) (n : Nat) : TabOk b (relayAll t es n).2.1 := by
  unfold relayAll
  split
  · rename_i t' order e
    dsimp only
    split
    · unfold SetTable.relaid SetTable.laid at e
      obtain ⟨owner,_,e2⟩ := Option.bind_eq_some_iff.mp e
      cases e2
      refine ⟨?_,rfl,h.led⟩
      exact X4 _ fun j => owner.getD j none
    · exact h.stand _
  · exact h.stand _
theorem TabOk.fresh (b : Bool) : TabOk b (.fresh 0 0 b) := ⟨List.Pairwise.nil,rfl,rfl⟩
end L2
set_option Elab.async false
set_option linter.all false
set_option maxRecDepth 100000
set_option maxHeartbeats 4000000
namespace L2
open PySem PySem.Spec PyProof.Rows
theorem Ji {α : Type} {l : List α} {x : α} (h : l.Nodup) (hx : x ∉ l) : (l ++ [x]).Nodup := by
  rw [List.nodup_append]
  exact ⟨h,by simp,fun a ha b hb e => hx (by rw [List.mem_singleton] at hb;rw [<- hb,<- e];exact ha)⟩
theorem yV {α β : Type} {R : α -> β -> Prop} {ys ys' : List β} (p : ys'.Perm ys) : ∀ {xs : List α},Paired R xs ys -> ∃ xs',xs'.Perm xs /\ Paired R xs' ys' := by
  induction p with
  | nil => intro xs h;exact ⟨xs,.refl _,h⟩
  | cons y _ ih =>
    intro xs h
    cases h with
    | cons r t =>
      obtain ⟨xs',p',h'⟩ := ih t
      exact ⟨_ :: xs',p'.cons _,.cons r h'⟩
  | swap y z l =>
    intro xs h
    cases h with
    | cons r t =>
      cases t with
      | cons r2 t2 => exact ⟨_,.swap _ _ _,.cons r2 (.cons r t2)⟩
  | trans _ _ ih1 ih2 =>
    intro xs h
    obtain ⟨x1,p1,h1⟩ := ih2 h
    obtain ⟨x2,p2,h2⟩ := ih1 h1
    exact ⟨x2,p2.trans p1,h2⟩
theorem vL {α β : Type} {R : α -> β -> Prop} {x : α} {y : β} (r : R x y) : ∀ {xs : List α} {ys : List β},Paired R xs ys -> Paired R (xs ++ [x]) (ys ++ [y])
  | _,_,.nil => .cons r .nil
  | _,_,.cons h t => .cons h (vL r t)
theorem vK {α β : Type} {R : α -> β -> Prop} : ∀ {xs : List α} {ys : List β},Paired R xs ys -> (∀ x ∈ xs,∃ y ∈ ys,R x y) /\ ∀ y ∈ ys,∃ x ∈ xs,R x y
  | _,_,.nil => ⟨fun x h => (nomatch h),fun y h => (nomatch h)⟩
  | _,_,.cons h t => by
    obtain ⟨a,b⟩ := vK t
    refine ⟨fun x hx => ?_,fun y hy => ?_⟩
    · rcases List.mem_cons.mp hx with z | z
      · rw [z];exact ⟨_,List.mem_cons_self,h⟩
      · obtain ⟨y,hy,r⟩ := a x z
        exact ⟨y,List.mem_cons_of_mem _ hy,r⟩
    · rcases List.mem_cons.mp hy with z | z
      · rw [z];exact ⟨_,List.mem_cons_self,h⟩
      · obtain ⟨x,hx,r⟩ := b y z
        exact ⟨x,List.mem_cons_of_mem _ hx,r⟩
section
variable {prog : Program} {w : World} {K : Type} [DecidableEq K] (knd : KeyKind prog w K)
def ElX (es : List (Int × Value)) (ks : List K) : Prop := ElemsOf knd es /\ ∃ ks',ks'.Perm ks /\ Paired (fun k (e : Int × Value) => knd.is k e.2 = true) ks' es
def ObX (b : Bool) (o : Obj) (ks : List K) : Prop := ∃ es ep t,o.ExactSet /\ o.data = .set es ep t /\ ElX knd es.toList ks /\ ks.Nodup /\ es.size < scanBound /\ t.fits es.size = true /\ TabOk b t
def SetX (b : Bool) (h : Heap) (a : Addr) (ks : List K) : Prop := ∃ o,h.get? a = some o /\ ObX knd b o ks
variable {knd}
theorem ElX.perm {es es' : List (Int × Value)} {ks : List K} (h : ElX knd es ks) (p : es'.Perm es) : ElX knd es' ks := by
  obtain ⟨h1,ks',p',pr⟩ := h
  obtain ⟨ks2,p2,pr2⟩ := yV p pr
  exact ⟨h1.perm p,ks2,p2.trans p',pr2⟩
theorem ElX.len {es : List (Int × Value)} {ks : List K} (h : ElX knd es ks) : es.length = ks.length := by
  obtain ⟨_,ks',p',pr⟩ := h
  rw [<- p'.length_eq]
  exact (Paired.length pr).symm
theorem ElX.mem {es : List (Int × Value)} {ks : List K} (h : ElX knd es ks) (k : K) : k ∈ ks ↔ ∃ e ∈ es,knd.is k e.2 = true := by
  obtain ⟨_,ks',p',pr⟩ := h
  obtain ⟨a,b⟩ := vK pr
  rw [<- p'.mem_iff]
  refine ⟨a k,fun ⟨e,he,r⟩ => ?_⟩
  obtain ⟨k',hk,r'⟩ := b e he
  rwa [knd.inj _ _ _ r r']
theorem ElX.snoc {es : List (Int × Value)} {ks : List K} (h : ElX knd es ks) {k : K} {x : Value} (hk : knd.is k x = true) (hx : x.scannable = true) : ElX knd (es ++ [(knd.hash k,x)]) (ks ++ [k]) := by
  obtain ⟨h1,ks',p',pr⟩ := h
  exact ⟨h1.push hk hx,ks' ++ [k],p'.append_right _,vL (R := fun k (e : Int × Value) => knd.is k e.2 = true) hk pr⟩
theorem SetX.at {b : Bool} {h h' : Heap} {a : Addr} {ks : List K} (x : SetX knd b h a ks) (k : ∀ o,h.get? a = some o -> h'.get? a = some o) : SetX knd b h' a ks := let ⟨o,e,r⟩ := x;⟨o,k o e,r⟩
variable {A : Around} {E : Value -> Shared -> Prop} {s : Shared}
theorem Yx {b : Bool} {h : Heap} {a : Addr} {o : Obj} {es : Array (Int × Value)} {ep : Nat} {t : SetTable} (ho : h.get? a = some o) (hex : o.ExactSet) (hd : o.data = .set es ep t) {es' : Array (Int × Value)} {t' : SetTable} {ks : List K} (el : ElX knd es'.toList ks) (nd : ks.Nodup)
    (hb : es'.size < scanBound) (hf : t'.fits es'.size = true) (tb : TabOk b t') : ∃ o',(h.update a (Obj.putSet es' t')).get? a = some o' /\ o'.ExactSet /\ o'.data = .set es' (ep + 1) t' /\ ObX knd b o' ks := by
  have g := Heap.get?_update_self (Obj.putSet es' t') ho (by rw [putSet_of es' t' hd];rfl)
  rw [putSet_of es' t' hd] at g
  exact ⟨_,g,hex,rfl,es',ep + 1,t',hex,rfl,el,nd,hb,hf,tb⟩
theorem VT {b : Bool} {g : Bool -> Sem Unit} (hg : ∀ (c : Bool) (s1 : Shared) (Q' : Unit -> Shared -> Prop),Q' () s1 -> wpAny (model prog w) A (g c) Q' E s1) {a : Addr} {o : Obj} {es : Array (Int × Value)} {ep : Nat} {t : SetTable} (ho : s.heap.get? a = some o) (hex : o.ExactSet)
    (hd : o.data = .set es ep t) {es1 : Array (Int × Value)} {t2 : SetTable} {ks : List K} (el : ElX knd es1.toList ks) (nd : ks.Nodup) (hb : es1.size < scanBound) (hf : t2.fits es1.size = true) (tb : TabOk b t2) {wasDummy : Bool} {R : Option Bool -> Shared -> Prop}
    (h : ∀ h',Heap.SameBut a s.heap h' -> SetX knd b h' a ks -> R (some true) { s with heap := h' }) :
    wpAny (model prog w) A (storeSet a es1 t2 >>= fun _ => if (!wasDummy && t2.tooFull) = true then g (relayAll t2 es1 (SetTable.grown es1.size)).2.2 >>= fun _ => storeSet a (relayAll t2 es1 (SetTable.grown es1.size)).1 (relayAll t2 es1 (SetTable.grown es1.size)).2.1 >>= fun _ => pure (some true) else pure (some true)) R E s := by
  obtain ⟨o1,g1,x1,d1,ob1⟩ := Yx ho hex hd el nd hb hf tb
  have sb := Heap.SameBut.update s.heap a (Obj.putSet es1 t2)
  refine wpAny_bind (wpAny_storeSet_of ho hd ?_ (fits_of_scanBound hb))
  split
  · have pm := relayAll_perm t2 es1 (SetTable.grown es1.size)
    have ft := relayAll_fits t2 es1 (SetTable.grown es1.size)
    have tr := tb.relay es1 (SetTable.grown es1.size)
    have sz : (relayAll t2 es1 (SetTable.grown es1.size)).1.size = es1.size := by have := pm.length_eq;rwa [Array.length_toList,Array.length_toList] at this
    obtain ⟨o2,g2,x2,d2,ob2⟩ := Yx g1 x1 d1 (el.perm pm) nd (by rw [sz];exact hb) ft tr
    exact wpAny_bind (hg _ _ _ (wpAny_bind (wpAny_storeSet_of g1 d1 (wpAny_pure (h _ (sb.trans (Heap.SameBut.update _ a _)) ⟨o2,g2,ob2⟩)) (fits_of_scanBound (by rw [sz];exact hb)))))
  · exact wpAny_pure (h _ sb ⟨o1,g1,ob1⟩)
theorem zap {b : Bool} {a : Addr} {ks : List K} {k : K} {x : Value} {Q : Bool -> Shared -> Prop} (hkey : knd.is k x = true) (hsc : x.scannable = true) (hS : SetX knd b s.heap a ks) (hroom : ks.length + 1 < scanBound)
    (h : ∀ h' c,Heap.SameBut a s.heap h' -> SetX knd b h' a (if k ∈ ks then ks else ks ++ [k]) -> Q c { s with heap := h' }) : wpAny (model prog w) A (setAddHashed a x (knd.hash k)) Q E s := by
  obtain ⟨o,ho,es,ep,t,hex,hd,el,nd,hb,hf,tb⟩ := hS
  have ln := el.len
  rw [Array.length_toList] at ln
  unfold setAddHashed setAddHashedIn;refine wpAny_holding (wpAny_bind (wpAny_setState_of ho hd hf ?_));dsimp only
  rw [byScan_of hsc hb el.1,if_pos rfl]
  unfold setAddByScan
  refine wpAny_bind (wpAny_bind (wpAny_rule (wpAny_bind (wpAny_setScan_of hkey ho hd hf el.1 ?_))))
  cases hr : List.findIdx? (fun e => knd.is k e.2) es.toList with
  | some j =>
    obtain ⟨hj,hpj,_⟩ := List.findIdx?_eq_some_iff_getElem.mp hr
    have hk : k ∈ ks := (el.mem k).mpr ⟨_,List.getElem_mem hj,hpj⟩
    have := h s.heap false (Heap.SameBut.refl a s.heap) (by rw [if_pos hk];exact ⟨o,ho,es,ep,t,hex,hd,el,nd,hb,hf,tb⟩)
    exact wpAny_pure (wpAny_pure this)
  | none =>
    have hk : k ∉ ks := fun z => by
      obtain ⟨e,he,r⟩ := (el.mem k).mp z
      have := List.findIdx?_eq_none_iff.mp hr e he
      rw [r] at this
      cases this
    rw [if_neg hk] at h
    have gw : ∀ (c : Bool) (s1 : Shared) (Q' : Unit -> Shared -> Prop),Q' () s1 -> wpAny (model prog w) A (match c with | true => rule "set.scan.the-table-gave-way" | false => pure ()) Q' E s1 := fun c s1 Q' hq => by
      cases c
      · exact wpAny_pure hq
      · exact wpAny_rule hq
    have pm := layNew_perm t es (knd.hash k) x
    have ft := layNew_fits t es (knd.hash k) x
    have tn := tb.layNew es (knd.hash k) x
    generalize layNew t es (knd.hash k) x = L at pm ft tn
    obtain ⟨es1,t1,wd,gave⟩ := L
    dsimp only at pm ft tn ⊢
    rw [Array.toList_push] at pm
    have el1 : ElX knd es1.toList (ks ++ [k]) := (el.snoc hkey hsc).perm pm
    have l1 := el1.len
    rw [Array.length_toList,List.length_append] at l1
    have hb1 : es1.size < scanBound := by rw [l1];exact hroom
    have nd1 : (ks ++ [k]).Nodup := Ji nd hk
    refine wpAny_bind (gw _ _ _ ?_)
    split
    · rw [hashByValue_scannable 8 hsc]
      refine wpAny_bind (wpAny_pure (VT gw ho hex hd el1 nd1 hb1 ?_ ?_ fun h' sb sx => wpAny_pure (h h' true sb sx)))
      · split
        · exact ft
        · exact SetTable.fits_plain_off ft
      · split
        · exact tn
        · exact tn.plain
    · exact wpAny_bind (wpAny_pure (VT gw ho hex hd el1 nd1 hb1 ft tn fun h' sb sx => wpAny_pure (h h' true sb sx)))
end
end L2
set_option Elab.async false
set_option linter.all false
set_option maxRecDepth 100000
set_option maxHeartbeats 4000000
namespace L2
open PySem PySem.Spec PyProof.Rows
def Xx (w : World) : Bool := !w.params.followText "set-order"
def xD (w : World) : Obj := { cls := .type "set",dict := none,data := .set #[] 0 (.fresh 0 0 (Xx w)) }
section
variable {K : Type} [DecidableEq K]
def jB (ks : List K) (k : K) : List K := if k ∈ ks then ks else ks ++ [k]
def qR (ks js : List K) : List K := js.foldl jB ks
theorem JA (ks : List K) (k : K) : (jB ks k).length <= ks.length + 1 := by
  unfold jB
  split
  · omega
  · rw [List.length_append];exact Nat.le_refl _
theorem QY {ks js : List K} {i : Nat} {k : K} (h : js[i]? = some k) : qR (jB ks k) (js.drop (i + 1)) = qR ks (js.drop i) := by
  obtain ⟨h1,h2⟩ := List.getElem?_eq_some_iff.mp h
  rw [List.drop_eq_getElem_cons h1,h2]
  rfl
variable {prog : Program} {w : World} {knd : KeyKind prog w K} {A : Around} {R : Result -> Shared -> Prop} {it l S : Addr} {items : Array Value} {keys : List K} {b : Bool}
theorem Va (hh : A.handled = none) (hil : l ≠ it) (hlS : l ≠ S) (hiS : it ≠ S) (hlen : keys.length = items.size) (hat : ∀ (j : Nat) (u : Value),items[j]? = some u -> ∃ k,keys[j]? = some k /\ knd.is k u = true /\ u.scannable = true) :
    ∀ (m : Nat) (s : Shared) (i : Nat) (ks : List K),items.size - i = m -> i <= items.size -> s.heap.IsListIter it l i -> s.heap.IsList l items -> SetX knd b s.heap S ks -> ks.length + m + 1 < scanBound ->
      (∀ h' tk,SetX knd b h' S (qR ks (keys.drop i)) -> (∀ c o,c ≠ it -> c ≠ S -> s.heap.get? c = some o -> h'.get? c = some o) -> R (.ok (.ret .none)) { s with heap := h',toks := tk }) ->
      codeAny (model prog w) A (.builtin "set.update.loop" ⟨[.ref S,.ref it],[]⟩) R s := by
  intro m
  induction m with
  | zero =>
    intro s i ks hm hi ii il sx hz q
    have hend : items[i]? = none := by simp;omega
    refine codeAny_builtin PyProof.Rows.F.entry_set_update_loop ?_
    rw [Around.under_plainId PyProof.Rows.F.plain_set_update_loop _]
    refine wpAny_bind (wpAny_pyNext_list_end hh ii il hend fun h' hx => wpAny_pure ?_)
    have e0 : qR ks (keys.drop i) = ks := by rw [List.drop_eq_nil_of_le (by omega)];rfl
    exact q h' s.toks (by rw [e0];exact sx.at fun o e => hx S o (Ne.symm hiS) e) fun c o hc _ e => hx c o hc e
  | succ m ih =>
    intro s i ks hm hi ii il sx hz q
    have hlt : i < items.size := by omega
    obtain ⟨u,hu⟩ : ∃ u,items[i]? = some u := ⟨_,Array.getElem?_eq_getElem hlt⟩
    obtain ⟨k,ek,kk,sc⟩ := hat i u hu
    refine codeAny_builtin PyProof.Rows.F.entry_set_update_loop ?_
    rw [Around.under_plainId PyProof.Rows.F.plain_set_update_loop _]
    refine wpAny_bind (wpAny_pyNext_list_item ii il hu fun h1 i1 s1 => ?_)
    have k1 : ∀ c o,c ≠ it -> s.heap.get? c = some o -> h1.get? c = some o := fun c o hc e => (s1.2 c hc).trans e
    refine wpAny_bind (wpAny_holding (show wpAny _ _ (setAdd S u) _ _ _ from wpAny_holding (wpAny_bind (knd.pyHash kk ?_))))
    refine zap (s := { s with heap := h1,toks := s.toks + 1 }) kk sc (sx.at fun o e => k1 S o (Ne.symm hiS) e) (by omega) fun h2 c sb sx2 => ?_
    have k2 : ∀ c o,c ≠ it -> c ≠ S -> s.heap.get? c = some o -> h2.get? c = some o := fun c o hc hc' e => (sb.2 c hc').trans (k1 c o hc e)
    have lk := JA ks k
    refine wpAny_pure ⟨plainId_quiet PyProof.Rows.F.plain_set_update_loop _,?_⟩
    refine ih { s with heap := h2,toks := s.toks + 1 } (i + 1) (jB ks k) (by omega) hlt (i1.at fun o e => (sb.2 it hiS).trans e) (il.at fun o e => k2 l o hil hlS e) sx2 (by omega) fun h' tk sx' kp => ?_
    exact q h' tk (by rw [<- QY ek];exact sx') fun c o hc hc' e => kp c o hc hc' (k2 c o hc hc' e)
end
section
variable {prog : Program} {w : World} {A : Around} {E : Value -> Shared -> Prop} {s : Shared}
theorem X6 {T newId initId : String} {args : List Value} {Q Q1 : Value -> Shared -> Prop} (ft : TypeCalled T newId initId) (hct : checkTypeCall T ⟨args,[]⟩ = pure ())
    (hnew : codeAny (model prog w) A.in1 (.call (.builtin newId) ⟨.type T :: args,[]⟩) (wants Q1 E) s)
    (hnext : ∀ u s1,Q1 u s1 -> s1.TypeIs u T /\ codeAny (model prog w) A.in1 (.call (.builtin initId) ⟨u :: args,[]⟩) (wants (fun r s2 => r = .none /\ Q u s2) E) s1) :
    wpAny (model prog w) A (call (.type T) args) Q E s := by
  obtain ⟨c,tl,m1⟩ := ft.mro
  have m2 := ft.made
  have m3 := ft.sub
  have m4 := ft.notType
  have m5 := ft.canCreate
  refine wpAny_call (codeAny_of_tree (show wpAny _ _ (callAny (.type T) _) _ _ _ from wpAny_pure ⟨Code.quiet_builtin _ (by decide +kernel),codeAny_builtin F.entry_type_call ?_⟩))
  rw [Around.under_plain (weight_type_call_type T args []) rfl]
  repeat' (first | assumption | wp_step)
  refine codeAny_mono hnew fun r s1 hr => ?_
  match r,hr with
  | .error e,hr => exact hr
  | .ok (.ret u),hr =>
    obtain ⟨ty,ci⟩ := hnext _ _ hr
    have m6 := ft.init.lookup
    have m7 := ft.init.bind u
    repeat' (first | assumption | wp_step)
    refine codeAny_mono ci fun r2 s2 hr2 => ?_
    match r2,hr2 with
    | .error e,hr2 => exact hr2
    | .ok (.ret v),⟨ev,hq⟩ =>
      subst ev
      repeat' (first | assumption | wp_step)
theorem Xt (x : Value) {Q1 : Value -> Shared -> Prop} (h : Q1 (.ref s.heap.objs.size) { s with heap := s.heap.push (xD w) }) :
    codeAny (model prog w) A (.call (.builtin "set.__new__") ⟨[.type "set",x],[]⟩) (wants Q1 E) s := by
  refine codeAny_call_builtin F.plain_set_new F.entry_set_new (wpAny_of_eq (F.newCall_set_1 x) ?_)
  unfold Builtin.«set.__new__» Builtin.Frozenset.newClass
  have m1 := sub_set_self
  obtain ⟨hp,g,d,tk,os⟩ := s
  dsimp only
  wp_walk
  refine wpAny_askSetting (wpAny_pure ?_)
  simp only [newObj]
  exact wpAny_bind (wpAny_alloc (wpAny_pure (wpAny_pure h)))
end
end L2
set_option Elab.async false
set_option linter.all false
set_option maxRecDepth 100000
set_option maxHeartbeats 4000000
namespace L2
open PySem PySem.Spec PyProof.Rows
section
variable {prog : Program} {w : World} {K : Type} [DecidableEq K] {knd : KeyKind prog w K} {A : Around} {E : Value -> Shared -> Prop} {s : Shared}
theorem JW (h : Heap) : SetX knd (Xx w) (h.push (xD w)) h.objs.size [] :=
  ⟨xD w,Heap.get?_push_size _ rfl,#[],0,_,⟨rfl,rfl,rfl⟩,rfl,⟨fun e he => by simp at he,[],.refl _,.nil⟩,List.nodup_nil,by decide,rfl,TabOk.fresh _⟩
end
end L2
set_option Elab.async false
set_option linter.all false
set_option maxRecDepth 100000
set_option maxHeartbeats 4000000
namespace L2
open PySem PySem.Spec PyProof.Rows
section
variable {M : Model} {A : Around} {E : Value -> Shared -> Prop} {s : Shared}
end
end L2
set_option Elab.async false
set_option linter.all false
set_option maxRecDepth 100000
set_option maxHeartbeats 4000000
namespace L2
open PySem PySem.Spec PyProof.Rows
section
variable {prog : Program} {w : World} {A : Around} {E : Value -> Shared -> Prop} {h : Heap} {g : Array GenState} {d : Drawn} {tk : Nat} {os : OsState} {it a : Addr} {o : Obj} {es : Array (Int × Value)} {ep : Nat} {t : SetTable} {i : Nat}
end
end L2
set_option Elab.async false
set_option linter.all false
set_option maxRecDepth 100000
set_option maxHeartbeats 4000000
namespace L2
open PySem PySem.Spec PyProof.Rows
section
variable {prog : Program} {w : World} {A : Around} {E : Value -> Shared -> Prop} {s : Shared} {a : Addr} {o : Obj} {es : Array (Int × Value)} {ep : Nat} {t : SetTable} {i sl : Nat}
end
section
variable {prog : Program} {w : World} {A : Around} {E : Value -> Shared -> Prop} {h : Heap} {g : Array GenState} {d : Drawn} {tk : Nat} {os : OsState} {it a T : Addr} {o oT : Obj} {es : Array (Int × Value)} {ep : Nat} {t : SetTable} {i n c : Nat} {ps : Array Value}
end
section
variable {prog : Program} {w : World} {A : Around} {E : Value -> Shared -> Prop} {s : Shared} {it : Addr} {oi : Obj}
end
end L2
set_option Elab.async false
set_option linter.all false
set_option maxRecDepth 100000
set_option maxHeartbeats 4000000
namespace L2
open PySem PySem.Spec PyProof.Rows
section
variable {prog : Program} {w : World} {A : Around}
variable {it a T : Addr} {o oT : Obj} {es : Array (Int × Value)} {ep c : Nat} {t : SetTable}
end
end L2
set_option Elab.async false
set_option linter.all false
set_option maxRecDepth 100000
set_option maxHeartbeats 4000000
namespace L2
open PySem PySem.Spec PyProof.Rows
section
variable {prog : Program} {w : World} {A : Around} {E : Value -> Shared -> Prop} {s : Shared} {a : Addr} {o : Obj} {es : Array (Int × Value)} {ep : Nat} {t : SetTable}
end
end L2
set_option Elab.async false
set_option linter.all false
set_option maxRecDepth 100000
set_option maxHeartbeats 4000000
namespace L2
open PySem PySem.Spec PyProof.Rows
section
variable {prog : Program} {w : World} {A : Around} {E : Value -> Shared -> Prop} {s : Shared} {a : Addr} {o : Obj} {es : Array (Int × Value)} {ep : Nat} {t : SetTable}
end
end L2
set_option Elab.async false
set_option linter.all false
set_option maxRecDepth 100000
set_option maxHeartbeats 4000000
namespace L2
open PySem PySem.Spec PyProof.Rows
section
variable {prog : Program} {w : World} {A : Around} {E : Value -> Shared -> Prop} {s : Shared} {a : Addr} {o : Obj} {es : Array (Int × Value)} {ep : Nat} {t : SetTable}
end
section
variable {X : Cx}
def Q8 (P : Program) (w : World) (p : Addr) (ks : List Key) : HO := .ext fun h => SetX (zO P w) (Xx w) h p ks
end
end L2
set_option Elab.async false
set_option linter.all false
set_option maxRecDepth 100000
set_option maxHeartbeats 4000000
namespace L2
open PySem PySem.Spec PyProof.Rows
theorem Inv.drawn {X : Cx} {pins : List (Addr × Obj)} {σ : St} {H : Hp} {s : Shared} (I : Inv X pins σ H s) (d : Drawn) : Inv X pins σ H { s with drawn := d } :=
  I.call' (s' := { s with drawn := d }) (ch := []) rfl Un.refl I.hok I.bare fun b hb => (nomatch hb)
section
variable {X : Cx}
theorem Ze {pins : List (Addr × Obj)} {σ : St} {H : Hp} {s : Shared} {h' : Heap} {vs : List Value} {out : Array Value} {zs : List V} {tk : Nat} {d' : Drawn} (I : Inv X pins σ H s) (keep : ∀ b u,s.heap.get? b = some u -> h'.get? b = some u) (rel : Vals zs out.toList) (hz : zs.length <= sizeLine) :
    Inv X pins σ (upd H h'.objs.size (.lst zs)) { s with heap := sortedHeap (h'.push (seqObj "list" vs.toArray 0)) h'.objs.size vs out,toks := tk,drawn := d' } /\ H h'.objs.size = none := by
  have at_ : (h'.push (seqObj "list" vs.toArray 0)).get? h'.objs.size = some (seqObj "list" vs.toArray 0) := Heap.get?_push_size _ rfl
  have new : s.heap.get? h'.objs.size = none := by
    cases z : s.heap.get? h'.objs.size with
    | none => rfl
    | some o => exact absurd (Heap.lt_size (keep _ _ z)) (Nat.lt_irrefl _)
  obtain ⟨ep2,fin⟩ := sortedHeap_at (out := out) at_
  refine ⟨(I.drawn d').laidN (a := h'.objs.size) (o := .lst zs) (t' := tk) (fun b o e => ?_) new ⟨hz,out.toList,ep2,rel,by rw [fin]⟩,I.hok.none_of new⟩
  have lt := Heap.lt_size (keep b o e)
  rw [sortedHeap_old (Nat.ne_of_lt lt) (by rw [Heap.size_push];exact Nat.lt_succ_of_lt lt)]
  exact Heap.get?_push_of_some _ (keep b o e)
end
end L2
set_option Elab.async false
set_option linter.all false
set_option maxRecDepth 100000
set_option maxHeartbeats 4000000
namespace L2
open PySem PySem.Spec PyProof.Rows
section
variable {X : Cx} {elt iter1 iter : Expr} {ifs1 ifs : List Expr} {scope : Scope} {pos : Pos} {wi wi1 : TI} {tf tf1 : TT} {te : TE} {x y z u : Str} {px py pz pu tp tp2 : Pos} {kk kk2 : Nat}
theorem Vm (fr : List Str) (js : List Nat) (hc : X.calm = true) (hk : scope.kind = .function) (hb : j9 scope.names X.env.scope.names X.N [x,y,z,u] fr js = true) (hi : PI X (.Tuple [.Name x px,.Name y py] kk tp) iter1 wi1)
    (hf : ∀ C s H ex,PF (zy X ([x,y,z,u] ++ fr) scope C s H ex) ifs1 tf1) (hi2 : ∀ C s H ex,PI (zy X ([x,y,z,u] ++ fr) scope C s H ex) (.Tuple [.Name z pz,.Name u pu] kk2 tp2) iter wi) (hf2 : ∀ C s H ex,PF (zy X ([x,y,z,u] ++ fr) scope C s H ex) ifs tf)
    (he : ∀ C s H ex,PE (zy X ([x,y,z,u] ++ fr) scope C s H ex) elt te) (hs : ∀ x,foldedSetIterable iter1 X.env x = pure x := by intro _;rfl) (hs2 : ∀ C x,foldedSetIterable iter (compEnvC scope (qu X.env.cells scope.names []) C X.env) x = pure x := by intro _ _;rfl) :
    PE X (lc2 elt (.Tuple [.Name x px,.Name y py] kk tp) iter1 ifs1 (.Tuple [.Name z pz,.Name u pu] kk2 tp2) iter ifs scope pos) (Ye wi1 4 js (Jp X.K 2 (j4 (jo 0) (j4 (jo 1) XH))) tf1 wi (Jp X.K 2 (j4 (jo 2) (j4 (jo 3) XH))) tf te) := by
  obtain ⟨h1,h2,h3⟩ := jq hb
  refine WC [x,y,z,u] fr js hc hk h1 hi (fun C s H ex => ?_) hf hi2 (fun C s H ex => ?_) hf2 he hs hs2
  · exact qN (X := zy X ([x,y,z,u] ++ fr) scope C s H ex) hc (zK (jh (h2 x (by simp)) h3 rfl) (zK (jh (h2 y (by simp)) h3 rfl) qC))
  · exact qN (X := zy X ([x,y,z,u] ++ fr) scope C s H ex) hc (zK (jh (h2 z (by simp)) h3 rfl) (zK (jh (h2 u (by simp)) h3 rfl) qC))
variable {oo e : Expr} {ees : List Expr} {to : TE} {tt : TA} {name : Str} {apos cpos : Pos} {T id : String} {r : V -> List V -> Hp -> VK -> Prop}
end
end L2
set_option Elab.async false
set_option linter.all false
set_option maxRecDepth 100000
set_option maxHeartbeats 4000000
namespace L2
open PySem PySem.Spec PyProof.Rows PySem.W
def KRun {α : Type} (bt : Nat -> Nat -> Bool) (n : Nat) : KasT α -> (α -> Prop) -> Prop
  | .ret a,Q => Q a
  | .ask i j k,Q => i < n /\ j < n /\ KRun bt n (k (bt i j)) Q
theorem KRun.mono {α : Type} {bt : Nat -> Nat -> Bool} {n : Nat} {Q Q' : α -> Prop} (h : ∀ a,Q a -> Q' a) : ∀ {t : KasT α},KRun bt n t Q -> KRun bt n t Q'
  | .ret a,x => h a x
  | .ask i j k,⟨a,b,c⟩ => ⟨a,b,KRun.mono h c⟩
theorem KRun.bind {α β : Type} {bt : Nat -> Nat -> Bool} {n : Nat} {f : α -> KasT β} {Q : β -> Prop} : ∀ {t : KasT α},KRun bt n t (fun a => KRun bt n (f a) Q) -> KRun bt n (t.bind f) Q
  | .ret a,x => x
  | .ask i j k,⟨a,b,c⟩ => ⟨a,b,KRun.bind c⟩
theorem KRun.wp {α : Type} {bt : Nat -> Nat -> Bool} {n : Nat} {ask : Nat -> Nat -> (Bool -> Shared -> Prop) -> Shared -> Prop} {J : Shared -> Prop} {Q : α -> Prop} {G : α -> Shared -> Prop}
    (ha : ∀ i j,i < n -> j < n -> ∀ (C : Bool -> Shared -> Prop) s,J s -> (∀ s',J s' -> C (bt i j) s') -> ask i j C s) (hg : ∀ a s,Q a -> J s -> G a s) : ∀ {t : KasT α} {s : Shared},KRun bt n t Q -> J s -> t.kasWp ask G s
  | .ret a,s,x,j => hg a s x j
  | .ask i j k,s,⟨a,b,c⟩,js => ha i j a b _ s js fun s' js' => KRun.wp ha hg c js'
section
variable {n : Nat} {r : Nat -> Nat}
def vA (r : Nat -> Nat) (p : Array Nat) (k : Nat) : Nat := r (p.getD k 0)
structure Gd (n : Nat) (p : Array Nat) : Prop where
  pm : p.toList.Perm (List.range n)
theorem Gd.sz {p : Array Nat} (g : Gd n p) : p.size = n := by have := g.pm.length_eq;rwa [Array.length_toList,List.length_range] at this
theorem Gd.at {p : Array Nat} (g : Gd n p) {k : Nat} (h : k < n) : p[k]? = some (p.getD k 0) := by
  rw [Array.getD_eq_getD_getElem?,Array.getElem?_eq_getElem (by rw [g.sz];exact h)]
  rfl
theorem Gd.lt {p : Array Nat} (g : Gd n p) (hn : 0 < n) (k : Nat) : p.getD k 0 < n := by
  by_cases h : k < n
  · have := g.at h
    rw [<- Array.getElem?_toList] at this
    exact List.mem_range.mp (g.pm.mem_iff.mp (List.mem_of_getElem? this))
  · rw [Array.getD_eq_getD_getElem?,Array.getElem?_eq_none (by rw [g.sz];omega)]
    exact hn
theorem Gd.inj {p : Array Nat} (g : Gd n p) (ri : ∀ i j,i < n -> j < n -> r i = r j -> i = j) {i j : Nat} (hi : i < n) (hj : j < n) (e : vA r p i = vA r p j) : i = j := by
  have hn : 0 < n := by omega
  have h1 := ri _ _ (g.lt hn i) (g.lt hn j) e
  have nd : p.toList.Nodup := g.pm.nodup_iff.mpr List.nodup_range
  have a1 := g.at hi
  have a2 := g.at hj
  rw [<- Array.getElem?_toList] at a1 a2
  obtain ⟨b1,c1⟩ := List.getElem?_eq_some_iff.mp a1
  obtain ⟨b2,c2⟩ := List.getElem?_eq_some_iff.mp a2
  exact (List.getElem_inj nd).mp (by rw [c1,c2,h1])
theorem Gd.rev {p : Array Nat} (g : Gd n p) (i j : Nat) : Gd n (kas_rev p i j) := ⟨(Array.perm_iff_toList_perm.mp (mirror_perm p i j _)).trans g.pm⟩
theorem Gd.bub {p : Array Nat} (g : Gd n p) (i j : Nat) : Gd n (bubble p i j) := ⟨(Array.perm_iff_toList_perm.mp (bubble_perm p i j)).trans g.pm⟩
def AscA (r : Nat -> Nat) (p : Array Nat) (m : Nat) : Prop := ∀ i j,i < j -> j < m -> vA r p i < vA r p j
def DscA (r : Nat -> Nat) (p : Array Nat) (m : Nat) : Prop := ∀ i j,i < j -> j < m -> vA r p j < vA r p i
theorem AscA.step {p : Array Nat} {m : Nat} (h : AscA r p m) (h1 : 1 <= m) (h2 : vA r p (m - 1) < vA r p m) : AscA r p (m + 1) := fun i j hij hj => by
  by_cases e : j = m
  · subst e
    by_cases e2 : i = j - 1
    · subst e2;exact h2
    · have := h i (j - 1) (by omega) (by omega)
      omega
  · exact h i j hij (by omega)
theorem DscA.step {p : Array Nat} {m : Nat} (h : DscA r p m) (h1 : 1 <= m) (h2 : vA r p m < vA r p (m - 1)) : DscA r p (m + 1) := fun i j hij hj => by
  by_cases e : j = m
  · subst e
    by_cases e2 : i = j - 1
    · subst e2;exact h2
    · have := h i (j - 1) (by omega) (by omega)
      omega
  · exact h i j hij (by omega)
variable {bt : Nat -> Nat -> Bool} (ri : ∀ i j,i < n -> j < n -> r i = r j -> i = j) (hb : ∀ i j,i < n -> j < n -> bt i j = decide (r i < r j))
include ri hb
theorem wY {p : Array Nat} (g : Gd n p) : ∀ (f m : Nat),1 <= m -> m + f <= n -> AscA r p m -> KRun bt n (kas_asc p f m) fun m' => AscA r p m' /\ m <= m' /\ m' <= m + f /\ (m' < m + f -> vA r p m' < vA r p (m' - 1))
  | 0,m,h1,h2,a => ⟨a,Nat.le_refl _,Nat.le_refl _,fun z => absurd z (Nat.lt_irrefl _)⟩
  | f + 1,m,h1,h2,a => by
    have hn : 0 < n := by omega
    refine ⟨g.lt hn _,g.lt hn _,?_⟩
    rw [hb _ _ (g.lt hn _) (g.lt hn _)]
    by_cases c : vA r p m < vA r p (m - 1)
    · rw [show decide (r (p.getD m 0) < r (p.getD (m - 1) 0)) = true from decide_eq_true c]
      dsimp only
      rw [if_pos rfl]
      exact ⟨a,Nat.le_refl _,by omega,fun _ => c⟩
    · rw [show decide (r (p.getD m 0) < r (p.getD (m - 1) 0)) = false from decide_eq_false c]
      dsimp only
      rw [if_neg Bool.false_ne_true]
      have ne : vA r p m ≠ vA r p (m - 1) := fun z => by have := g.inj ri (by omega) (by omega) z;omega
      refine KRun.mono (fun m' ⟨b1,b2,b3,b4⟩ => ⟨b1,by omega,by omega,fun z => b4 (by omega)⟩) (wY g f (m + 1) (by omega) (by omega) (a.step h1 (by omega)))
theorem yQ {p : Array Nat} (g : Gd n p) : ∀ (f m : Nat),1 <= m -> m + f <= n -> DscA r p m -> KRun bt n (kas_desc f p m 0) fun x => x.1 = p /\ x.2.2 = 0 /\ DscA r p x.2.1 /\ m <= x.2.1 /\ x.2.1 <= m + f
  | 0,m,h1,h2,a => ⟨rfl,rfl,a,Nat.le_refl _,Nat.le_refl _⟩
  | f + 1,m,h1,h2,a => by
    have hn : 0 < n := by omega
    refine ⟨g.lt hn _,g.lt hn _,?_⟩
    rw [hb _ _ (g.lt hn _) (g.lt hn _)]
    by_cases c : vA r p m < vA r p (m - 1)
    · rw [show decide (r (p.getD m 0) < r (p.getD (m - 1) 0)) = true from decide_eq_true c]
      dsimp only
      rw [if_pos rfl,if_neg (Nat.lt_irrefl 0)]
      exact KRun.mono (fun x ⟨b0,b1,b2,b3,b4⟩ => ⟨b0,b1,b2,by omega,by omega⟩) (yQ g f (m + 1) (by omega) (by omega) (a.step h1 c))
    · rw [show decide (r (p.getD m 0) < r (p.getD (m - 1) 0)) = false from decide_eq_false c]
      dsimp only
      rw [if_neg Bool.false_ne_true]
      have ne : vA r p m ≠ vA r p (m - 1) := fun z => by have := g.inj ri (by omega) (by omega) z;omega
      refine ⟨g.lt hn _,g.lt hn _,?_⟩
      rw [hb _ _ (g.lt hn _) (g.lt hn _),show decide (r (p.getD (m - 1) 0) < r (p.getD m 0)) = true from decide_eq_true (show vA r p (m - 1) < vA r p m by omega)]
      dsimp only
      rw [if_pos rfl]
      exact ⟨rfl,rfl,a,Nat.le_refl _,(by show m <= m + (f + 1);omega)⟩
theorem xE {p : Array Nat} (g : Gd n p) {k : Nat} (hk : k < n) (a : AscA r p k) : ∀ (f l h : Nat),h - l <= f -> l <= h -> h <= k -> (∀ i,i < l -> vA r p i < vA r p k) -> (∀ i,h <= i -> i < k -> vA r p k < vA r p i) ->
    KRun bt n (kas_place p k f l h) fun x => x <= k /\ (∀ i,i < x -> vA r p i < vA r p k) /\ ∀ i,x <= i -> i < k -> vA r p k < vA r p i
  | 0,l,h,h1,h2,h3,a1,a2 => by
    have e : l = h := by omega
    subst e
    exact ⟨h3,a1,a2⟩
  | f + 1,l,h,h1,h2,h3,a1,a2 => by
    have hn : 0 < n := by omega
    unfold kas_place
    by_cases c : l ≥ h
    · rw [if_pos c]
      have e : l = h := by omega
      subst e
      exact ⟨h3,a1,a2⟩
    · rw [if_neg c]
      refine ⟨g.lt hn _,g.lt hn _,?_⟩
      rw [hb _ _ (g.lt hn _) (g.lt hn _)]
      by_cases d : vA r p k < vA r p ((l + h) / 2)
      · rw [show decide (r (p.getD k 0) < r (p.getD ((l + h) / 2) 0)) = true from decide_eq_true d]
        dsimp only
        rw [if_pos rfl]
        refine xE g hk a f l _ (by omega) (by omega) (by omega) a1 fun i hi hik => ?_
        by_cases q : i = (l + h) / 2
        · rw [q];exact d
        · have := a ((l + h) / 2) i (by omega) hik
          omega
      · rw [show decide (r (p.getD k 0) < r (p.getD ((l + h) / 2) 0)) = false from decide_eq_false d]
        dsimp only
        rw [if_neg Bool.false_ne_true]
        have ne : vA r p k ≠ vA r p ((l + h) / 2) := fun z => by have := g.inj ri hk (by omega) z;omega
        refine xE g hk a f _ h (by omega) (by omega) h3 (fun i hi => ?_) a2
        by_cases q : i = (l + h) / 2
        · rw [q];omega
        · have := a i ((l + h) / 2) (by omega) (by omega)
          omega
omit hb in
theorem Vf {p : Array Nat} (g : Gd n p) {m : Nat} (hm : m <= n) (d : DscA r p m) : AscA r (kas_rev p 0 m) m := fun i j hij hj => by
  have at_ : ∀ k,k < m -> vA r (kas_rev p 0 m) k = vA r p (m - 1 - k) := fun k hk => by
    unfold vA kas_rev
    have e := getElem?_mirror_all (xs := p) (i := 0) (j := m) (by rw [g.sz];exact hm) k
    rw [if_pos ⟨Nat.zero_le _,hk⟩,Nat.zero_add] at e
    rw [Array.getD_eq_getD_getElem?,e,<- Array.getD_eq_getD_getElem?]
  rw [at_ i (by omega),at_ j hj]
  exact d _ _ (by omega) (by omega)
theorem J6 {p : Array Nat} (g : Gd n p) {m : Nat} (h1 : 1 <= m) (hm : m <= n) (d : DscA r p m) : KRun bt n (kas_tail3 m n p) fun x => Gd n x.2 /\ AscA r x.2 x.1 /\ 1 <= x.1 /\ x.1 <= n := by
  unfold kas_tail3
  refine KRun.bind (KRun.mono (fun m' ⟨a1,a2,a3,_⟩ => ?_) (wY ri hb (g.rev 0 m) (n - m) m h1 (by omega) (Vf ri g hm d)))
  exact ⟨g.rev 0 m,a1,by show 1 <= m';omega,by show m' <= n;omega⟩
theorem Ja {p : Array Nat} (g : Gd n p) (h2 : 2 <= n) : KRun bt n (kas_count n p) fun x => Gd n x.2 /\ AscA r x.2 x.1 /\ 1 <= x.1 /\ x.1 <= n := by
  have hn : 0 < n := by omega
  unfold kas_count
  refine KRun.bind (KRun.mono (fun m ⟨a1,a2,a3,a4⟩ => ?_) (wY ri hb g (n - 1) 1 (Nat.le_refl _) (by omega) fun i j hij hj => by omega))
  by_cases c : (m == n) = true
  · rw [if_pos c]
    exact ⟨g,a1,a2,by show m <= n;omega⟩
  · rw [if_neg c]
    have mn : m < n := by
      have : m ≠ n := fun z => c (by rw [z];simp)
      omega
    by_cases c1 : m > 1
    · rw [if_pos c1]
      refine ⟨g.lt hn _,g.lt hn _,?_⟩
      rw [hb _ _ (g.lt hn _) (g.lt hn _),show decide (r (p.getD 0 0) < r (p.getD (m - 1) 0)) = true from decide_eq_true (show vA r p 0 < vA r p (m - 1) from a1 0 (m - 1) (by omega) (by omega))]
      dsimp only
      rw [if_pos rfl]
      exact ⟨g,a1,a2,by show m <= n;omega⟩
    · rw [if_neg c1]
      have e : m = 1 := by omega
      subst e
      have d2 : DscA r p 2 := fun i j hij hj => by
        have : i = 0 := by omega
        have : j = 1 := by omega
        subst i j
        exact a4 (by omega)
      unfold kas_descPart
      refine KRun.bind (KRun.mono (fun x ⟨b0,b1,b2,b3,b4⟩ => ?_) (yQ ri hb g (n - (1 + 1)) (1 + 1) (by omega) (by omega) d2))
      rw [b1,if_neg (Nat.lt_irrefl 0),b0]
      exact J6 ri hb g (by omega) (by omega) b2
theorem Qi : ∀ (f : Nat) (p : Array Nat) (k : Nat),Gd n p -> k + f = n -> AscA r p k -> KRun bt n (kas_bin f p k) fun x => Gd n x /\ AscA r x n
  | 0,p,k,g,e,a => by
    have : k = n := by omega
    subst this
    exact ⟨g,a⟩
  | f + 1,p,k,g,e,a => by
    unfold kas_bin
    have hk : k < n := by omega
    refine KRun.bind (KRun.mono (fun l ⟨a1,a2,a3⟩ => ?_) (xE ri hb g hk a k 0 k (by omega) (Nat.zero_le _) (Nat.le_refl _) (fun i hi => absurd hi (Nat.not_lt_zero _)) fun i h1 h2 => by omega))
    refine Qi f _ (k + 1) (g.bub k (k - l)) (by omega) fun i j hij hj => ?_
    have at_ : ∀ i,vA r (bubble p k (k - l)) i = if i = l then vA r p k else if l < i /\ i <= k then vA r p (i - 1) else vA r p i := fun i => by
      unfold vA
      have e := getElem?_bubble (xs := p) (src := k) (by rw [g.sz];exact hk) (k - l) (by omega) i
      rw [show k - (k - l) = l by omega] at e
      rw [Array.getD_eq_getD_getElem?,e]
      by_cases c1 : i = l
      · rw [if_pos c1,if_pos c1,<- Array.getD_eq_getD_getElem?]
      · rw [if_neg c1,if_neg c1]
        by_cases c2 : l < i /\ i <= k
        · rw [if_pos c2,if_pos c2,<- Array.getD_eq_getD_getElem?]
        · rw [if_neg c2,if_neg c2,<- Array.getD_eq_getD_getElem?]
    rw [at_ i,at_ j]
    by_cases c1 : i = l
    · rw [if_pos c1,if_neg (by omega),if_pos (by omega)]
      exact a3 (j - 1) (by omega) (by omega)
    · rw [if_neg c1]
      by_cases c2 : l < i /\ i <= k
      · rw [if_pos c2,if_neg (by omega),if_pos (by omega)]
        exact a (i - 1) (j - 1) (by omega) (by omega)
      · rw [if_neg c2]
        by_cases c3 : j = l
        · rw [if_pos c3]
          exact a2 i (by omega)
        · rw [if_neg c3]
          by_cases c4 : l < j /\ j <= k
          · rw [if_pos c4]
            by_cases c5 : i = j - 1
            · omega
            · exact a i (j - 1) (by omega) (by omega)
          · rw [if_neg c4]
            exact a i j hij (by omega)
theorem J7 (h2 : 2 <= n) : KRun bt n (kas_sort n) fun p => p.toList.Perm (List.range n) /\ (p.toList.map r).Pairwise (· < ·) := by
  have fin : ∀ p : Array Nat,Gd n p -> AscA r p n -> p.toList.Perm (List.range n) /\ (p.toList.map r).Pairwise (· < ·) := fun p g a => by
    refine ⟨g.pm,List.pairwise_map.mpr (List.pairwise_iff_getElem.mpr fun i j hi hj hij => ?_)⟩
    rw [Array.length_toList,g.sz] at hi hj
    have := a i j hij hj
    unfold vA at this
    rw [Array.getD_eq_getD_getElem?,Array.getD_eq_getD_getElem?,Array.getElem?_eq_getElem (by rw [g.sz];exact hi),Array.getElem?_eq_getElem (by rw [g.sz];exact hj)] at this
    simpa using this
  unfold kas_sort
  refine KRun.bind (KRun.mono (fun x ⟨g,a,b1,b2⟩ => ?_) (Ja ri hb (p := List.toArray (List.range n)) ⟨.refl _⟩ h2))
  by_cases c : x.1 < n
  · rw [if_pos c,Nat.max_eq_left b1]
    exact KRun.mono (fun p ⟨g',a'⟩ => fin p g' a') (Qi ri hb (n - x.1) x.2 x.1 g (by omega) a)
  · rw [if_neg c]
    have e : x.1 = n := by omega
    rw [e] at a
    exact fin x.2 g a
end
end L2
set_option Elab.async false
set_option linter.all false
set_option maxRecDepth 100000
set_option maxHeartbeats 4000000
namespace L2
open PySem PySem.Spec PyProof.Rows PySem.W
section
variable {prog : Program} {w : World} {A : Around} {E : Value -> Shared -> Prop} {s : Shared}
theorem vF (vs : List Value) : ((List.range vs.length).map fun i => vs.getD i Value.none) = vs := by
  refine List.ext_getElem (by simp) fun i h1 h2 => ?_
  simp [h2]
theorem Q6 {a : Addr} {vs : List Value} {n : Nat} {P : PySem.Fin -> Shared -> Prop} (ho : s.heap.get? a = some (seqObj "list" vs.toArray n)) (h64 : vs.length < 64) (r : Nat -> Nat) (ri : ∀ i j,i < vs.length -> j < vs.length -> r i = r j -> i = j)
    (hk : 2 <= vs.length -> ∀ h',(∀ b o,b ≠ a -> s.heap.get? b = some o -> h'.get? b = some o) -> ∃ κ,(∀ Q : SortKind -> Shared -> Prop,Q κ { s with heap := h' } -> wpAny (model prog w) A (keyKind' vs.toArray) Q (fun _ _ => False) { s with heap := h' }) /\
      ∀ i j,i < vs.length -> j < vs.length -> ∀ C : Bool -> Shared -> Prop,C (decide (r i < r j)) { s with heap := h' } -> kas_ask prog w A κ vs i j C { s with heap := h' })
    (h : ∀ p : List Nat,p.Perm (List.range vs.length) -> (p.map r).Pairwise (· < ·) -> P (.done (.ret .none)) { s with heap := sortedHeap s.heap a vs (p.map fun i => vs.getD i Value.none).toArray }) :
    wpAny (model prog w) A (Builtin.«list.sort» ⟨[.ref a],[]⟩) P E s := by
  have ha : a < s.heap.objs.size := Heap.lt_size ho
  have sz : sizeLine = 16777216 := sizeLine_eq
  obtain ⟨e1,ho1⟩ : ∃ e1,(s.heap.update a (Obj.mapSeq fun _ => (#[] : Array Value))).get? a = some (seqObj "list" #[] e1) := ⟨_,get?_update_seq ho fun _ => #[]⟩
  rw [list_sort_plain]
  refine wpAny_bind (listItems_at ho rfl (wpAny_bind (listUpdate_at ho rfl ?_ (by rw [List.size_toArray];omega) (Nat.zero_le _))))
  refine wpAny_bind (seqEpoch_at ho1 rfl (wpAny_bind (wpAny_newTuple ?_ (by show vs.length <= _;omega))))
  refine wpAny_bind (wpAny_newList ?_ (Nat.zero_le _))
  refine wpAny_holding (show wpAny (model prog w) A _ P E { s with heap := ((s.heap.update a (Obj.mapSeq fun _ => (#[] : Array Value))).push (seqObj "tuple" vs.toArray 0)).push (seqObj "list" #[] 0) } from ?_)
  have ho6 : (((s.heap.update a (Obj.mapSeq fun _ => (#[] : Array Value))).push (seqObj "tuple" vs.toArray 0)).push (seqObj "list" #[] 0)).get? a = some (seqObj "list" #[] e1) := Heap.get?_push_of_some _ (Heap.get?_push_of_some _ ho1)
  have oth : ∀ b o,b ≠ a -> s.heap.get? b = some o -> (((s.heap.update a (Obj.mapSeq fun _ => (#[] : Array Value))).push (seqObj "tuple" vs.toArray 0)).push (seqObj "list" #[] 0)).get? b = some o := fun b o hb e => Heap.get?_push_of_some _ (Heap.get?_push_of_some _ ((Heap.get?_update_other _ _ (Ne.symm hb)).trans e))
  dsimp only
  by_cases h2 : vs.toArray.size < 2
  · rw [if_pos h2,if_pos h2]
    have l2 : vs.length < 2 := by rw [List.size_toArray] at h2;exact h2
    refine wpAny_bind (wpAny_pure ?_)
    rw [StateT.run_pure]
    refine wpAny_bind (wpAny_pure ?_)
    dsimp only
    have eo : ((vs.toArray.zip vs.toArray).map (·.2)) = ((List.range vs.length).map fun i => vs.getD i Value.none).toArray := by
      rw [vF]
      refine Array.ext (by simp) fun i h1 h3 => ?_
      simp
    refine wpAny_bind (seqEpoch_at ho6 rfl (wpAny_bind (listUpdate_at ho6 rfl ?_ (Nat.zero_le _) (by rw [show arrOf (SortSt.mk' general' (vs.toArray.zip vs.toArray) #[] 7 none) = vs.toArray.zip vs.toArray from rfl,eo,vF,List.size_toArray];omega))))
    simp only [bne_self_eq_false,Bool.false_eq_true,if_false]
    refine wpAny_pure ?_
    have := h (List.range vs.length) (.refl _) (List.pairwise_map.mpr (List.pairwise_iff_getElem.mpr fun i j hi hj hij => by simp at hj;omega))
    rw [<- eo] at this
    exact this
  · rw [if_neg h2,if_neg h2]
    have h2' : 2 <= vs.length := by rw [List.size_toArray] at h2;omega
    obtain ⟨κ,kk,ask⟩ := hk h2' _ oth
    refine wpAny_bind (wpAny_mono (kk (fun κ' s' => κ' = κ /\ s' = _) ⟨rfl,rfl⟩) (fun κ' s' e => ?_) fun _ _ x => x.elim)
    obtain ⟨e1',e2'⟩ := e
    subst e1' e2'
    refine wpAny_bind (wpAny_mono (kat_run (ks := vs) (vs := vs) (κ := κ') (Q := fun st' s' => ∃ p : Array Nat,arrOf st' = p.map (kas_item (vs.toArray.zip vs.toArray)) /\ failedOf st' = none /\ p.toList.Perm (List.range vs.length) /\ (p.toList.map r).Pairwise (· < ·) /\ s' = { s with heap := ((s.heap.update a (Obj.mapSeq fun _ => (#[] : Array Value))).push (seqObj "tuple" vs.toArray 0)).push (seqObj "list" #[] 0) })
      (G := fun p s' => p.toList.Perm (List.range vs.length) /\ (p.toList.map r).Pairwise (· < ·) /\ s' = { s with heap := ((s.heap.update a (Obj.mapSeq fun _ => (#[] : Array Value))).push (seqObj "tuple" vs.toArray 0)).push (seqObj "list" #[] 0) })
      rfl h2' h64 (fun p st' s' _ a2 a3 ⟨a4,a5,a6⟩ => ⟨p,a2,a3,a4,a5,a6⟩) (KRun.wp (J := fun s' => s' = { s with heap := ((s.heap.update a (Obj.mapSeq fun _ => (#[] : Array Value))).push (seqObj "tuple" vs.toArray 0)).push (seqObj "list" #[] 0) }) (bt := fun i j => decide (r i < r j)) (n := vs.length)
        (fun i j hi hj C s' e c => ?_) (fun p s' ⟨q1,q2⟩ e => ⟨q1,q2,e⟩) (J7 ri (fun i j _ _ => rfl) h2') rfl)) (fun x s' hx => ?_) fun _ _ e => e)
    · subst e
      exact ask i j hi hj C (c _ rfl)
    · obtain ⟨⟨⟩,st'⟩ := x
      obtain ⟨p,b1,b2,b3,b4,b5⟩ := hx
      subst b5
      dsimp only
      have hout := kat_snds (ks := vs) (vs := vs) rfl b1
      have lp : p.toList.length = vs.length := by have := b3.length_eq;rwa [List.length_range] at this
      refine wpAny_bind (seqEpoch_at ho6 rfl (wpAny_bind (listUpdate_at ho6 rfl ?_ (Nat.zero_le _) (by rw [hout,List.size_toArray,List.length_map];omega))))
      rw [b2]
      simp only [bne_self_eq_false,Bool.false_eq_true,if_false]
      refine wpAny_pure ?_
      have := h p.toList b3 b4
      rw [<- hout] at this
      exact this
end
end L2
set_option Elab.async false
set_option linter.all false
set_option maxRecDepth 100000
set_option maxHeartbeats 4000000
namespace L2
open PySem PySem.Spec PyProof.Rows PySem.W
def rkB (n : Nat) (lt : Nat -> Nat -> Bool) (i : Nat) : Nat := (List.range n).countP fun j => lt j i
theorem w6 {n : Nat} {lt : Nat -> Nat -> Bool} (irr : ∀ i,i < n -> lt i i = false) (tr : ∀ i j k,i < n -> j < n -> k < n -> lt i j = true -> lt j k = true -> lt i k = true) {i j : Nat} (hi : i < n) (hj : j < n) (h : lt i j = true) : rkB n lt i < rkB n lt j := by
  unfold rkB
  have sub : ∀ l : List Nat,(∀ x ∈ l,x < n) -> l.countP (fun x => lt x i) <= l.countP (fun x => lt x j) := fun l => by
    induction l with
    | nil => intro _;exact Nat.le_refl _
    | cons x l ih =>
      intro hl
      have h1 := ih fun y hy => hl y (List.mem_cons_of_mem _ hy)
      rw [List.countP_cons,List.countP_cons]
      by_cases c : lt x i = true
      · have := tr x i j (hl x (by simp)) hi hj c h
        rw [if_pos c,if_pos this];omega
      · rw [if_neg c]
        split <;> omega
  have stric : ∀ l : List Nat,(∀ x ∈ l,x < n) -> i ∈ l -> l.countP (fun x => lt x i) < l.countP (fun x => lt x j) := fun l => by
    induction l with
    | nil => intro _ z;cases z
    | cons x l ih =>
      intro hl hm
      have hl' : ∀ y ∈ l,y < n := fun y hy => hl y (List.mem_cons_of_mem _ hy)
      rw [List.countP_cons,List.countP_cons]
      rcases List.mem_cons.mp hm with z | z
      · subst z
        rw [if_neg (by rw [irr i hi];exact Bool.false_ne_true),if_pos h]
        have := sub l hl'
        omega
      · have h1 := ih hl' z
        by_cases c : lt x i = true
        · have := tr x i j (hl x (by simp)) hi hj c h
          rw [if_pos c,if_pos this];omega
        · rw [if_neg c]
          split <;> omega
  exact stric _ (fun x hx => List.mem_range.mp hx) (List.mem_range.mpr hi)
theorem Qk {n : Nat} {lt : Nat -> Nat -> Bool} (irr : ∀ i,i < n -> lt i i = false) (tr : ∀ i j k,i < n -> j < n -> k < n -> lt i j = true -> lt j k = true -> lt i k = true) (tot : ∀ i j,i < n -> j < n -> i ≠ j -> lt i j = true \/ lt j i = true) {i j : Nat} (hi : i < n) (hj : j < n) : lt i j = decide (rkB n lt i < rkB n lt j) := by
  by_cases c : lt i j = true
  · rw [c,decide_eq_true (w6 irr tr hi hj c)]
  · rw [(Bool.not_eq_true _).mp c,eq_comm]
    refine decide_eq_false fun z => ?_
    by_cases e : i = j
    · subst e;omega
    · rcases tot i j hi hj e with q | q
      · exact c q
      · have := w6 irr tr hj hi q;omega
theorem Ve {n : Nat} {lt : Nat -> Nat -> Bool} (irr : ∀ i,i < n -> lt i i = false) (tr : ∀ i j k,i < n -> j < n -> k < n -> lt i j = true -> lt j k = true -> lt i k = true) (tot : ∀ i j,i < n -> j < n -> i ≠ j -> lt i j = true \/ lt j i = true) (i j : Nat) (hi : i < n) (hj : j < n) (e : rkB n lt i = rkB n lt j) : i = j := by
  by_cases c : i = j
  · exact c
  · rcases tot i j hi hj c with q | q
    · have := w6 irr tr hi hj q;omega
    · have := w6 irr tr hj hi q;omega
section
variable {X : Cx} {pins : List (Addr × Obj)} {σ : St} {s : Shared}
end
end L2
set_option Elab.async false
set_option linter.all false
set_option maxRecDepth 100000
set_option maxHeartbeats 4000000
namespace L2
open PySem PySem.Spec PyProof.Rows PySem.W
section
variable {X : Cx}
def yy (p d : Addr) : HO := .ext fun h => h.IsItemsView p d
end
end L2
set_option Elab.async false
set_option linter.all false
set_option maxRecDepth 100000
set_option maxHeartbeats 4000000
namespace L2
open PySem PySem.Spec PyProof.Rows
section
variable {X : Cx}
variable {elt iter : Expr} {ifs : List Expr} {scope : Scope} {pos : Pos} {wi : TI} {tf : TT} {te : TE} {x y z : Str} {px py pz tp : Pos} {kk : Nat}
end
end L2
set_option Elab.async false
set_option linter.all false
set_option maxRecDepth 100000
set_option maxHeartbeats 4000000
namespace L2
open PySem PySem.Spec PyProof.Rows
section
variable {X : Cx}
end
end L2
set_option Elab.async false
set_option linter.all false
set_option maxRecDepth 100000
set_option maxHeartbeats 4000000
namespace L2
open PySem PySem.Spec PyProof.Rows
section
variable {X : Cx} {elt tg iter : Expr} {ifs : List Expr} {scope : Scope} {pos : Pos} {wi : TI} {g : TG} {tf : TT} {te : TE} {x : Str}
end
end L2
set_option Elab.async false
set_option linter.all false
set_option maxRecDepth 100000
set_option maxHeartbeats 4000000
namespace L2
open PySem PySem.Spec PyProof.Rows PySem.W
section
variable {prog : Program} {w : World} {A : Around} {E : Value -> Shared -> Prop} {s : Shared}
end
end L2
set_option Elab.async false
set_option linter.all false
set_option maxRecDepth 100000
set_option maxHeartbeats 4000000
namespace L2
open PySem PySem.Spec PyProof.Rows PySem.W
def ltP (a b : Int × Int) : Bool := decide (a.1 < b.1 \/ a.1 = b.1 /\ a.2 < b.2)
theorem vm (a : Int × Int) : ltP a a = false := decide_eq_false (by omega)
theorem Xu {a b c : Int × Int} (h1 : ltP a b = true) (h2 : ltP b c = true) : ltP a c = true := by
  have := of_decide_eq_true h1
  have := of_decide_eq_true h2
  exact decide_eq_true (by omega)
theorem Vz {a b : Int × Int} (h : a ≠ b) : ltP a b = true \/ ltP b a = true := by
  by_cases h1 : a.1 = b.1
  · have h2 : a.2 ≠ b.2 := fun z => h (by cases a;cases b;simp at h1 z;rw [h1,z])
    by_cases h3 : a.2 < b.2
    · exact .inl (decide_eq_true (by omega))
    · exact .inr (decide_eq_true (by omega))
  · by_cases h3 : a.1 < b.1
    · exact .inl (decide_eq_true (by omega))
    · exact .inr (decide_eq_true (by omega))
def PrR (H : Hp) (zs : List V) (ps : List (Int × Int)) : Prop := zs.length = ps.length /\ ∀ (j : Nat) q,ps[j]? = some q -> ∃ T,zs[j]? = some (.ref T) /\ H T = some (.tup [.int q.1,.int q.2])
theorem PrR.nil {H : Hp} : PrR H [] [] := ⟨rfl,fun j q e => by simp at e⟩
theorem PrR.same {H H' : Hp} {zs : List V} {ps : List (Int × Int)} (h : PrR H zs ps) (s : Same H H') : PrR H' zs ps := ⟨h.1,fun j k e => let ⟨T,a,b⟩ := h.2 j k e;⟨T,a,s _ _ b⟩⟩
theorem PrR.snoc {H : Hp} {zs : List V} {ps : List (Int × Int)} {q : Int × Int} {T : Addr} (h : PrR H zs ps) (e : H T = some (.tup [.int q.1,.int q.2])) : PrR H (zs ++ [.ref T]) (ps ++ [q]) := by
  refine ⟨by rw [List.length_append,List.length_append,h.1];rfl,fun j r hr => ?_⟩
  by_cases hj : j < ps.length
  · rw [List.getElem?_append_left hj] at hr
    obtain ⟨U,e1,e2⟩ := h.2 j r hr
    exact ⟨U,by rw [List.getElem?_append_left (by rw [h.1];exact hj)];exact e1,e2⟩
  · have hl := (List.getElem?_eq_some_iff.mp hr).1
    rw [List.length_append] at hl
    have ej : j = ps.length := by simp at hl;omega
    subst ej
    rw [List.getElem?_append_right (Nat.le_refl _),Nat.sub_self] at hr
    have : q = r := by simpa using hr
    subst this
    exact ⟨T,by rw [<- h.1,List.getElem?_append_right (Nat.le_refl _),Nat.sub_self];rfl,e⟩
theorem PrR.rev {H : Hp} {zs : List V} {ps : List (Int × Int)} (h : PrR H zs ps) : PrR H zs.reverse ps.reverse := by
  refine ⟨by rw [List.length_reverse,List.length_reverse,h.1],fun j q e => ?_⟩
  have hj := (List.getElem?_eq_some_iff.mp e).1
  rw [List.length_reverse] at hj
  rw [List.getElem?_reverse hj] at e
  obtain ⟨T,e1,e2⟩ := h.2 _ q e
  exact ⟨T,by rw [List.getElem?_reverse (by rw [h.1];exact hj),h.1];exact e1,e2⟩
theorem xS {h : Heap} : ∀ (vs : List Value),(∀ v ∈ vs,∃ a o xs n x t,v = Value.ref a /\ h.get? a = some o /\ o.cls = .type "tuple" /\ o.data = .seq xs n /\ xs[0]? = some (Value.int x t)) -> ∃ fs,KatTups h vs fs /\ fs.length = vs.length /\ ∀ v ∈ fs,∃ x t,v = Value.int x t
  | [],_ => ⟨[],KatTups.nil,rfl,fun v hv => nomatch hv⟩
  | v :: vs,hs => by
    obtain ⟨fs,k,l,m⟩ := xS vs fun b hb => hs b (List.mem_cons_of_mem _ hb)
    obtain ⟨a,o,xs,n,x,t,rfl,e1,e2,e3,e4⟩ := hs v (by simp)
    refine ⟨.int x t :: fs,KatTups.cons e1 e2 e3 e4 k,by rw [List.length_cons,l];rfl,fun u hu => ?_⟩
    rcases List.mem_cons.mp hu with z | z
    · exact ⟨x,t,z⟩
    · exact m u z
def ltQ (ps : List (Int × Int)) (i j : Nat) : Bool := ltP (ps.getD i (0,0)) (ps.getD j (0,0))
theorem Vy {ps : List (Int × Int)} (nd : ps.Nodup) (i j : Nat) (hi : i < ps.length) (hj : j < ps.length) (h : i ≠ j) : ltQ ps i j = true \/ ltQ ps j i = true := by
  refine Vz fun e => h ?_
  rw [List.getD_eq_getElem?_getD,List.getD_eq_getElem?_getD,List.getElem?_eq_getElem hi,List.getElem?_eq_getElem hj] at e
  exact (List.getElem_inj nd).mp e
section
variable {X : Cx}
end
end L2
set_option Elab.async false
set_option linter.all false
set_option maxRecDepth 100000
set_option maxHeartbeats 4000000
namespace L2
open PySem PySem.Spec PyProof.Rows
section
variable {X : Cx}
end
end L2
set_option Elab.async false
set_option linter.all false
set_option maxRecDepth 100000
set_option maxHeartbeats 4000000
namespace L2
open PySem PySem.Spec PyProof.Rows
section
variable {X : Cx}
end
end L2
set_option Elab.async false
set_option linter.all false
set_option maxRecDepth 100000
set_option maxHeartbeats 4000000
namespace L2
open PySem PySem.Spec PyProof.Rows
section
variable {X : Cx}
end
end L2
set_option Elab.async false
set_option linter.all false
set_option maxRecDepth 100000
set_option maxHeartbeats 4000000
namespace L2
open PySem PySem.Spec PyProof.Rows
section
variable {X : Cx}
end
end L2
set_option Elab.async false
set_option linter.all false
set_option maxRecDepth 100000
set_option maxHeartbeats 4000000
namespace L2
open PySem PySem.Spec PyProof.Rows
end L2
set_option Elab.async false
set_option linter.all false
set_option maxRecDepth 100000
set_option maxHeartbeats 4000000
namespace L2
open PySem PySem.Spec PyProof.Rows
section
variable {X : Cx}
end
end L2
set_option Elab.async false
set_option linter.all false
set_option maxRecDepth 100000
set_option maxHeartbeats 4000000
namespace L2
open PySem PySem.Spec PyProof.Rows
def AtQ (K : PySem.W.Frag) (H : Hp) (t : Bool) (a : Addr) (xs : List V) : Prop := if t = true then SqT K H a xs else H a = some (.lst xs)
def SqQ (K : PySem.W.Frag) (H : Hp) (t : Bool) (a : Addr) (xs : List V) : Prop := if t = true then SqT K H a xs else SqL K H a xs
theorem AtQ.sq {K : PySem.W.Frag} {H : Hp} {t : Bool} {a : Addr} {xs : List V} (h : AtQ K H t a xs) : SqQ K H t a xs := by
  cases t with
  | true => exact h
  | false => exact SqL.of h
theorem AtQ.same {K : PySem.W.Frag} {H H' : Hp} {t : Bool} {a : Addr} {xs : List V} (h : AtQ K H t a xs) (s : Same H H') : AtQ K H' t a xs := by
  cases t with
  | true => exact s.sqT h
  | false => exact s _ _ h
def oQ (t : Bool) (xs : List V) : HO := if t = true then .tup xs else .lst xs
def Tkn (H : Hp) (ex : List Addr) : Prop := ∀ e ∈ ex,∃ o,H e = some o
theorem Tkn.out {H : Hp} {ex : List Addr} {p : Addr} (h : Tkn H ex) (hp : H p = none) : p ∉ ex := fun z => by
  obtain ⟨o,e⟩ := h p z
  rw [hp] at e
  cases e
theorem AtQ.new {K : PySem.W.Frag} {H : Hp} {ex : List Addr} {p : Addr} (T : Tkn H ex) (hp : H p = none) (t : Bool) (xs : List V) : AtQ K (WX ex (upd H p (oQ t xs))) t p xs := by
  have := WX.at (T.out hp) (zi (H := H) (a := p) (o := oQ t xs))
  cases t with
  | true => exact SqT.of this
  | false => exact this
section
variable {X : Cx}
end
end L2
set_option Elab.async false
set_option linter.all false
set_option maxRecDepth 100000
set_option maxHeartbeats 4000000
namespace L2
open PySem PySem.Spec PyProof.Rows
section
variable {X : Cx}
end
end L2
set_option Elab.async false
set_option linter.all false
set_option maxRecDepth 100000
set_option maxHeartbeats 4000000
namespace L2
open PySem PySem.Spec PyProof.Rows
section
variable {X : Cx}
end
end L2
set_option Elab.async false
set_option linter.all false
set_option maxRecDepth 100000
set_option maxHeartbeats 4000000
namespace PySem
section
variable {prog : Program} {w : World} {A : Around} {d : Addr} {es : Array DictEntry} {ep : Nat}
end
end PySem
namespace L2
open PySem PySem.Spec PyProof.Rows
section
variable {X : Cx}
end
end L2
set_option Elab.async false
set_option linter.all false
set_option maxRecDepth 100000
set_option maxHeartbeats 4000000
namespace L2
open PySem PySem.Spec PyProof.Rows
section
variable {X : Cx}
variable {o e : Expr} {es : List Expr} {to : TE} {t : TA} {name : Str} {apos cpos : Pos} {id : String} {r : V -> List V -> Hp -> VK -> Prop}
end
end L2
set_option Elab.async false
set_option linter.all false
set_option maxRecDepth 100000
set_option maxHeartbeats 4000000
namespace L2
open PySem PySem.Spec PyProof.Rows PySem.W
section
variable {X : Cx}
def zag (te : TE) : TE := fun σ H R => te σ H fun x H1 => ∃ d kvs,x = .ref d /\ H1 d = some (.dK kvs) /\ ∀ o,R x (upd H1 d (.frz o (.dK kvs)))
theorem Xh {e : Expr} {te : TE} (he : PE X e te) : PE X e (zag te) := by
  intro pins s σ H R I h
  refine thn (he pins s σ H _ I h) fun v s1 ⟨x,H1,I1,r1,q1⟩ => ?_
  obtain ⟨d,kvs,e,hd,q⟩ := q1
  subst e
  obtain ⟨z,y,vs,r,o,es,ep,h1,h2⟩ := (show ObjOk X.prog X.w H1 s1.heap d (.dK kvs) from I1.hok d _ hd)
  refine ⟨.ref d,_,I1.write (s := s1) (t' := s1.toks) (h' := s1.heap) (x := d) (e := d) (o := .frz o (.dK kvs)) (by rw [hd];exact True.intro) (.inl rfl) (fun b u _ e => e) ⟨o,h1⟩ ?_,r1,q o⟩
  exact ⟨h1,z,y,vs,r,o,es,ep,h1,h2⟩
inductive Ql (x : V) (vs : List V) (H : Hp) (Q : VK) : Prop
  | mk (d o kvs : _) (_ : x = .ref d) (_ : vs = []) (_ : H d = some (.frz o (.dK kvs))) (_ : ∀ p,H p = none -> Q (.ref p) (upd H p (yy p d))) : Ql  x vs H Q
theorem wG : MtM X "dict.items" Ql := by
  intro pins s σ H x vs v us Q I rx rv h
  obtain ⟨d,o,kvs,rfl,rfl,hd,q⟩ := h
  cases rx
  cases rv
  obtain ⟨zz,lo,vs,rel,dd⟩ := wJ I.hok (.inr ⟨o,hd⟩)
  have hn : H s.heap.objs.size = none := I.hok.fresh (Nat.le_refl _)
  refine call_meetsIn PySem.F.slot_dict_items dd.typeIs PySem.F.entry_dict_items (PySem.F.args_dict_items_1 _) (meets_dict_items (zO X.prog X.w) d lo) ⟨⟨vs,dd⟩,?_⟩
  exact ⟨.ref s.heap.objs.size,_,I.laid (a := s.heap.objs.size) (o := yy s.heap.objs.size d) (t' := s.toks) (fun b u e => Heap.get?_push_of_some _ e) (Nat.le_refl _) ⟨⟨_,Heap.get?_push_size _ rfl,rfl,rfl⟩,⟨_,Heap.get?_push_size _ rfl⟩,fun h1 h2 x e => let ⟨o,ho,r⟩ := x;⟨o,e o ho,r⟩⟩,rfl,q _ hn⟩
end
def ItV (d : Addr) (o : Obj) (kvs : List (Key × V)) : It :=
  ⟨fun i H => H d = some (.frz o (.dK kvs)) /\ i < kvs.length,fun i H x H' => ∃ T k v,x = .ref T /\ H T = none /\ H' = upd H T (.tup [kV k,v]) /\ kvs[i]? = some (k,v),fun i H => H d = some (.frz o (.dK kvs)) /\ kvs.length <= i⟩
theorem XI {P : Program} {w : World} {H : Hp} {h : Heap} {d : Addr} {o : Obj} {kvs : List (Key × V)} {es : Array DictEntry} {ep : Nat} (ok : HOk P w H h) (e : H d = some (.frz o (.dK kvs))) (he : o.data = .dict es ep) :
    (d == sysModules) = false /\ ∃ vs,KV kvs vs /\ h.DictAt (zO P w) d vs ep := by
  obtain ⟨e1,z,y,vs,r,o',es',ep',h1,h2,h3,h4,h5,h6⟩ := (show ObjOk P w H h d (.frz o (.dK kvs)) from ok d _ e)
  rw [e1] at h1
  cases h1
  rw [he] at h3
  cases h3
  exact ⟨y,vs,r,o,es,e1,h2,he,h4,h5,h6⟩
theorem QZ {P : Program} {w : World} {K : PySem.W.Frag} {elts : List Expr} {kk : Nat} {pos : Pos} (d it : Addr) (o : Obj) (kvs : List (Key × V)) (es : Array DictEntry) (ep : Nat) (he : o.data = .dict es ep) :
    Zy P w K (.Tuple elts kk pos) (ItV d o kvs) [it] it (fun i h => ∃ ok ov,IsItemIter h it d i kvs.length ep ok ov) where
  mem := by simp
  obj := fun i h st b hb => by
    have e : b = it := by simpa using hb
    subst e
    obtain ⟨_,_,st⟩ := st
    exact ⟨_,st,fun v z => nomatch z⟩
  keep := fun i h h' st k => let ⟨a,b,st⟩ := st;⟨a,b,k it (by simp) _ st⟩
  item := by
    intro X hP hw hK hc i pins s σ H E I hf st hg
    subst hP hw hK
    obtain ⟨hd,hi⟩ := hg
    obtain ⟨ok,ov,st⟩ := st
    obtain ⟨lo,vs,r,da⟩ := XI I.hok hd he
    have ln := r.length
    obtain ⟨⟨k,v⟩,hx⟩ : ∃ p,kvs[i]? = some p := ⟨kvs[i],by simp [hi]⟩
    obtain ⟨⟨k',u⟩,hy⟩ : ∃ p,vs[i]? = some p := ⟨vs[i]'(by omega),by simp⟩
    obtain ⟨p',e6,e7,e8⟩ := KV.get r hy
    rw [hx] at e6
    cases e6
    have e7 : k = k' := e7
    subst e7
    have e8 : RelV v u := e8
    rw [ln] at st
    refine wpAny_pyNext_items_item st da hy fun key h' hk hout hT hsz hkeep => ?_
    refine ⟨_,rfl,wpAny_letOwnedTupleGo_items hout fun h2 he2 hs2 => ?_⟩
    have eT : s.heap.objs.size ≠ it := Nat.ne_of_gt (Heap.lt_size st)
    have k2 : ∀ b o,b ∉ [it] -> s.heap.get? b = some o -> h2.get? b = some o := fun b o hb q => by
      have n1 : b ≠ it := fun z => hb (by simp [z])
      exact (hs2.2 b n1).trans (hkeep b o n1 q)
    refine ⟨.ref s.heap.objs.size,upd H s.heap.objs.size (.tup [kV k,v]),?_,rfl,⟨_,k,v,rfl,I.hok.fresh (Nat.le_refl _),rfl,hx⟩,⟨_,_,by rw [ln];exact he2⟩,fun b hb => ?_⟩
    · exact yk (s := s) (h' := h2) (t' := s.toks) (its := [key,u]) I hf (Nat.le_refl _) k2 (by rw [sizeLine_eq];exact (by decide : 2 <= 16777216)) (.cons (YT hk) (.cons e8 .nil)) (TupX.by ((hs2.2 _ eT).trans hT))
    · have hb' : b < s.heap.objs.size := by
        rw [List.mem_singleton.mp hb];exact Heap.lt_size st
      rw [zw (Nat.ne_of_lt hb')]
      exact (hf b hb).1
  done := by
    intro X hP hw hK hc i pins s σ H E I hf st hg
    subst hP hw hK
    obtain ⟨hd,hi⟩ := hg
    obtain ⟨ok,ov,st⟩ := st
    obtain ⟨lo,vs,r,da⟩ := XI I.hok hd he
    have ln := r.length
    obtain ⟨f0,f1,f2,f3,f4,f5⟩ := hf it (by simp)
    rw [ln] at st
    exact wpAny_pyNext_items_end (I.ok.hd hc) st da (by simp;omega) fun h' eb => ⟨rfl,I.turned (t' := s.toks) (fun b o hb e => eb b o hb e) f0 f1 f3 f4 f5⟩
  self := fun _ _ _ _ _ st h => let ⟨_,_,st⟩ := st;kcp_self st h
section
variable {X : Cx}
def YV (tl : TE) : TI := fun σ H R => tl σ H fun x H1 => ∃ p d o kvs,x = .ref p /\ H1 p = some (yy p d) /\ H1 d = some (.frz o (.dK kvs)) /\ R (ItV d o kvs) H1
theorem Qo {l : Expr} {tl : TE} {elts : List Expr} {kk : Nat} {tp : Pos} (hl : PE X l tl) : PI X (.Tuple elts kk tp) l (YV tl) := by
  intro pins s σ H R I h
  refine thn (hl pins s σ H _ I h) fun v s1 ⟨x,H1,I1,r1,q1⟩ => ?_
  obtain ⟨p,d,o,kvs,e,hp,hd,q⟩ := q1
  subst e
  cases r1
  obtain ⟨hv,_,_⟩ := (show ObjOk X.prog X.w H1 s1.heap p (yy p d) from I1.hok p _ hp)
  obtain ⟨e1,z,y,vs,r,o',es,ep,h1,h2,h3,h4,h5,h6⟩ := (show ObjOk X.prog X.w H1 s1.heap d (.frz o (.dK kvs)) from I1.hok d _ hd)
  rw [e1] at h1
  cases h1
  have ln := r.length
  refine wpAny_pyIter_items (knd := zO X.prog X.w) (kvs := vs) (ep := ep) hv ⟨o,es,e1,h2,h3,h4,h5,h6⟩ ?_
  refine ⟨s1.heap.objs.size,[s1.heap.objs.size],_,_,H1,rfl,I1.kept (t' := s1.toks) (fun b o e => Heap.get?_push_of_some _ e),QZ d _ o kvs es ep h3,⟨.none,.none,by rw [ln];exact Heap.get?_push_size _ rfl⟩,fun b hb => ?_,q⟩
  have e : b = s1.heap.objs.size := by simpa using hb
  subst e
  exact I1.fpOk (Nat.le_refl _) (I1.hok.fresh (Nat.le_refl _))
end
theorem XJ {d : Addr} {o : Obj} {kvs : List (Key × V)} {g : TG} {tb : TS} {D : wv} {σ : St} {H : Hp} (Pv : Nat -> St -> Hp -> Prop) (h0 : Pv 0 σ H) (hl : ∀ i σ H,i <= kvs.length -> Pv i σ H -> H d = some (.frz o (.dK kvs)))
    (hs : ∀ i k v σ H T,kvs[i]? = some (k,v) -> Pv i σ H -> H T = none -> g (.ref T) σ (upd H T (.tup [kV k,v])) fun σ2 H2 => tb { D with nx := Pv (i + 1),ct := Pv (i + 1),bk := D.nx } σ2 H2) (hd : ∀ σ H,Pv kvs.length σ H -> D.nx σ H) :
    ∃ W : Nat -> Nat -> St -> Hp -> Prop,(∃ m,W 0 m σ H) /\ ∀ i m σ H,W i m σ H ->
      ((ItV d o kvs).stop i H /\ D.nx σ H) \/ ((ItV d o kvs).go i H /\ ∃ N : St -> Hp -> Prop,(∀ σ' H',N σ' H' -> ∃ m',m' < m /\ W (i + 1) m' σ' H') /\ ∀ x H',(ItV d o kvs).yld i H x H' -> g x σ H' fun σ2 H2 => tb { D with nx := N,ct := N,bk := D.nx } σ2 H2) := by
  refine ⟨fun i m σ H => m = kvs.length - i /\ i <= kvs.length /\ Pv i σ H,⟨_,rfl,Nat.zero_le _,h0⟩,?_⟩
  rintro i m σ H ⟨rfl,hi,p⟩
  have q := hl i σ H hi p
  by_cases hlt : i < kvs.length
  · refine .inr ⟨⟨q,hlt⟩,Pv (i + 1),fun σ' H' p' => ⟨kvs.length - (i + 1),by omega,rfl,hlt,p'⟩,fun x H' y => ?_⟩
    obtain ⟨T,k,v,e1,hT,e2,y⟩ := y
    subst e1 e2
    exact hs i k v σ H T y p hT
  · have e : i = kvs.length := by omega
    subst e
    exact .inl ⟨⟨q,Nat.le_refl _⟩,hd σ H p⟩
theorem VC {d : Addr} {o : Obj} {kvs : List (Key × V)} {n : Nat} {g : TG} {tf : TT} {te : TE} {σ0 : St} {R : List V -> Hp -> Prop} {H : Hp} (Pv : Nat -> List V -> Hp -> Prop) (h0 : Pv 0 [] H)
    (h1 : ∀ i zs H,Pv i zs H -> H d = some (.frz o (.dK kvs)))
    (hs : ∀ i k v zs H T,kvs[i]? = some (k,v) -> Pv i zs H -> H T = none -> g (.ref T) σ0 (upd H T (.tup [kV k,v])) fun σ4 H4 => σ4.drop n = σ0.drop n /\ tf σ4 H4 fun b H5 => if b = true then te σ4 H5 fun v H6 => zs.length < sizeLine /\ Pv (i + 1) (zs ++ [v]) H6 else Pv (i + 1) zs H5)
    (hd : ∀ zs H,Pv kvs.length zs H -> zs.length <= sizeLine /\ R zs H) :
    ∃ W : Nat -> Nat -> List V -> Hp -> Prop,(∃ m,W 0 m [] H) /\ ∀ i m zs H2,W i m zs H2 ->
      ((ItV d o kvs).stop i H2 /\ zs.length <= sizeLine /\ R zs H2) \/
      ((ItV d o kvs).go i H2 /\ ∃ M : List V -> Hp -> Prop,(∀ zs H',M zs H' -> ∃ m',m' < m /\ W (i + 1) m' zs H') /\ ∀ x H3,(ItV d o kvs).yld i H2 x H3 -> g x σ0 H3 fun σ4 H4 => σ4.drop n = σ0.drop n /\ tf σ4 H4 fun b H5 =>
        if b = true then te σ4 H5 fun y H6 => zs.length < sizeLine /\ M (zs ++ [y]) H6 else M zs H5) := by
  refine ⟨fun i m zs H2 => m = kvs.length - i /\ i <= kvs.length /\ Pv i zs H2,⟨_,rfl,Nat.zero_le _,h0⟩,?_⟩
  rintro i m zs H2 ⟨rfl,hi,p⟩
  by_cases hlt : i < kvs.length
  · refine .inr ⟨⟨h1 i zs H2 p,hlt⟩,Pv (i + 1),fun zs' H' p' => ⟨_,by omega,rfl,hlt,p'⟩,fun x H3 y => ?_⟩
    obtain ⟨T,k,v,e1,hT,e2,y⟩ := y
    subst e1 e2
    exact hs i k v zs H2 T y p hT
  · have e : i = kvs.length := by omega
    subst e
    obtain ⟨z1,z2⟩ := hd zs H2 p
    exact .inl ⟨⟨h1 _ zs H2 p,Nat.le_refl _⟩,z1,z2⟩
end L2
set_option Elab.async false
set_option linter.all false
set_option maxRecDepth 100000
set_option maxHeartbeats 4000000
namespace L2
open PySem PySem.Spec PyProof.Rows PySem.W
section
variable {X : Cx}
inductive jM (K : PySem.W.Frag) (xs : List V) (H : Hp) (Q : VK) : Prop
  | mk (a : Addr) (zs : List V) (ps : List (Int × Int)) (_ : xs = [.ref a]) (_ : SqL K H a zs) (_ : PrR H zs ps) (_ : ps.Nodup) (_ : ps.length < 64) (_ : ∀ (l : Addr) (qs : List (Int × Int)) (ys : List V),H l = none -> qs.Perm ps -> (qs.Pairwise fun a b => ltP a b = true) -> PrR H ys qs -> Q (.ref l) (upd H l (.lst ys))) : jM K xs H Q
theorem yu : CallR X (.builtin "sorted") (jM X.K) := by
  intro pins s σ H xs us Q I r h
  obtain ⟨a,zs,ps,rfl,hx,pr,nd,h64,q⟩ := h
  obtain ⟨u,rfl,ru⟩ := Vals.one r
  cases (show u = Value.ref a from ru)
  obtain ⟨its,rel,pl,hz⟩ := I.list hx
  have len := rel.length
  have pl1 := pr.1
  have sz : sizeLine = 16777216 := sizeLine_eq
  refine Calls.call_function_entry kind_sorted plain_sorted entry_sorted (args_sorted1 _) ?_
  delta Builtin.«sorted»
  refine wpAny_bind (m := checkCount "sorted" 1 1 _) (wpAny_pure (wpAny_bind (collect_list pl.isList ?_ (by omega))))
  have keep : ∀ b o,s.heap.get? b = some o -> ((s.heap.push (seqObj "list" #[] 0)).update s.heap.objs.size (Obj.mapSeq (· ++ its.toArray))).get? b = some o := fun b o e => by
    rw [Heap.get?_update_other _ _ (Ne.symm (Nat.ne_of_lt (Heap.lt_size e)))]
    exact Heap.get?_push_of_some _ e
  generalize (s.heap.push (seqObj "list" #[] 0)).update s.heap.objs.size (Obj.mapSeq (· ++ its.toArray)) = h1 at keep
  refine wpAny_bind (wpAny_newList ?_ (by omega))
  have at_ : (h1.push (seqObj "list" its.toArray 0)).get? h1.objs.size = some (seqObj "list" its.toArray 0) := Heap.get?_push_size _ rfl
  have tup : ∀ (j : Nat) v,its[j]? = some v -> ∃ T kv t1 t2,v = Value.ref T /\ ps[j]? = some kv /\ ∃ o n,s.heap.get? T = some o /\ o.cls = .type "tuple" /\ o.data = .seq #[.int kv.1 t1,.int kv.2 t2] n := fun j v hj => by
    have hjl := (List.getElem?_eq_some_iff.mp hj).1
    have ek : ps[j]? = some (ps[j]'(by omega)) := List.getElem?_eq_getElem _
    generalize ps[j]'(by omega) = kv at ek
    obtain ⟨T,e1,e2⟩ := pr.2 j kv ek
    obtain ⟨v',e3,e4⟩ := rel.get e1
    rw [hj] at e3
    cases e3
    cases (show v = Value.ref T from e4)
    obtain ⟨_,ts,rt,⟨o,ho,hc,n,hd⟩,_⟩ := (show ObjOk X.prog X.w H s.heap T (.tup [.int kv.1,.int kv.2]) from I.hok T _ e2)
    cases rt with
    | cons r1 rt =>
      cases rt with
      | cons r2 rt =>
        cases rt
        obtain ⟨t1,rfl⟩ := r1
        obtain ⟨t2,rfl⟩ := r2
        exact ⟨T,kv,t1,t2,rfl,ek,o,n,ho,hc,hd⟩
  have irr : ∀ i,i < its.length -> ltQ ps i i = false := fun i _ => vm _
  have tr : ∀ i j k,i < its.length -> j < its.length -> k < its.length -> ltQ ps i j = true -> ltQ ps j k = true -> ltQ ps i k = true := fun i j k _ _ _ => Xu
  have tot : ∀ i j,i < its.length -> j < its.length -> i ≠ j -> ltQ ps i j = true \/ ltQ ps j i = true := fun i j hi hj => Vy nd i j (by omega) (by omega)
  refine wpAny_bind (wpAny_holding (wpAny_call_entry slot_list_sort ⟨_,at_,rfl⟩ entry_list_sort (Q6 (s := { s with heap := h1.push (seqObj "list" its.toArray 0) }) at_ (by omega) (rkB its.length (ltQ ps)) (Ve irr tr tot) (fun g2 h2 k2 => ?_) fun p pm pw => ⟨_,rfl,?_⟩) (args_list_sort _)))
  · have k3 : ∀ T o,s.heap.get? T = some o -> h2.get? T = some o := fun T o e => k2 T o (Nat.ne_of_lt (Heap.lt_size (keep T o e))) (Heap.get?_push_of_some _ (keep T o e))
    obtain ⟨fs,kt,lf,sf⟩ := xS (h := h2) its fun v hv => by
      obtain ⟨j,hj⟩ := List.mem_iff_getElem?.mp hv
      obtain ⟨T,kv,t1,t2,e1,_,o,n,e3,e4,e5⟩ := tup j v hj
      exact ⟨T,o,_,n,kv.1,t1,e1,k3 T o e3,e4,e5,rfl⟩
    refine ⟨tuples' (Value.type "int" != Value.type "tuple"),fun Q' hq' => kat_kind kt (by omega) (fun v hv => ?_) rfl hq',fun i j hi hj C hC => ?_⟩
    · obtain ⟨x,t,rfl⟩ := sf v hv
      exact Looks.now
    · have ei : its[i]? = some (its[i]'hi) := List.getElem?_eq_getElem _
      have ej : its[j]? = some (its[j]'hj) := List.getElem?_eq_getElem _
      generalize its[i]'hi = vi at ei
      generalize its[j]'hj = vj at ej
      obtain ⟨T,ki,a1,a2,rfl,fi,oi,ni,gi,_,di⟩ := tup i vi ei
      obtain ⟨U,kj,b1,b2,rfl,fj,oj,nj,gj,_,dj⟩ := tup j vj ej
      rw [<- Qk irr tr tot hi hj] at hC
      have hC' : C (ltP ki kj) { s with heap := h2 } := by
        unfold ltQ at hC
        rw [List.getD_eq_getElem?_getD,fi,List.getD_eq_getElem?_getD,fj] at hC
        exact hC
      unfold kas_ask
      rw [List.getD_eq_getElem?_getD,ei,List.getD_eq_getElem?_getD,ej]
      refine kat_lt (k3 _ _ gi) di (k3 _ _ gj) dj (kat_cons ((zO X.prog X.w).eqBool (a := Sum.inl ki.1) (b := Sum.inl kj.1) (jJ ⟨a1,rfl⟩) (jJ ⟨b1,rfl⟩) ?_))
      refine kat_go (fun e => ?_) (fun e => ?_)
      · have ek : ki.1 = kj.1 := Sum.inl.inj (of_decide_eq_true e)
        refine kat_yes (kat_cons ((zO X.prog X.w).eqBool (a := Sum.inl ki.2) (b := Sum.inl kj.2) (jJ ⟨a2,rfl⟩) (jJ ⟨b2,rfl⟩) ?_))
        refine kat_go (fun e2 => ?_) (fun e2 => ?_)
        · have ek2 : ki.2 = kj.2 := Sum.inl.inj (of_decide_eq_true e2)
          refine kat_yes (kat_nil ?_)
          rw [show ltP ki kj = false from decide_eq_false (by omega)] at hC'
          exact hC'
        · rw [show ltP ki kj = decide (ki.2 < kj.2) from by unfold ltP;rw [decide_eq_decide];omega] at hC'
          exact kat_no (kat_one _ _ (PyProof.Rows.lt_int hC'))
      · have nk : ki.1 ≠ kj.1 := fun z => (of_decide_eq_false e) (by rw [z])
        refine kat_no (oneLt_int ?_)
        rw [show ltP ki kj = decide (ki.1 < kj.1) from by unfold ltP;rw [decide_eq_decide];omega] at hC'
        exact hC'
  · have ltp : ∀ i ∈ p,i < its.length := fun i hi => List.mem_range.mp (pm.mem_iff.mp hi)
    have lp : p.length = its.length := by have := pm.length_eq;rwa [List.length_range] at this
    have rel2 : Vals (p.map fun i => zs.getD i .non) ((p.map fun i => its.getD i Value.none).toArray.toList) := by
      rw [List.toList_toArray]
      have go : ∀ l : List Nat,(∀ i ∈ l,i < its.length) -> Vals (l.map fun i => zs.getD i .non) (l.map fun i => its.getD i Value.none) := fun l => by
        induction l with
        | nil => intro _;exact .nil
        | cons i l ih =>
          intro hl
          refine .cons ?_ (ih fun k hk => hl k (List.mem_cons_of_mem _ hk))
          have hi := hl i (by simp)
          have ez : zs[i]? = some (zs[i]'(by omega)) := List.getElem?_eq_getElem _
          obtain ⟨v,e1,e2⟩ := rel.get ez
          show RelV (zs.getD i .non) (its.getD i Value.none)
          rw [List.getD_eq_getElem?_getD,List.getD_eq_getElem?_getD,ez,e1]
          exact e2
      exact go p ltp
    obtain ⟨J,hn⟩ := Ze (vs := its) (out := (p.map fun i => its.getD i Value.none).toArray) (zs := p.map fun i => zs.getD i .non) (tk := s.toks) (d' := s.drawn) I keep rel2 (by rw [List.length_map];omega)
    have e1 : (List.range its.length).map (fun i => ps.getD i (0,0)) = ps := by
      refine List.ext_getElem (by rw [List.length_map,List.length_range];omega) fun i h1 h2 => ?_
      rw [List.getElem_map,List.getElem_range,List.getD_eq_getElem?_getD,List.getElem?_eq_getElem h2]
      rfl
    have pw' := List.pairwise_map.mp pw
    refine wpAny_pure ⟨_,rfl,.ref h1.objs.size,_,J,rfl,q _ (p.map fun i => ps.getD i (0,0)) _ hn ?_ ?_ ⟨by rw [List.length_map,List.length_map],fun j qq e => ?_⟩⟩
    · have := pm.map (fun i => ps.getD i ((0 : Int),(0 : Int)))
      rw [e1] at this
      exact this
    · refine List.pairwise_map.mpr (pw'.imp_of_mem fun {i j} hi hj hij => ?_)
      have := Qk irr tr tot (ltp i hi) (ltp j hj)
      rw [decide_eq_true hij] at this
      exact this
    · rw [List.getElem?_map] at e
      obtain ⟨i,ei,rfl⟩ := Option.map_eq_some_iff.mp e
      have hi := ltp i (List.mem_of_getElem? ei)
      have ek : ps[i]? = some (ps.getD i (0,0)) := by rw [List.getD_eq_getElem?_getD,List.getElem?_eq_getElem (by omega)];rfl
      obtain ⟨T,e2,e3⟩ := pr.2 i _ ek
      refine ⟨T,?_,e3⟩
      rw [List.getElem?_map,ei]
      show some (zs.getD i .non) = _
      rw [List.getD_eq_getElem?_getD,e2]
      rfl
end
end L2
set_option Elab.async false
set_option linter.all false
set_option maxRecDepth 100000
set_option maxHeartbeats 4000000
namespace L2
open PySem PySem.Spec PyProof.Rows PySem.W
section
variable {X : Cx}
end
end L2
set_option Elab.async false
set_option linter.all false
set_option maxRecDepth 100000
set_option maxHeartbeats 4000000
namespace L2
open PySem PySem.Spec PyProof.Rows PySem.W
section
variable {prog : Program} {w : World} {A : Around} {E : Value -> Shared -> Prop} {s : Shared}
inductive wf (prog : Program) (w : World) (A : Around) (s : Shared) : List Value -> List Value -> Bool -> Prop
  | nil : wf prog w A s [] [] false
  | nl {y ys} : wf prog w A s [] (y :: ys) true
  | ln {x xs} : wf prog w A s (x :: xs) [] false
  | eq {x y xs ys b} (h : ∀ (Q : Bool -> Shared -> Prop) E,Q true s -> wpAny (model prog w) A (eqBool x y) Q E s) (t : wf prog w A s xs ys b) : wf prog w A s (x :: xs) (y :: ys) b
  | ne {x y xs ys b} (h : ∀ (Q : Bool -> Shared -> Prop) E,Q false s -> wpAny (model prog w) A (eqBool x y) Q E s) (g : ∀ (Q : Value -> Shared -> Prop) E,Q (.bool b) s -> wpAny (model prog w) A (richCompare .Lt x y) Q E s) : wf prog w A s (x :: xs) (y :: ys) b
theorem wj {x y : Addr} {ox oy : Obj} {xs ys : Array Value} {n k : Nat} {b : Bool} {P : PySem.Fin -> Shared -> Prop} (hx : s.heap.get? x = some ox) (dx : ox.data = .seq xs n) (hy : s.heap.get? y = some oy) (cy : oy.cls = .type "tuple") (dy : oy.data = .seq ys k)
    (T : wf prog w A s xs.toList ys.toList b) (h : P (.done (.ret (.bool b))) s) : wpAny (model prog w) A (Builtin.«tuple.__lt__» ⟨[.ref x,.ref y],[]⟩) P E s := by
  show wpAny _ _ (isInstance (.ref y) (.type "tuple") >>= _) _ _ s
  refine wpAny_bind (wpAny_isInstance (T := "tuple") ⟨oy,hy,cy⟩ isSubtype_tuple_tuple ?_)
  simp only [Bool.not_true,Bool.false_eq_true,if_false]
  refine wpAny_bind (wpAny_tupleItemsOf hx dx (wpAny_bind (wpAny_tupleItemsOf hy dy (wpAny_bind ?_))))
  refine wpAny_forIn_list _ (fun xF r s' => r.1 = none /\ s' = s /\ ∃ us vs,xF = List.zip us vs /\ wf prog w A s us vs b /\ us.length + ys.size = vs.length + xs.size) _ ?_ ?_ _ _ ⟨rfl,rfl,xs.toList,ys.toList,rfl,T,by simp [Nat.add_comm]⟩
  · rintro ⟨u,v⟩ xF r s' ⟨hr,rfl,us,vs,hz,t,hl⟩
    cases t with
    | nil => simp at hz
    | nl => simp at hz
    | ln => simp at hz
    | eq e t =>
      simp only [List.zip_cons_cons,List.cons.injEq,Prod.mk.injEq] at hz
      obtain ⟨⟨rfl,rfl⟩,rfl⟩ := hz
      refine wpAny_bind (e _ _ ?_)
      simp only [Bool.not_true,Bool.false_eq_true,if_false]
      exact wpAny_pure ⟨rfl,rfl,_,_,rfl,t,by simp only [List.length_cons] at hl;omega⟩
    | ne e g =>
      simp only [List.zip_cons_cons,List.cons.injEq,Prod.mk.injEq] at hz
      obtain ⟨⟨rfl,rfl⟩,rfl⟩ := hz
      refine wpAny_bind (e _ _ ?_)
      simp only [Bool.not_false,if_true]
      refine wpAny_bind (wpAny_rule (wpAny_bind (g _ _ ?_)))
      exact wpAny_bind (wpAny_pure (wpAny_pure (wpAny_pure h)))
  · rintro ⟨r1,r2⟩ s' ⟨hr,rfl,us,vs,hz,t,hl⟩
    simp only at hr
    subst hr
    refine wpAny_pure ?_
    have hb : decide (xs.size < ys.size) = b := by
      cases t with
      | nil => exact decide_eq_false (by simp at hl;omega)
      | nl => exact decide_eq_true (by simp at hl;omega)
      | ln => exact decide_eq_false (by simp at hl;omega)
      | eq e t => simp at hz
      | ne e g => simp at hz
    show P (.done (.ret (.bool (decide (xs.size < ys.size))))) s'
    rw [hb]
    exact h
theorem yC {x y : Addr} {ox oy : Obj} {xs ys : Array Value} {n k : Nat} {b : Bool} {Q : Value -> Shared -> Prop} (hu : A.units < cLine) (hx : s.heap.get? x = some ox) (cx : ox.cls = .type "tuple") (dx : ox.data = .seq xs n) (hy : s.heap.get? y = some oy) (cy : oy.cls = .type "tuple") (dy : oy.data = .seq ys k)
    (T : wf prog w A.in1 s xs.toList ys.toList b) (h : Q (.bool b) s) : wpAny (model prog w) A (richCompare .Lt (.ref x) (.ref y)) Q E s :=
  wpAny_richCompare_same_room (op := .Lt) (T := "tuple") ⟨ox,hx,cx⟩ ⟨oy,hy,cy⟩ F.slot_tuple_lt
    (wpAny_call_entry F.slot_tuple_lt ⟨ox,hx,cx⟩ F.entry_tuple_lt (wj hx dx hy cy dy T ⟨_,rfl,(fun e => nomatch e),h⟩) (F.args_tuple_lt_2 _ _)) hu
def ltN : List Int -> List Int -> Bool
  | [],[] => false
  | [],_ :: _ => true
  | _ :: _,[] => false
  | a :: as,b :: bs => if a = b then ltN as bs else decide (a < b)
theorem eq_int (x y : Int) (t u : Tok) {Q : Bool -> Shared -> Prop} (h : Q (decide (x = y)) s) : wpAny (model prog w) A (eqBool (.int x t) (.int y u)) Q E s := by
  refine (zO prog w).eqBool (a := Sum.inl x) (b := Sum.inl y) (jJ ⟨t,rfl⟩) (jJ ⟨u,rfl⟩) ?_
  rw [show decide ((Sum.inl x : Key) = Sum.inl y) = decide (x = y) from decide_eq_decide.mpr ⟨fun z => Sum.inl.inj z,fun z => by rw [z]⟩]
  exact h
theorem Qs (x y : Int) (t u : Tok) {Q : Value -> Shared -> Prop} (h : Q (.bool (decide (x < y))) s) : wpAny (model prog w) A (richCompare .Lt (.int x t) (.int y u)) Q E s :=
  richCompare_gives (op := .Lt) (typeIs_int s _ t) (typeIs_int s _ u) F.slot_int_lt F.entry_int_lt (F.args_int_lt_2 _ _) (gives_int_lt _ _ t u) (fun x => nomatch x) h
theorem Zd : ∀ {as bs : List Int} {us vs : List Value},Vals (as.map V.int) us -> Vals (bs.map V.int) vs -> wf prog w A s us vs (ltN as bs)
  | [],[],_,_,.nil,.nil => .nil
  | [],_ :: _,_,_,.nil,.cons _ _ => .nl
  | _ :: _,[],_,_,.cons _ _,.nil => .ln
  | a :: as,b :: bs,_,_,.cons ⟨t,e1⟩ r1,.cons ⟨u,e2⟩ r2 => by
    subst e1 e2
    by_cases h : a = b
    · have e : ltN (a :: as) (b :: bs) = ltN as bs := if_pos h
      rw [e]
      exact .eq (fun Q E q => eq_int a b t u (by rw [decide_eq_true h];exact q)) (Zd r1 r2)
    · have e : ltN (a :: as) (b :: bs) = decide (a < b) := if_neg h
      rw [e]
      exact .ne (fun Q E q => eq_int a b t u (by rw [decide_eq_false h];exact q)) fun Q E q => Qs a b t u q
def ltW (p q : Int × List Int) : Bool := if p.1 = q.1 then (if p.2 = q.2 then false else ltN p.2 q.2) else decide (p.1 < q.1)
theorem WQ {p q : Int × List Int} (h : ltW p q = true) : p.1 <= q.1 := by
  unfold ltW at h
  by_cases e : p.1 = q.1
  · omega
  · rw [if_neg e] at h
    exact Int.le_of_lt (of_decide_eq_true h)
theorem WR {p q : Int × List Int} (h : ltW p q = false) : q.1 <= p.1 := by
  unfold ltW at h
  by_cases e : p.1 = q.1
  · omega
  · rw [if_neg e] at h
    have := of_decide_eq_false h
    omega
end
section
variable {prog : Program} {w : World} {A : Around} {R : Result -> Shared -> Prop} {I S : Addr} {fp wr : List Addr} {n : Nat} {P : Nat -> Value -> Prop} {St : Nat -> Heap -> Prop}
theorem Jj (W : Walks prog w A.in1 I fp wr n P St) (bt : Nat -> Nat -> Bool) (J : Heap -> Prop) (hJ : ∀ h h',J h -> (∀ b o,b ∉ wr -> b ≠ S -> h.get? b = some o -> h'.get? b = some o) -> J h')
    (hc : ∀ i j vi vj (s : Shared) (Q : Value -> Shared -> Prop) (E : Value -> Shared -> Prop),J s.heap -> P i vi -> P j vj -> Q (.bool (bt i j)) s -> wpAny (model prog w) A.in1 (richCompare .Lt vi vj) Q E s) (hSf : S ∉ fp) :
    ∀ (k j : Nat) (s : Shared) (vb : Value) (c : Nat),n = j + 1 + k -> St (j + 1) s.heap -> J s.heap -> P (argBest bt j) vb -> s.heap.get? S = some (seqObj "list" #[vb,vb] c) ->
      (∀ v h' tk,P (argBest bt (n - 1)) v -> (∀ b o,b ∉ wr -> b ≠ S -> s.heap.get? b = some o -> h'.get? b = some o) -> R (.ok (.ret v)) { s with heap := h',toks := tk }) ->
      codeAny (model prog w) A (.builtin "min.loop" ⟨[.ref I,.none,.ref S],[]⟩) R s := by
  have nw : S ∉ wr := fun h => hSf (W.sub _ h)
  have nm : (toString "min" ++ toString ".loop" : String) = "min.loop" := by decide
  intro k
  induction k with
  | zero =>
    intro j s vb c hn st j0 pb hS hR
    refine codeAny_builtin F.entry_min_loop ?_
    rw [Around.under_plainId F.plain_min_loop _]
    show wpAny _ A.in1 (seqItems? (.ref S) >>= _) _ _ s
    refine wpAny_bind (wpAny_seqItems hS rfl ?_)
    show wpAny _ A.in1 (tryCatch (pyNext (.ref I)) _ >>= _) _ _ s
    have st' : St n s.heap := by rw [hn];exact st
    refine wpAny_bind (wpAny_tryCatch (W.done s _ _ st' fun h' tk kk => ?_))
    show wpAny _ A.in1 (updateSeq S (fun _ => #[]) >>= _) _ _ _
    refine wpAny_bind (wpAny_updateSeq (kk S _ nw hS) rfl (wpAny_bind (wpAny_letGo (wpAny_pure ?_))))
    exact hR vb _ tk (by rw [hn];exact pb) fun b o b1 b2 e => (Heap.get?_update_other _ _ (Ne.symm b2)).trans (kk b o b1 e)
  | succ k ih =>
    intro j s vb c hn st j0 pb hS hR
    refine codeAny_builtin F.entry_min_loop ?_
    rw [Around.under_plainId F.plain_min_loop _]
    show wpAny _ A.in1 (seqItems? (.ref S) >>= _) _ _ s
    refine wpAny_bind (wpAny_seqItems hS rfl ?_)
    show wpAny _ A.in1 (tryCatch (pyNext (.ref I)) _ >>= _) _ _ s
    refine wpAny_bind (wpAny_tryCatch (W.item (j + 1) s _ _ (by omega) st fun v h' tk pv st2 kk => ?_))
    have hS2 := kk S _ nw hS
    have j2 : J h' := hJ _ _ j0 fun b o b1 _ e => kk b o b1 e
    show wpAny _ A.in1 (tryCatch (holding [v,v] (richCompare .Lt v vb >>= _)) _ >>= _) _ _ _
    refine wpAny_bind (wpAny_tryCatch (wpAny_holding (wpAny_bind (hc (j + 1) (argBest bt j) v vb { s with heap := h',toks := tk } _ _ j2 pv pb ?_))))
    refine wpAny_bind (wpAny_holding (wpAny_truthy_bool (wpAny_bind (wpAny_letGo (wpAny_pure ?_)))))
    cases hb : bt (j + 1) (argBest bt j) with
    | true =>
      simp only [if_true]
      refine wpAny_bind (wpAny_updateSeq hS2 rfl (wpAny_bind (wpAny_letGo ?_)))
      rw [nm]
      have oth : ∀ b o,b ≠ S -> h'.get? b = some o -> (h'.update S (Obj.mapSeq fun _ => #[v,v])).get? b = some o := fun b o b2 e => (Heap.get?_update_other _ _ (Ne.symm b2)).trans e
      refine wpAny_pure ⟨plainId_quiet F.plain_min_loop _,ih (j + 1) _ v _ (by omega) (W.frame _ _ _ st2 fun b bf o e => oth b o (fun z => hSf (by rw [<- z];exact bf)) e) (hJ _ _ j2 fun b o _ b2 e => oth b o b2 e) (by simp only [argBest,hb,if_true];exact pv) (Heap.get?_update_self _ hS2 rfl) fun v' h2 tk2 p2 k2 => ?_⟩
      exact hR v' h2 tk2 p2 fun b o b1 b2 e => k2 b o b1 b2 (oth b o b2 (kk b o b1 e))
    | false =>
      simp only [Bool.false_eq_true,if_false]
      refine wpAny_bind (wpAny_letGo ?_)
      rw [nm]
      refine wpAny_pure ⟨plainId_quiet F.plain_min_loop _,ih (j + 1) _ vb c (by omega) st2 j2 (by simp only [argBest,hb,Bool.false_eq_true,if_false];exact pb) hS2 fun v' h2 tk2 p2 k2 => ?_⟩
      exact hR v' h2 tk2 p2 fun b o b1 b2 e => k2 b o b1 b2 (kk b o b1 e)
end
end L2
set_option Elab.async false
set_option linter.all false
set_option maxRecDepth 100000
set_option maxHeartbeats 4000000
namespace L2
open PySem PySem.Spec PyProof.Rows PySem.W
def WkR (H : Hp) (zs : List V) (ps : List (Int × List Int)) : Prop := zs.length = ps.length /\ ∀ (j : Nat) q,ps[j]? = some q -> ∃ T U,zs[j]? = some (.ref T) /\ H T = some (.tup [.int q.1,.ref U]) /\ H U = some (.tup (q.2.map V.int))
theorem WkR.nil {H : Hp} : WkR H [] [] := ⟨rfl,fun j q e => by simp at e⟩
theorem WkR.same {H H' : Hp} {zs : List V} {ps : List (Int × List Int)} (h : WkR H zs ps) (s : Same H H') : WkR H' zs ps := ⟨h.1,fun j k e => let ⟨T,U,a,b,c⟩ := h.2 j k e;⟨T,U,a,s _ _ b,s _ _ c⟩⟩
theorem WkR.snoc {H : Hp} {zs : List V} {ps : List (Int × List Int)} {q : Int × List Int} {T U : Addr} (h : WkR H zs ps) (e : H T = some (.tup [.int q.1,.ref U])) (e' : H U = some (.tup (q.2.map V.int))) : WkR H (zs ++ [.ref T]) (ps ++ [q]) := by
  refine ⟨by rw [List.length_append,List.length_append,h.1];rfl,fun j r hr => ?_⟩
  by_cases hj : j < ps.length
  · rw [List.getElem?_append_left hj] at hr
    obtain ⟨T',U',e1,e2,e3⟩ := h.2 j r hr
    exact ⟨T',U',by rw [List.getElem?_append_left (by rw [h.1];exact hj)];exact e1,e2,e3⟩
  · have hl := (List.getElem?_eq_some_iff.mp hr).1
    rw [List.length_append] at hl
    have ej : j = ps.length := by simp at hl;omega
    subst ej
    rw [List.getElem?_append_right (Nat.le_refl _),Nat.sub_self] at hr
    have : q = r := by simpa using hr
    subst this
    exact ⟨T,U,by rw [<- h.1,List.getElem?_append_right (Nat.le_refl _),Nat.sub_self];rfl,e,e'⟩
theorem WkR.set {H : Hp} {zs : List V} {ps : List (Int × List Int)} {q : Int × List Int} {T U : Addr} {i : Nat} (h : WkR H zs ps) (e : H T = some (.tup [.int q.1,.ref U])) (e' : H U = some (.tup (q.2.map V.int))) : WkR H (zs.set i (.ref T)) (ps.set i q) := by
  refine ⟨by rw [List.length_set,List.length_set,h.1],fun j r hr => ?_⟩
  by_cases hj : i = j
  · subst hj
    have hl := (List.getElem?_eq_some_iff.mp hr).1
    rw [List.length_set] at hl
    rw [List.getElem?_set_self hl] at hr
    cases hr
    exact ⟨T,U,List.getElem?_set_self (by rw [h.1];exact hl),e,e'⟩
  · rw [List.getElem?_set_ne hj] at hr
    obtain ⟨T',U',e1,e2,e3⟩ := h.2 j r hr
    exact ⟨T',U',by rw [List.getElem?_set_ne hj];exact e1,e2,e3⟩
def vN (ps : List (Int × List Int)) : Nat := argBest (fun i j => ltW (ps.getD i (0,[])) (ps.getD j (0,[]))) (ps.length - 1)
theorem yx (f : Nat -> Int × List Int) : ∀ n,argBest (fun i j => ltW (f i) (f j)) n <= n /\ ∀ j,j <= n -> (f (argBest (fun i j => ltW (f i) (f j)) n)).1 <= (f j).1
  | 0 => ⟨Nat.le_refl _,fun j hj => by rw [show j = 0 by omega];exact Int.le_refl _⟩
  | n + 1 => by
    obtain ⟨h1,h2⟩ := yx f n
    cases hb : ltW (f (n + 1)) (f (argBest (fun i j => ltW (f i) (f j)) n)) with
    | true =>
      have e : argBest (fun i j => ltW (f i) (f j)) (n + 1) = n + 1 := by simp only [argBest,hb,if_true]
      rw [e]
      refine ⟨Nat.le_refl _,fun j hj => ?_⟩
      rcases Nat.lt_or_ge j (n + 1) with z | z
      · exact Int.le_trans (WQ hb) (h2 j (by omega))
      · rw [show j = n + 1 by omega];exact Int.le_refl _
    | false =>
      have e : argBest (fun i j => ltW (f i) (f j)) (n + 1) = argBest (fun i j => ltW (f i) (f j)) n := by simp only [argBest,hb,Bool.false_eq_true,if_false]
      rw [e]
      refine ⟨by omega,fun j hj => ?_⟩
      rcases Nat.lt_or_ge j (n + 1) with z | z
      · exact h2 j (by omega)
      · rw [show j = n + 1 by omega];exact WR hb
theorem yi {ps : List (Int × List Int)} (h : ps ≠ []) : vN ps < ps.length := by
  have := (yx (fun i => ps.getD i (0,[])) (ps.length - 1)).1
  have := List.length_pos_iff.mpr h
  unfold vN
  omega
theorem Vx {ps : List (Int × List Int)} {j : Nat} (h : j < ps.length) : (ps.getD (vN ps) (0,[])).1 <= (ps.getD j (0,[])).1 :=
  (yx (fun i => ps.getD i (0,[])) (ps.length - 1)).2 j (by omega)
section
variable {X : Cx}
inductive xY (K : PySem.W.Frag) (xs : List V) (H : Hp) (Q : VK) : Prop
  | mk (p : Addr) (zs : List V) (ps : List (Int × List Int)) (_ : xs = [.ref p]) (_ : SqL K H p zs) (_ : WkR H zs ps) (_ : ps ≠ []) (_ : ∀ v,zs[vN ps]? = some v -> Q v H) : xY K xs H Q
theorem Ju (hc : X.calm = true) (hu : X.A.units + 64 < cLine) : CallR X (.builtin "min") (xY X.K) := by
  intro pins s σ H xs us Q I r h
  obtain ⟨p,zs,ps,rfl,hq,wk,hne,q⟩ := h
  obtain ⟨u,rfl,ru⟩ := ja r
  cases (show u = _ from ru)
  obtain ⟨its,rv,pl,hz⟩ := I.list hq
  have hl := pl.isList
  have len := rv.length
  have wl := wk.1
  have h0 : 0 < ps.length := List.length_pos_iff.mpr hne
  have hplt : p < s.heap.objs.size := let ⟨_,e,_⟩ := hl;Heap.lt_size e
  have nm : (toString "min" ++ toString ".loop" : String) = "min.loop" := by decide
  have hu' : X.A.in1.in1.units < cLine := Nat.lt_of_le_of_lt (Nat.add_le_add_left (by decide : 2 <= 64) _) hu
  have hu2 : X.A.in1.units < cLine := Nat.lt_of_le_of_lt (Nat.add_le_add_left (by decide : 1 <= 64) _) hu
  have tup : ∀ (j : Nat) v,its[j]? = some v -> ∃ T q,v = Value.ref T /\ ps[j]? = some q /\ ∃ o n t U,s.heap.get? T = some o /\ o.cls = .type "tuple" /\ o.data = .seq #[.int q.1 t,.ref U] n /\ ∃ o' n' xs',s.heap.get? U = some o' /\ o'.cls = .type "tuple" /\ o'.data = .seq xs' n' /\ Vals (q.2.map V.int) xs'.toList := fun j v hj => by
    have hjl := (List.getElem?_eq_some_iff.mp hj).1
    have ek : ps[j]? = some (ps[j]'(by omega)) := List.getElem?_eq_getElem _
    generalize ps[j]'(by omega) = k at ek
    obtain ⟨T,U,e1,e2,e3⟩ := wk.2 j k ek
    obtain ⟨v',e4,e5⟩ := rv.get e1
    rw [hj] at e4
    cases e4
    cases (show v = Value.ref T from e5)
    obtain ⟨_,ts,rt,⟨o,ho,hoc,n,hod⟩,_⟩ := (show ObjOk X.prog X.w H s.heap T (.tup [.int k.1,.ref U]) from I.hok T _ e2)
    obtain ⟨_,ts',rt',⟨o',ho',hoc',n',hod'⟩,_⟩ := (show ObjOk X.prog X.w H s.heap U (.tup (k.2.map V.int)) from I.hok U _ e3)
    cases rt with
    | cons r1 rt =>
      cases rt with
      | @cons _ b2 _ _ r2 rt =>
        cases rt
        obtain ⟨t1,rfl⟩ := r1
        cases (show b2 = Value.ref U from r2)
        exact ⟨T,k,rfl,ek,o,n,t1,U,ho,hoc,hod,o',n',ts'.toArray,ho',hoc',hod',by rw [List.toList_toArray];exact rt'⟩
  refine call_function_tree F.kind_min F.plain_min F.entry_min (F.args_min1 _) ?_
  show wpAny _ X.A.in1 (Builtin.Builtins.bindParams "min" ["key", "default"] 0 ⟨[],[]⟩ >>= _) _ _ s
  refine wpAny_bind (wpAny_of_eq (show Builtin.Builtins.bindParams "min" ["key", "default"] 0 ⟨[],[]⟩ = pure [none,none] from rfl) (wpAny_bind (wpAny_pure (wpAny_bind (wpAny_pyIter_list hl ?_)))))
  refine wpAny_bind (wpAny_newObj_type ?_)
  rw [nm]
  have hI : s.heap.objs.size < (s.heap.push { cls := .type "list_iterator",data := .fields #[.ref p,.int 0 0] }).objs.size := by rw [Heap.size_push];exact Nat.lt_succ_self _
  have it0 : (s.heap.push { cls := .type "list_iterator",data := .fields #[.ref p,.int 0 0] }).IsListIter s.heap.objs.size p 0 := ⟨_,Heap.get?_push_size _ rfl,rfl,rfl⟩
  have hl1 : (s.heap.push { cls := .type "list_iterator",data := .fields #[.ref p,.int 0 0] }).IsList p its.toArray := hl.push _
  have k1 : ∀ b o,s.heap.get? b = some o -> (s.heap.push { cls := .type "list_iterator",data := .fields #[.ref p,.int 0 0] }).get? b = some o := fun b o e => Heap.get?_push_of_some _ e
  generalize s.heap.push { cls := .type "list_iterator",data := .fields #[.ref p,.int 0 0] } = h1 at hI it0 hl1 k1
  have W := Walks.list (prog := X.prog) (w := X.w) (A := X.A.in1.in1) (I.ok.hd hc) s.heap.objs.size p (Nat.ne_of_lt hplt) its.toArray
  have W' := Walks.list (prog := X.prog) (w := X.w) (A := X.A.in1) (I.ok.hd hc) s.heap.objs.size p (Nat.ne_of_lt hplt) its.toArray
  have hSf : h1.objs.size ∉ [s.heap.objs.size,p] := by
    intro z
    rcases List.mem_cons.mp z with z | z
    · omega
    · exact Nat.lt_irrefl _ (Nat.lt_trans hplt (List.mem_singleton.mp z ▸ hI))
  have hS : (h1.push { cls := .type "list",data := .seq ([] : List Value).toArray }).get? h1.objs.size = some (seqObj "list" #[] 0) := Heap.get?_push_size _ rfl
  refine wpAny_pure ⟨plainId_quiet F.plain_min_loop _,codeAny_builtin F.entry_min_loop ?_⟩
  rw [Around.under_plainId F.plain_min_loop _]
  show wpAny _ _ (seqItems? (.ref h1.objs.size) >>= _) _ _ _
  refine wpAny_bind (wpAny_seqItems hS rfl ?_)
  show wpAny _ _ (tryCatch (pyNext (.ref s.heap.objs.size)) _ >>= _) _ _ _
  refine wpAny_bind (wpAny_tryCatch (W'.item 0 { s with heap := h1.push { cls := .type "list",data := .seq ([] : List Value).toArray } } _ _ (by rw [List.size_toArray];omega) ⟨it0.at fun o e => Heap.get?_push_of_some _ e,hl1.push _⟩ fun v h' tk pv st' kk => ?_))
  have nw : h1.objs.size ∉ [s.heap.objs.size] := fun z => hSf (by simp at z;omega)
  have hS' := kk _ _ nw hS
  show wpAny _ _ (updateSeq h1.objs.size (fun _ => #[v,v]) >>= _) _ _ _
  refine wpAny_bind (wpAny_updateSeq hS' rfl ?_)
  rw [nm]
  have oth : ∀ b o,b ≠ h1.objs.size -> h'.get? b = some o -> (h'.update h1.objs.size (Obj.mapSeq fun _ => #[v,v])).get? b = some o := fun b o b2 e => (Heap.get?_update_other _ _ (Ne.symm b2)).trans e
  have all : ∀ b o,s.heap.get? b = some o -> b ≠ s.heap.objs.size /\ b ≠ h1.objs.size := fun b o e => ⟨Nat.ne_of_lt (Heap.lt_size e),Nat.ne_of_lt (Nat.lt_trans (Heap.lt_size e) hI)⟩
  have j0 : ∀ b o,s.heap.get? b = some o -> (h'.update h1.objs.size (Obj.mapSeq fun _ => #[v,v])).get? b = some o := fun b o e =>
    oth b o (all b o e).2 (kk b o (fun z => (all b o e).1 (List.mem_singleton.mp z)) (Heap.get?_push_of_some _ (k1 b o e)))
  refine wpAny_pure ⟨plainId_quiet F.plain_min_loop _,Jj (S := h1.objs.size) W' (fun i j => ltW (ps.getD i (0,[])) (ps.getD j (0,[]))) (fun h => ∀ b o,s.heap.get? b = some o -> h.get? b = some o) (fun h h2 a b c o e => b c o (fun z => (all c o e).1 (List.mem_singleton.mp z)) (all c o e).2 (a c o e)) ?_ hSf (its.length - 1) 0 _ v _ (by rw [List.size_toArray];omega) (W'.frame _ _ _ st' fun b bf o e => oth b o (fun z => hSf (by rw [<- z];exact bf)) e) j0 pv (Heap.get?_update_self _ hS' rfl) fun v' h2 tk2 p2 k2 => ?_⟩
  · intro i j vi vj s2 Q2 E2 jj hi hj hq2
    have ei : its[i]? = some vi := by simpa using hi
    have ej : its[j]? = some vj := by simpa using hj
    obtain ⟨T,qi,rfl,fi,oi,ni,ti,U,a1,a2,a3,oi',ni',xi,a4,a5,a6,a7⟩ := tup i vi ei
    obtain ⟨T',qj,rfl,fj,oj,nj,tj,U',b1,b2,b3,oj',nj',xj,b4,b5,b6,b7⟩ := tup j vj ej
    rw [List.getD_eq_getElem?_getD,fi,List.getD_eq_getElem?_getD,fj] at hq2
    refine yC hu2 (jj _ _ a1) a2 a3 (jj _ _ b1) b2 b3 ?_ hq2
    show wf X.prog X.w X.A.in1.in1 s2 [.int qi.1 ti,.ref U] [.int qj.1 tj,.ref U'] (ltW qi qj)
    by_cases e1 : qi.1 = qj.1
    · refine .eq (fun Q E q => eq_int _ _ _ _ (by rw [decide_eq_true e1];exact q)) ?_
      have kU : IsTupleKey (zO X.prog X.w) s2.heap (qi.2.map Sum.inl) U := ⟨oi',xi,ni',jj _ _ a4,a5,a6,jV (by rw [List.map_map];exact a7)⟩
      have kU' : IsTupleKey (zO X.prog X.w) s2.heap (qj.2.map Sum.inl) U' := ⟨oj',xj,nj',jj _ _ b4,b5,b6,jV (by rw [List.map_map];exact b7)⟩
      have inj : ∀ {x y : List Int},x.map (Sum.inl (β := Str)) = y.map Sum.inl -> x = y := fun {x y} z => by
        have := congrArg (List.map fun k : Int ⊕ Str => k.elim id fun _ => 0) z
        simpa [List.map_map,Function.comp_def] using this
      by_cases e2 : qi.2 = qj.2
      · rw [show ltW qi qj = false by unfold ltW;rw [if_pos e1,if_pos e2]]
        exact .eq (fun Q E q => wpAny_eqBool_tuple hu' kU kU' (by rw [decide_eq_true (by rw [e2])];exact q)) .nil
      · rw [show ltW qi qj = ltN qi.2 qj.2 by unfold ltW;rw [if_pos e1,if_neg e2]]
        exact .ne (fun Q E q => wpAny_eqBool_tuple hu' kU kU' (by rw [decide_eq_false fun z => e2 (inj z)];exact q)) fun Q E q => yC hu' (jj _ _ a4) a5 a6 (jj _ _ b4) b5 b6 (Zd a7 b7) q
    · rw [show ltW qi qj = decide (qi.1 < qj.1) by unfold ltW;rw [if_neg e1]]
      exact .ne (fun Q E q => eq_int _ _ _ _ (by rw [decide_eq_false e1];exact q)) fun Q E q => Qs _ _ _ _ q
  · rw [List.size_toArray] at p2
    have e2 : its[vN ps]? = some v' := by
      have : its.length = ps.length := by omega
      unfold vN
      rw [<- this]
      simpa using p2
    have hm := yi hne
    have e3 : zs[vN ps]? = some (zs[vN ps]'(by omega)) := List.getElem?_eq_getElem _
    obtain ⟨v2,e4,e5⟩ := rv.get e3
    rw [e2] at e4
    cases e4
    refine ⟨_,H,I.kept (h' := h2) (t' := tk2) (fun b o e => k2 b o (fun z => (all b o e).1 (List.mem_singleton.mp z)) (all b o e).2 (j0 b o e)),e5,q _ e3⟩
end
end L2
set_option Elab.async false
set_option linter.all false
set_option maxRecDepth 100000
set_option maxHeartbeats 4000000
namespace L2
open PySem PySem.Spec PyProof.Rows PySem.W
section
variable {X : Cx}
def zaj (r : V -> List V -> Hp -> VK -> Prop) (to : TE) : TE := fun σ H Q => to σ H fun x H1 => ∃ d,x = .ref d /\ IsD H1 d /\ r x [] H1 Q
theorem Xk {o : Expr} {to : TE} {name : Str} {apos cpos : Pos} {id : String} {r : V -> List V -> Hp -> VK -> Prop} (slot : Slot "dict" name id) (hty : typeOf (.builtin id) = pure (.type "method_descriptor")) (hm : MtM X id r) (ho : PE X o to)
    (hbase : attributeBase o name X.env (eval o X.env) = eval o X.env := by rfl) (hline : (apos.endLine == cpos.line) = true := by rfl) : PE X (.Call (.Attribute o name apos) [] [] cpos) (zaj r to) := by
  intro pins s σ H Q I h
  refine wpAny_Call_method0_late hbase hline (thn (ho pins s σ H _ I h) fun v s1 ⟨x,H1,I1,r1,d,e,hd,q1⟩ => ?_)
  subst e
  cases r1
  obtain ⟨h1,h2⟩ := XD I1 hd
  exact ⟨"dict",id,PySem.F.plainAttrs_dict,slot,hty,h1,h2.1,Calls.callWith_builtin rfl (PySem.evalArgs_none (hm pins s1 σ H1 (.ref d) [] _ [] Q I1 rfl .nil q1))⟩
inductive xA (xs : List V) (H : Hp) (Q : VK) : Prop
  | mk (a : Addr) (kvs : List (Key × V)) (_ : xs = [.ref a]) (_ : Rd H a (.dK kvs)) (_ : ∀ p,H p = none -> Q (.ref p) (upd H p (.dK kvs))) : xA xs H Q
theorem ZV : CallR X (.type "dict") (xA) := by
  intro pins s σ H xs us Q I r h
  obtain ⟨a,kvs,rfl,hx,q⟩ := h
  obtain ⟨u,rfl,ru⟩ := Vals.one r
  cases (show u = Value.ref a from ru)
  exact XR I hx fun p s' hp I' => ⟨.ref p,_,I',rfl,q p hp⟩
inductive x5 (P : Program) (w : World) (xs : List V) (H : Hp) (Q : VK) : Prop
  | mk (a : Addr) (ks : List Key) (_ : xs = [.ref a]) (_ : H a = some (Q8 P w a ks)) (_ : Q (.int ks.length) H) : x5 P w xs H Q
theorem wN : CallR X (.builtin "len") (x5 X.prog X.w) := by
  intro pins s σ H xs us Q I r h
  obtain ⟨a,ks,rfl,hx,q⟩ := h
  obtain ⟨u,rfl,ru⟩ := Vals.one r
  cases (show u = Value.ref a from ru)
  obtain ⟨⟨o,ho,es,ep,t,hex,hd,⟨_,ks',pm,pr⟩,_,hsz,hf,_⟩,_,_⟩ := (show ObjOk X.prog X.w H s.heap a (Q8 X.prog X.w a ks) from I.hok a _ hx)
  have ln : es.size = ks.length := by
    have e1 := pr.length
    have e2 := pm.length_eq
    have e3 : es.toList.length = es.size := Array.length_toList
    omega
  have sb : scanBound = 4096 := rfl
  refine call_len_set ho hex hd hf (by omega) ⟨.int ks.length,H,I.kept (fun b o e => e),⟨_,by rw [ln]⟩,q⟩
end
end L2
set_option Elab.async false
set_option linter.all false
set_option maxRecDepth 100000
set_option maxHeartbeats 4000000
namespace L2
open PySem PySem.Spec PyProof.Rows
theorem VD {K : PySem.W.Frag} {k1 k2 : Bool} {a1 a2 : Addr} {xs ys : List V} {g : TG} {tf : TT} {wi : TI} {g2 : TG} {tf2 : TT} {te : TE} {σ0 : St} {n : Nat} {R : List V -> Hp -> Prop} {H : Hp} (Pv : Nat -> List V -> Hp -> Prop) (h0 : Pv 0 [] H)
    (h1 : ∀ i zs H,Pv i zs H -> SqK K k1 H a1 xs /\ SqK K k2 H a2 ys)
    (hs : ∀ i x y zs H T,xs[i]? = some x -> ys[i]? = some y -> Pv i zs H -> H T = none -> g (.ref T) σ0 (upd H T (.tup [x,y])) fun σ4 H4 => σ4.drop n = σ0.drop n /\ tf σ4 H4 fun b H5 =>
      if b = true then tIn wi g2 tf2 te zs (Pv (i + 1)) σ4 H5 else Pv (i + 1) zs H5)
    (hd : ∀ zs H,Pv (min xs.length ys.length) zs H -> zs.length <= sizeLine /\ R zs H) :
    ∃ W : Nat -> Nat -> List V -> Hp -> Prop,(∃ m,W 0 m [] H) /\ ∀ i m zs H2,W i m zs H2 ->
      ((Itz K k1 k2 a1 a2).stop i H2 /\ zs.length <= sizeLine /\ R zs H2) \/
      ((Itz K k1 k2 a1 a2).go i H2 /\ ∃ N : List V -> Hp -> Prop,(∀ zs H',N zs H' -> ∃ m',m' < m /\ W (i + 1) m' zs H') /\ ∀ x H3,(Itz K k1 k2 a1 a2).yld i H2 x H3 -> g x σ0 H3 fun σ4 H4 => σ4.drop n = σ0.drop n /\ tf σ4 H4 fun b H5 =>
        if b = true then tIn wi g2 tf2 te zs N σ4 H5 else N zs H5) := by
  refine ⟨fun i m zs H2 => m = min xs.length ys.length - i /\ i <= min xs.length ys.length /\ Pv i zs H2,⟨_,rfl,Nat.zero_le _,h0⟩,?_⟩
  rintro i m zs H2 ⟨rfl,hi,p⟩
  obtain ⟨q1,q2⟩ := h1 i zs H2 p
  by_cases hlt : i < min xs.length ys.length
  · have l1 : i < xs.length := by omega
    have l2 : i < ys.length := by omega
    refine .inr ⟨⟨xs,ys,xs[i],ys[i],q1,q2,by simp [l1],by simp [l2]⟩,Pv (i + 1),fun zs' H' p' => ⟨_,by omega,rfl,hlt,p'⟩,fun x H3 y => ?_⟩
    obtain ⟨T,u,v,e1,hT,e2,y1,y2⟩ := y
    subst e1 e2
    exact hs i u v zs H2 T (y1 xs q1) (y2 ys q2) p hT
  · have e : i = min xs.length ys.length := by omega
    subst e
    obtain ⟨z1,z2⟩ := hd zs H2 p
    exact .inl ⟨⟨xs,ys,q1,q2,by omega⟩,z1,z2⟩
theorem W1 {K : PySem.W.Frag} {k1 k2 : Bool} {a1 a2 : Addr} {xs ys : List V} {g : TG} {tf : TT} {te : TE} {σ0 : St} {N : List V -> Hp -> Prop} {us : List V} {H : Hp} (Pv : Nat -> List V -> Hp -> Prop) (h0 : Pv 0 us H)
    (h1 : ∀ i zs H,Pv i zs H -> SqK K k1 H a1 xs /\ SqK K k2 H a2 ys)
    (hs : ∀ i x y zs H T,xs[i]? = some x -> ys[i]? = some y -> Pv i zs H -> H T = none -> g (.ref T) σ0 (upd H T (.tup [x,y])) fun σ4 H4 => Sub σ0 σ4 /\ tf σ4 H4 fun b H5 =>
      if b = true then te σ4 H5 fun v H6 => zs.length < sizeLine /\ Pv (i + 1) (zs ++ [v]) H6 else Pv (i + 1) zs H5)
    (hd : ∀ zs H,Pv (min xs.length ys.length) zs H -> N zs H) :
    ∃ W : Nat -> Nat -> List V -> Hp -> Prop,(∃ m,W 0 m us H) /\ ∀ i m zs H2,W i m zs H2 ->
      ((Itz K k1 k2 a1 a2).stop i H2 /\ N zs H2) \/
      ((Itz K k1 k2 a1 a2).go i H2 /\ ∃ N2 : List V -> Hp -> Prop,(∀ zs H',N2 zs H' -> ∃ m',m' < m /\ W (i + 1) m' zs H') /\ ∀ x H3,(Itz K k1 k2 a1 a2).yld i H2 x H3 -> g x σ0 H3 fun σ4 H4 => Sub σ0 σ4 /\ tf σ4 H4 fun b H5 =>
        if b = true then te σ4 H5 fun y H6 => zs.length < sizeLine /\ N2 (zs ++ [y]) H6 else N2 zs H5) := by
  refine ⟨fun i m zs H2 => m = min xs.length ys.length - i /\ i <= min xs.length ys.length /\ Pv i zs H2,⟨_,rfl,Nat.zero_le _,h0⟩,?_⟩
  rintro i m zs H2 ⟨rfl,hi,p⟩
  obtain ⟨q1,q2⟩ := h1 i zs H2 p
  by_cases hlt : i < min xs.length ys.length
  · have l1 : i < xs.length := by omega
    have l2 : i < ys.length := by omega
    refine .inr ⟨⟨xs,ys,xs[i],ys[i],q1,q2,by simp [l1],by simp [l2]⟩,Pv (i + 1),fun zs' H' p' => ⟨_,by omega,rfl,hlt,p'⟩,fun x H3 y => ?_⟩
    obtain ⟨T,u,v,e1,hT,e2,y1,y2⟩ := y
    subst e1 e2
    exact hs i u v zs H2 T (y1 xs q1) (y2 ys q2) p hT
  · have e : i = min xs.length ys.length := by omega
    subst e
    exact .inl ⟨⟨xs,ys,q1,q2,by omega⟩,hd zs H2 p⟩
section
variable {X : Cx}
theorem Vl {K : PySem.W.Frag} (h : X.K = K) {l m : Expr} {ta : TA} {p pos tp : Pos} {elts : List Expr} {kk : Nat} (hg : Gl X "zip") (hm : X.mg "zip" = none) (ha : PA X [l,m] ta) (hs : starEach [l,m] X.env = [(false,eval l X.env),(false,eval m X.env)] := by rfl) (hs2 : starEach [m] X.env = [(false,eval m X.env)] := by rfl) :
    PI X (.Tuple elts kk tp) (.Call (.Name "zip" p) [l,m] [] pos) (YU K ta) := by rw [<- h];exact ye hg hm ha hs hs2
inductive xV (K : PySem.W.Frag) (xs : List V) (H : Hp) (Q : VK) : Prop
  | mk (p : Addr) (ns : List Int) (_ : xs = [.ref p]) (_ : SqL K H p (ns.map V.int)) (_ : (∀ z ∈ ns,-1000000000000 <= z /\ z <= 1000000000000)) (_ : ns.length <= 100000) (_ : Q (.int ns.sum) H) : xV K xs H Q
theorem jp (hc : X.calm = true) : CallR X (.builtin "sum") (xV X.K) := by
  intro pins s σ H xs us Q I r h
  obtain ⟨p,ns,rfl,hq,hz,hn,q⟩ := h
  obtain ⟨u,rfl,ru⟩ := ja r
  cases (show u = _ from ru)
  obtain ⟨its,rv,pl,_⟩ := I.list hq
  have hl := pl.isList
  have hpl : p ≠ s.heap.objs.size := by
    obtain ⟨o,e,_⟩ := hl
    exact Nat.ne_of_lt (Heap.lt_size e)
  have hlen : its.length = ns.length := by have := rv.length;rw [List.length_map] at this;omega
  have hps : ∀ j,j <= ns.length -> -(1000000000000 * (j : Int)) <= (ns.take j).sum /\ (ns.take j).sum <= 1000000000000 * (j : Int) := by
    intro j
    induction j with
    | zero => intro _;simp
    | succ j ih =>
      intro hj
      have := ih (by omega)
      have e : ns.take (j + 1) = ns.take j ++ [ns[j]'(by omega)] := by rw [List.take_append_getElem]
      have b := hz (ns[j]'(by omega)) (List.getElem_mem _)
      rw [e,List.sum_append]
      simp only [List.sum_cons,List.sum_nil]
      constructor
      · omega
      · omega
  refine call_sum_walk (wpAny_pyIter_list hl ?_)
  refine ⟨s.heap.objs.size,_,_,_,_,_,fun i => ns.getD i 0,rfl,Walks.list (prog := X.prog) (w := X.w) (A := X.A.in1) (I.ok.hd hc) _ p hpl its.toArray,⟨⟨_,Heap.get?_push_size _ rfl,rfl,rfl⟩,hl.push _⟩,fun b hb => ?_,fun i v hP => ?_,fun j hj => ?_,fun h' tk t' hk => ?_⟩
  · have hz' : (s.heap.push { cls := .type "list_iterator",data := .fields #[.ref p,.int 0 0] }).objs.size = s.heap.objs.size + 1 := Heap.size_push ..
    show b < (s.heap.push _).objs.size
    rw [hz']
    rcases List.mem_cons.mp hb with z | z
    · rw [z];exact Nat.lt_succ_self _
    · rw [List.mem_singleton.mp z]
      obtain ⟨o,e,_⟩ := hl
      exact Nat.lt_succ_of_lt (Heap.lt_size e)
  · have e1 : its[i]? = some v := by simpa using hP
    have hi : i < ns.length := by have h1 := (List.getElem?_eq_some_iff.mp e1).1;omega
    obtain ⟨u',eu,ru'⟩ := rv.get (i := i) (x := .int ns[i]) (by simp [hi])
    rw [e1] at eu;cases eu
    obtain ⟨t,e⟩ := ru'
    exact ⟨t,by rw [e];simp [hi]⟩
  · have hj' : j < ns.length := by simp only [List.size_toArray] at hj;omega
    have a1 := hz ns[j] (List.getElem_mem hj')
    have a2 := hps (j + 1) (by omega)
    have e63 : (2 : Int) ^ 63 = 9223372036854775808 := by decide
    refine ⟨?_,?_⟩
    · show InLong (ns.getD j 0)
      rw [show ns.getD j 0 = ns[j] by simp [hj']]
      unfold InLong
      rw [e63];omega
    · rw [preSum_getD]
      unfold InLong
      rw [e63]
      have : ((j + 1 : Nat) : Int) <= 100000 := by omega
      omega
  · have k : ∀ b o,s.heap.get? b = some o -> h'.get? b = some o := fun b o e => hk b o (by simp;exact Nat.ne_of_lt (Heap.lt_size e)) (Heap.get?_push_of_some _ e)
    refine ⟨.int ns.sum,H,I.kept k,⟨t',?_⟩,q⟩
    rw [preSum_getD]
    have : ns.take its.toArray.size = ns := by rw [List.size_toArray,hlen,List.take_length]
    rw [this]
end
end L2
set_option Elab.async false
set_option linter.all false
set_option maxRecDepth 100000
set_option maxHeartbeats 4000000
namespace L2
open PySem PySem.Spec PyProof.Rows
section
variable {prog : Program} {w : World} {K : Type} [DecidableEq K] {knd : KeyKind prog w K} {A : Around} {E : Value -> Shared -> Prop} {s : Shared}
theorem ZU {l : Addr} {items : Array Value} {n : Nat} {sl : Array (Option Value)} {keys : List K} {Q : Value -> Shared -> Prop} (hh : A.handled = none) (hl : s.heap.get? l = some { cls := .type "list",dict := none,data := .seq items n,slots := sl }) (hlen : keys.length = items.size) (hb : items.size + 1 < scanBound)
    (hat : ∀ (j : Nat) (u : Value),items[j]? = some u -> ∃ k,keys[j]? = some k /\ knd.is k u = true /\ u.scannable = true)
    (h : ∀ h' tk,SetX knd (Xx w) h' s.heap.objs.size (qR [] keys) -> (∀ c o,s.heap.get? c = some o -> h'.get? c = some o) -> Q (.ref s.heap.objs.size) { s with heap := h',toks := tk }) :
    wpAny (model prog w) A (call (.type "set") [.ref l]) Q E s := by
  refine X6 (Q1 := fun u s1 => u = .ref s.heap.objs.size /\ s1 = { s with heap := s.heap.push (xD w) }) F.called_set (F.typeCall_set_1 (.ref l)) (Xt (.ref l) ⟨rfl,rfl⟩) fun u s1 e => ?_
  obtain ⟨eu,es⟩ := e
  subst eu es
  have hS : (s.heap.push (xD w)).get? s.heap.objs.size = some (xD w) := Heap.get?_push_size _ rfl
  have hT : Shared.TypeIs { s with heap := s.heap.push (xD w) } (.ref s.heap.objs.size) "set" := ⟨_,hS,rfl⟩
  have hl1 := Heap.get?_push_of_some (xD w) hl
  refine ⟨hT,codeAny_call_builtin F.called_set.init.plain F.entry_set_init (check_set_init_1 hT ?_)⟩
  have m1 := F.sub_list_set
  have m2 := F.sub_list_frozenset
  have m3 : (Value.type "list" == Value.type "dict") = false := by decide
  have hlS : l < s.heap.objs.size := Heap.lt_size hl
  unfold xD at hS hT hl1
  unfold Builtin.«set.__init__» noKeywords Builtin.Frozenset.updateFrom xD
  generalize hPI : pyIter = PI
  wp_walk
  subst hPI
  refine wpAny_pyIter_list ⟨_,hl1,rfl,n,rfl⟩ (wpAny_bind (wpAny_runValue ?_))
  have hh3 : A.in1.in1.in1.handled = none := by simp [hh]
  have sz : (s.heap.push (xD w)).objs.size = s.heap.objs.size + 1 := Heap.size_push ..
  have lt1 : ∀ c o,s.heap.get? c = some o -> c < s.heap.objs.size := fun c o e => Heap.lt_size e
  refine Va (knd := knd) (b := Xx w) (A := A.in1.in1) (S := s.heap.objs.size) (it := (s.heap.push (xD w)).objs.size) (l := l) (items := items) (keys := keys) hh3 (by rw [sz];exact Nat.ne_of_lt (Nat.lt_succ_of_lt hlS)) (Nat.ne_of_lt hlS) (by rw [sz];exact Nat.ne_of_gt (Nat.lt_succ_self _)) hlen hat items.size
    ⟨(s.heap.push (xD w)).push { cls := .type "list_iterator",data := .fields #[.ref l,.int 0 0] },s.gens,s.drawn,s.toks,s.os⟩ 0 [] rfl (Nat.zero_le _) ⟨_,Heap.get?_push_size _ rfl,rfl,rfl⟩ ⟨_,Heap.get?_push_of_some _ hl1,rfl,n,rfl⟩ ((JW s.heap).at fun o e => Heap.get?_push_of_some _ e) (by rw [List.length_nil];omega) fun h' tk sx kp => ?_
  refine wpAny_pure (wpAny_pure ⟨rfl,h h' tk (by simpa using sx) fun c o e => ?_⟩)
  have := lt1 c o e
  exact kp c o (by rw [sz];exact Nat.ne_of_lt (Nat.lt_succ_of_lt this)) (Nat.ne_of_lt this) (Heap.get?_push_of_some _ (Heap.get?_push_of_some _ e))
end
section
variable {X : Cx}
inductive xX (K : PySem.W.Frag) (P : Program) (w : World) (xs : List V) (H : Hp) (Q : VK) : Prop
  | mk (a : Addr) (ks : List Key) (_ : xs = [.ref a]) (_ : SqL K H a (ks.map kV)) (_ : ks.length <= 4000) (_ : ∀ p,H p = none -> Q (.ref p) (upd H p (Q8 P w p (qR [] ks)))) : xX K P w xs H Q
theorem wM (hh : X.A.handled = none) : CallR X (.type "set") (xX X.K X.prog X.w) := by
  intro pins s σ H xs us Q I r h
  obtain ⟨a,ks,rfl,hx,hl,q⟩ := h
  obtain ⟨u,rfl,ru⟩ := Vals.one r
  cases (show u = Value.ref a from ru)
  obtain ⟨its,rel,⟨o,n,hg,c1,c2,c3⟩,zz⟩ := I.list hx
  obtain ⟨oc,od,oda,os⟩ := o
  cases (show oc = _ from c1)
  cases (show od = _ from c2)
  cases (show oda = _ from c3)
  have ln := rel.length
  rw [List.length_map] at ln
  have hn : H s.heap.objs.size = none := I.hok.fresh (Nat.le_refl _)
  have sb : scanBound = 4096 := rfl
  refine ZU (knd := zO X.prog X.w) (keys := ks) hh hg (by simp [ln]) (by simp;omega) (fun j u e => ?_) fun h' tk sx k => ?_
  · rw [List.getElem?_toArray] at e
    obtain ⟨x,ex,rx⟩ := Vals.at rel e
    rw [List.getElem?_map] at ex
    obtain ⟨kk,ek,rfl⟩ := Option.map_eq_some_iff.mp ex
    refine ⟨kk,ek,jJ rx,?_⟩
    cases kk with
    | inl i => obtain ⟨t,rfl⟩ := rx;rfl
    | inr i => obtain ⟨t,rfl⟩ := rx;rfl
  · refine ⟨.ref s.heap.objs.size,_,I.laid (a := s.heap.objs.size) (o := Q8 X.prog X.w s.heap.objs.size (qR [] ks)) (t' := tk) k (Nat.le_refl _) ⟨sx,?_,fun h1 h2 x e => x.at e⟩,rfl,q _ hn⟩
    obtain ⟨o,e,_⟩ := sx
    exact ⟨o,e⟩
end
end L2
set_option Elab.async false
set_option linter.all false
set_option maxRecDepth 100000
set_option maxHeartbeats 4000000
namespace L2
open PySem PySem.Spec PyProof.Rows PySem.W
section
variable {prog : Program} {w : World} {A : Around} {R : Result -> Shared -> Prop} {I S : Addr} {fp wr : List Addr} {n : Nat} {P : Nat -> Value -> Prop} {St : Nat -> Heap -> Prop}
end
section
variable {X : Cx}
end
end L2
set_option Elab.async false
set_option linter.all false
namespace L2
structure Pot (c : Nat -> Nat -> Int) (r m : Nat) (f : Nat -> Nat) (u v : Nat -> Int) : Prop where
  inj : ∀ x,x < r -> ∀ y,y < r -> f x = f y -> x = y
  rng : ∀ x,x < r -> f x < m
  feas : ∀ x,x < r -> ∀ j,j < m -> u x + v j <= c x j
  tight : ∀ x,x < r -> u x + v (f x) = c x (f x)
  neg : ∀ j,j < m -> v j <= 0
  free : ∀ j,j < m -> (∀ x,x < r -> f x ≠ j) -> v j = 0
theorem Pot.zero (c : Nat -> Nat -> Int) (m : Nat) (f : Nat -> Nat) : Pot c 0 m f (fun _ => 0) (fun _ => 0) :=
  ⟨fun x h => absurd h (Nat.not_lt_zero x),fun x h => absurd h (Nat.not_lt_zero x),fun x h => absurd h (Nat.not_lt_zero x),fun x h => absurd h (Nat.not_lt_zero x),fun _ _ => Int.le_refl _,fun _ _ _ => rfl⟩
theorem Pot.step {c : Nat -> Nat -> Int} {r m : Nat} {f : Nat -> Nat} {u v : Nat -> Int} (P : Pot c r m f u v) {x b : Nat} (hx : x < r) (hb : b < m) : v b - v (f x) <= c x b - c x (f x) := by
  have h1 := P.feas x hx b hb
  have h2 := P.tight x hx
  omega
inductive Wg (c : Nat -> Nat -> Int) (r m : Nat) (f : Nat -> Nat) (t0 T : Nat -> Int) : List Nat -> Nat -> Int -> Prop
  | one {j : Nat} : j < m -> T j <= t0 j -> Wg c r m f t0 T [j] j (t0 j)
  | step {p : List Nat} {x b : Nat} {t : Int} : Wg c r m f t0 T p (f x) t -> x < r -> b < m -> b ∉ p -> T b <= t + c x b - c x (f x) -> Wg c r m f t0 T (p ++ [b]) b (t + c x b - c x (f x))
section
variable {c : Nat -> Nat -> Int} {r m : Nat} {f : Nat -> Nat} {t0 T : Nat -> Int}
theorem Wg.mono {T' : Nat -> Int} (h : ∀ j,T' j <= T j) : ∀ {p : List Nat} {j : Nat} {t : Int},Wg c r m f t0 T p j t -> Wg c r m f t0 T' p j t
  | _,_,_,.one hj ht => .one hj (Int.le_trans (h _) ht)
  | _,_,_,.step g hx hb hn ht => .step (g.mono h) hx hb hn (Int.le_trans (h _) ht)
theorem Wg.nodup : ∀ {p : List Nat} {j : Nat} {t : Int},Wg c r m f t0 T p j t -> p.Nodup
  | _,_,_,.one _ _ => List.nodup_cons.mpr ⟨(fun h => nomatch h),List.nodup_nil⟩
  | _,_,_,.step g _ _ hn _ => by
    rw [List.nodup_append]
    refine ⟨g.nodup,List.nodup_cons.mpr ⟨(fun h => nomatch h),List.nodup_nil⟩,fun a ha b hb => fun e => ?_⟩
    rw [List.mem_singleton.mp hb] at e
    exact hn (e ▸ ha)
theorem Wg.rng : ∀ {p : List Nat} {j : Nat} {t : Int},Wg c r m f t0 T p j t -> (∀ x ∈ p,x < m) /\ j ∈ p
  | _,_,_,.one hj _ => ⟨fun x hx => by rw [List.mem_singleton.mp hx];exact hj,by simp⟩
  | _,_,_,.step g _ hb _ _ => ⟨fun x hx => (List.mem_append.mp hx).elim (g.rng.1 x) fun z => by rw [List.mem_singleton.mp z];exact hb,by simp⟩
theorem Wg.le : ∀ {p : List Nat} {j : Nat} {t : Int},Wg c r m f t0 T p j t -> T j <= t
  | _,_,_,.one _ h => h
  | _,_,_,.step _ _ _ _ h => h
theorem Wg.mem {u v : Nat -> Int} (P : Pot c r m f u v) : ∀ {p : List Nat} {j : Nat} {t : Int},Wg c r m f t0 T p j t -> ∀ y ∈ p,∃ ty,T y <= ty /\ ty - v y <= t - v j
  | _,_,_,.one hj h,y,hy => by
    rw [List.mem_singleton.mp hy]
    exact ⟨_,h,Int.le_refl _⟩
  | _,_,_,.step (x := x) (b := b) (t := t) g hx hb hn h,y,hy => by
    have s := P.step hx hb
    rcases List.mem_append.mp hy with z | z
    · obtain ⟨ty,h1,h2⟩ := Wg.mem P g y z
      exact ⟨ty,h1,by omega⟩
    · rw [List.mem_singleton.mp z]
      exact ⟨_,h,Int.le_refl _⟩
theorem Wg.low {u v : Nat -> Int} (P : Pot c r m f u v) (h0 : ∀ j,j < m -> v j <= t0 j) : ∀ {p : List Nat} {j : Nat} {t : Int},Wg c r m f t0 T p j t -> v j <= t
  | _,_,_,.one hj _ => h0 _ hj
  | _,_,_,.step (x := x) (b := b) (t := t) g hx hb _ _ => by
    have s := P.step hx hb
    have := Wg.low P h0 g
    omega
theorem Wg.relax {u v : Nat -> Int} (P : Pot c r m f u v) {p : List Nat} {x b : Nat} {t : Int} (g : Wg c r m f t0 T p (f x) t) (hx : x < r) (hb : b < m) (lt : t + c x b - c x (f x) < T b) : b ∉ p := fun hm => by
  obtain ⟨ty,h1,h2⟩ := Wg.mem P g b hm
  have s := P.step hx hb
  omega
def X3 (c : Nat -> Nat -> Int) (r m : Nat) (f : Nat -> Nat) (T : Nat -> Int) : Prop := ∀ x,x < r -> ∀ b,b < m -> T b <= T (f x) + c x b - c x (f x)
inductive Ch (c : Nat -> Nat -> Int) (r m : Nat) (f : Nat -> Nat) (t0 T : Nat -> Int) : List Nat -> Nat -> Prop
  | one {j : Nat} : j < m -> T j = t0 j -> Ch c r m f t0 T [j] j
  | step {p : List Nat} {x b : Nat} : Ch c r m f t0 T p (f x) -> x < r -> b < m -> b ∉ p -> T b = T (f x) + c x b - c x (f x) -> Ch c r m f t0 T (p ++ [b]) b
theorem Wg.ch (S : X3 c r m f T) : ∀ {p : List Nat} {j : Nat} {t : Int},Wg c r m f t0 T p j t -> t = T j -> Ch c r m f t0 T p j
  | _,_,_,.one hj h,e => .one hj e.symm
  | _,_,_,.step (x := x) (b := b) (t := t) g hx hb hn h,e => by
    have s := S x hx b hb
    have l := g.le
    have e1 : t = T (f x) := by omega
    exact .step (g.ch S e1) hx hb hn (by omega)
theorem Ch.rng : ∀ {p : List Nat} {j : Nat},Ch c r m f t0 T p j -> (∀ x ∈ p,x < m) /\ j ∈ p /\ p ≠ []
  | _,_,.one hj _ => ⟨fun x hx => by rw [List.mem_singleton.mp hx];exact hj,by simp,by simp⟩
  | _,_,.step g _ hb _ _ => ⟨fun x hx => (List.mem_append.mp hx).elim (g.rng.1 x) fun z => by rw [List.mem_singleton.mp z];exact hb,by simp,by simp⟩
theorem Ch.nodup : ∀ {p : List Nat} {j : Nat},Ch c r m f t0 T p j -> p.Nodup
  | _,_,.one _ _ => List.nodup_cons.mpr ⟨(fun h => nomatch h),List.nodup_nil⟩
  | _,_,.step g _ _ hn _ => by
    rw [List.nodup_append]
    refine ⟨g.nodup,List.nodup_cons.mpr ⟨(fun h => nomatch h),List.nodup_nil⟩,fun a ha b hb => fun e => ?_⟩
    rw [List.mem_singleton.mp hb] at e
    exact hn (e ▸ ha)
theorem Ch.last : ∀ {p : List Nat} {j : Nat},Ch c r m f t0 T p j -> p.getLast? = some j
  | _,_,.one _ _ => rfl
  | _,_,.step _ _ _ _ _ => by rw [List.getLast?_concat]
theorem Ch.head : ∀ {p : List Nat} {j : Nat},Ch c r m f t0 T p j -> ∃ s,p.head? = some s /\ s < m /\ T s = t0 s
  | _,_,.one hj h => ⟨_,rfl,hj,h⟩
  | _,_,.step g _ _ _ _ => by
    obtain ⟨s,h1,h2⟩ := g.head
    refine ⟨s,?_,h2⟩
    rw [List.head?_append,h1]
    rfl
theorem Ch.next : ∀ {p : List Nat} {j : Nat},Ch c r m f t0 T p j -> ∀ (i a b : Nat),p[i]? = some a -> p[i + 1]? = some b -> ∃ x,x < r /\ f x = a /\ b < m /\ T b = T a + c x b - c x a
  | _,_,.one _ _,i,a,b,h1,h2 => by simp at h2
  | _,_,.step (p := p) (x := x) (b := b') g hx hb hn h,i,a,b,h1,h2 => by
    by_cases hi : i + 1 < p.length
    · rw [List.getElem?_append_left (by omega)] at h1
      rw [List.getElem?_append_left hi] at h2
      exact g.next i a b h1 h2
    · have hl := (List.getElem?_eq_some_iff.mp h2).1
      rw [List.length_append] at hl
      have e1 : i + 1 = p.length := by simp at hl;omega
      rw [e1,List.getElem?_append_right (Nat.le_refl _),Nat.sub_self] at h2
      have eb : b' = b := by simpa using h2
      subst eb
      rw [List.getElem?_append_left (by omega)] at h1
      have la := g.last
      rw [List.getLast?_eq_getElem?,show p.length - 1 = i by omega] at la
      rw [la] at h1
      cases h1
      exact ⟨x,hx,rfl,hb,h⟩
theorem Ch.grow {u v : Nat -> Int} (P : Pot c r m f u v) : ∀ {p : List Nat} {j : Nat},Ch c r m f t0 T p j -> ∀ a ∈ p,T a - v a <= T j - v j
  | _,_,.one _ _,a,ha => by rw [List.mem_singleton.mp ha];exact Int.le_refl _
  | _,_,.step (x := x) (b := b) g hx hb hn h,a,ha => by
    have s := P.step hx hb
    rcases List.mem_append.mp ha with z | z
    · have := g.grow P a z
      omega
    · rw [List.mem_singleton.mp z];exact Int.le_refl _
end
def nxt (p : List Nat) (a : Nat) : Option Nat := p[p.idxOf a + 1]?
def qE (f : Nat -> Nat) (r : Nat) (p : List Nat) : Nat -> Nat := fun y => if y = r then p.headD 0 else if f y ∈ p then (nxt p (f y)).getD 0 else f y
section
variable {c : Nat -> Nat -> Int} {r m : Nat} {f : Nat -> Nat} {T : Nat -> Int} {u v : Nat -> Int}
theorem xI {p : List Nat} {a : Nat} (h : a ∈ p) : p[p.idxOf a]? = some a := by
  rw [List.getElem?_eq_getElem (List.idxOf_lt_length_iff.mpr h)]
  exact congrArg some (List.getElem_idxOf _)
theorem qP {p : List Nat} {j : Nat} (C : Ch c r m f (c r) T p j) (hj : ∀ x,x < r -> f x ≠ j) {y : Nat} (hy : y < r) (hp : f y ∈ p) : ∃ b,p[p.idxOf (f y) + 1]? = some b /\ qE f r p y = b := by
  have hi := List.idxOf_lt_length_iff.mpr hp
  have ea := xI hp
  have la := C.last
  rw [List.getLast?_eq_getElem?] at la
  have lt : p.idxOf (f y) + 1 < p.length := by
    refine Nat.lt_of_le_of_ne hi fun e => ?_
    have e' : p.idxOf (f y) = p.length - 1 := by omega
    rw [e',la] at ea
    exact hj y hy (Option.some.inj ea).symm
  refine ⟨_,List.getElem?_eq_getElem lt,?_⟩
  unfold qE nxt
  rw [if_neg (by omega),if_pos hp,List.getElem?_eq_getElem lt]
  rfl
theorem Pot.augment {p : List Nat} {j : Nat} (P : Pot c r m f u v) (S : X3 c r m f T) (h0 : ∀ b,b < m -> T b <= c r b) (C : Ch c r m f (c r) T p j) (hj : ∀ x,x < r -> f x ≠ j) (jm : j < m) (best : ∀ b,b < m -> (∀ x,x < r -> f x ≠ b) -> T j <= T b) :
    Pot c (r + 1) m (qE f r p) (fun x => if x = r then T j else u x + (T j - min (T (f x) - v (f x)) (T j))) (fun b => v b + min (T b - v b) (T j) - T j) := by
  have vj : v j = 0 := P.free j jm hj
  have grow := fun a ha => C.grow P a ha
  have nd := C.nodup
  obtain ⟨s,hs,sm,Ts⟩ := C.head
  have hr : qE f r p r = s := by
    unfold qE
    rw [if_pos rfl]
    cases p with
    | nil => cases hs
    | cons x p => cases hs;rfl
  have sp : s ∈ p := List.mem_of_head? hs
  have off : ∀ y,y < r -> f y ∉ p -> qE f r p y = f y := fun y hy hp => by
    unfold qE
    rw [if_neg (by omega),if_neg hp]
  have idx0 : ∀ i,p[i]? = some s -> i = 0 := fun i hi => by
    have h0 : p[0]? = some s := by rw [<- List.head?_eq_getElem?];exact hs
    have l1 := (List.getElem?_eq_some_iff.mp hi)
    have l2 := (List.getElem?_eq_some_iff.mp h0)
    exact (List.getElem_inj nd).mp (l1.2.trans l2.2.symm)
  have injI : ∀ i k b,p[i]? = some b -> p[k]? = some b -> i = k := fun i k b hi hk => by
    have l1 := (List.getElem?_eq_some_iff.mp hi)
    have l2 := (List.getElem?_eq_some_iff.mp hk)
    exact (List.getElem_inj nd).mp (l1.2.trans l2.2.symm)
  refine ⟨?_,?_,?_,?_,?_,?_⟩
  · -- no two alike
    have key : ∀ x,x < r -> ∀ y,y < r -> qE f r p x = qE f r p y -> x = y := fun x hx y hy e => by
      by_cases px : f x ∈ p
      · obtain ⟨b,hb,eb⟩ := qP C hj hx px
        by_cases py : f y ∈ p
        · obtain ⟨b',hb',eb'⟩ := qP C hj hy py
          rw [eb,eb'] at e
          subst e
          have := injI _ _ _ hb hb'
          have e2 : p.idxOf (f x) = p.idxOf (f y) := by omega
          have e3 := xI px
          rw [e2,xI py] at e3
          exact P.inj x hx y hy (Option.some.inj e3).symm
        · rw [eb,off y hy py] at e
          exact absurd (e ▸ List.mem_of_getElem? hb) py
      · by_cases py : f y ∈ p
        · obtain ⟨b',hb',eb'⟩ := qP C hj hy py
          rw [eb',off x hx px] at e
          exact absurd (e ▸ List.mem_of_getElem? hb') px
        · rw [off x hx px,off y hy py] at e
          exact P.inj x hx y hy e
    have kr : ∀ y,y < r -> qE f r p y ≠ s := fun y hy e => by
      by_cases py : f y ∈ p
      · obtain ⟨b',hb',eb'⟩ := qP C hj hy py
        rw [eb'] at e
        subst e
        have := idx0 _ hb'
        omega
      · rw [off y hy py] at e
        exact py (e ▸ sp)
    intro x hx y hy e
    by_cases xr : x = r
    · by_cases yr : y = r
      · omega
      · rw [xr,hr] at e
        exact absurd e.symm (kr y (by omega))
    · by_cases yr : y = r
      · rw [yr,hr] at e
        exact absurd e (kr x (by omega))
      · exact key x (by omega) y (by omega) e
  · intro x hx
    by_cases xr : x = r
    · rw [xr,hr];exact sm
    · by_cases px : f x ∈ p
      · obtain ⟨b,hb,eb⟩ := qP C hj (show x < r by omega) px
        rw [eb]
        exact C.rng.1 b (List.mem_of_getElem? hb)
      · rw [off x (by omega) px]
        exact P.rng x (by omega)
  · intro x hx b hb
    by_cases xr : x = r
    · subst xr
      simp only [if_true]
      have := h0 b hb
      omega
    · simp only [if_neg xr]
      have h1 := P.feas x (by omega) b hb
      have h2 := P.tight x (by omega)
      have h3 := S x (by omega) b hb
      omega
  · intro x hx
    by_cases xr : x = r
    · subst xr
      rw [hr]
      simp only [if_true]
      have := grow s sp
      omega
    · simp only [if_neg xr]
      have h2 := P.tight x (by omega)
      by_cases px : f x ∈ p
      · obtain ⟨b,hb,eb⟩ := qP C hj (show x < r by omega) px
        rw [eb]
        obtain ⟨x',hx',e1,_,e3⟩ := C.next _ _ _ (xI px) hb
        have ex := P.inj x' hx' x (by omega) e1
        subst ex
        have g1 := grow _ px
        have g2 := grow _ (List.mem_of_getElem? hb)
        omega
      · rw [off x (by omega) px]
        omega
  · intro b hb
    have := P.neg b hb
    show v b + min (T b - v b) (T j) - T j <= 0
    omega
  · intro b hb hf
    show v b + min (T b - v b) (T j) - T j = 0
    have bp : b ∉ p := fun hp => by
      obtain ⟨i,hi,e⟩ := List.getElem_of_mem hp
      have ei : p[i]? = some b := by rw [<- e];exact List.getElem?_eq_getElem hi
      cases i with
      | zero =>
        refine hf r (Nat.lt_succ_self _) ?_
        rw [hr]
        rw [<- List.head?_eq_getElem?,hs] at ei
        exact Option.some.inj ei
      | succ i =>
        have hi' : i < p.length := by omega
        have ea : p[i]? = some p[i] := List.getElem?_eq_getElem hi'
        obtain ⟨x,hx,e1,_⟩ := C.next i _ _ ea ei
        have px : f x ∈ p := by rw [e1];exact List.mem_of_getElem? ea
        obtain ⟨b',hb',eb'⟩ := qP C hj hx px
        have : p.idxOf (f x) = i := injI _ _ _ (xI px) (by rw [e1];exact ea)
        rw [this,ei] at hb'
        cases hb'
        exact hf x (by omega) eb'
    have nf : ∀ x,x < r -> f x ≠ b := fun x hx e => by
      refine hf x (by omega) ?_
      rw [off x hx (by rw [e];exact bp)]
      exact e
    have h1 := P.free b hb nf
    have h2 := best b hb nf
    omega
end
def qd (n : Nat) (g : Nat -> Int) : Int := ((List.range n).map g).sum
theorem qe (n : Nat) (g : Nat -> Int) : qd (n + 1) g = qd n g + g n := by
  unfold qd
  rw [List.range_succ,List.map_append,List.sum_append]
  simp
theorem xf {g h : Nat -> Int} : ∀ (n : Nat),(∀ x,x < n -> g x <= h x) -> qd n g <= qd n h
  | 0,_ => Int.le_refl _
  | n + 1,H => by
    have := xf n fun x hx => H x (by omega)
    have := H n (by omega)
    rw [qe,qe]
    omega
theorem jQ {g h : Nat -> Int} (n : Nat) (H : ∀ x,x < n -> g x = h x) : qd n g = qd n h := Int.le_antisymm (xf n fun x hx => Int.le_of_eq (H x hx)) (xf n fun x hx => Int.le_of_eq (H x hx).symm)
theorem vz (g h : Nat -> Int) : ∀ n,qd n (fun x => g x + h x) = qd n g + qd n h
  | 0 => rfl
  | n + 1 => by
    have := vz g h n
    rw [qe,qe,qe]
    omega
theorem yF {m : Nat} (v : Nat -> Int) {a : Nat} (ha : a < m) : qd m v = v a + qd m (fun j => if j = a then 0 else v j) := by
  induction m with
  | zero => omega
  | succ m ih =>
    rw [qe,qe]
    by_cases e : a = m
    · subst e
      have : qd a v = qd a (fun j => if j = a then 0 else v j) := jQ a fun x hx => by rw [if_neg (by omega)]
      rw [if_pos rfl]
      omega
    · have := ih (by omega)
      rw [if_neg (fun z : m = a => e z.symm)]
      omega
theorem yE {m : Nat} : ∀ {r : Nat} {g : Nat -> Nat} {v : Nat -> Int},(∀ x,x < r -> g x < m) -> (∀ x,x < r -> ∀ y,y < r -> g x = g y -> x = y) -> (∀ j,j < m -> v j <= 0) -> qd m v <= qd r fun x => v (g x)
  | 0,g,v,_,_,hv => by
    have : qd m v <= qd m fun _ => 0 := xf m hv
    have z : ∀ n,qd n (fun _ => 0) = 0 := fun n => by
      induction n with
      | zero => rfl
      | succ n ih => rw [qe,ih];rfl
    rw [z m] at this
    exact this
  | r + 1,g,v,hr,hi,hv => by
    have ih := yE (r := r) (g := g) (v := fun j => if j = g r then 0 else v j) (fun x hx => hr x (by omega)) (fun x hx y hy => hi x (by omega) y (by omega)) fun j hj => by
      show (if j = g r then 0 else v j) <= 0
      split
      · exact Int.le_refl _
      · exact hv j hj
    have e : qd r (fun x => (fun j => if j = g r then (0 : Int) else v j) (g x)) = qd r fun x => v (g x) := jQ r fun x hx => by
      show (if g x = g r then (0 : Int) else v (g x)) = v (g x)
      rw [if_neg fun z => by have := hi x (by omega) r (by omega) z;omega]
    rw [e] at ih
    rw [qe,yF v (hr r (by omega))]
    omega
section
variable {c : Nat -> Nat -> Int} {r m : Nat} {f : Nat -> Nat} {u v : Nat -> Int}
theorem Pot.weak (P : Pot c r m f u v) {g : Nat -> Nat} (hr : ∀ x,x < r -> g x < m) (hi : ∀ x,x < r -> ∀ y,y < r -> g x = g y -> x = y) : qd r u + qd m v <= qd r fun x => c x (g x) := by
  have h1 : qd r (fun x => u x + v (g x)) <= qd r fun x => c x (g x) := xf r fun x hx => P.feas x hx (g x) (hr x hx)
  rw [vz] at h1
  have h2 := yE hr hi P.neg
  omega
theorem yD {m : Nat} : ∀ {r : Nat} {g : Nat -> Nat} {v : Nat -> Int},(∀ x,x < r -> g x < m) -> (∀ x,x < r -> ∀ y,y < r -> g x = g y -> x = y) -> (∀ j,j < m -> (∀ x,x < r -> g x ≠ j) -> v j = 0) -> (qd r fun x => v (g x)) = qd m v
  | 0,g,v,_,_,hv => by
    have e : qd m v = qd m fun _ => 0 := jQ m fun j hj => hv j hj fun x hx => absurd hx (Nat.not_lt_zero x)
    have z : ∀ n,qd n (fun _ => 0) = 0 := fun n => by
      induction n with
      | zero => rfl
      | succ n ih => rw [qe,ih];rfl
    rw [e,z m]
    rfl
  | r + 1,g,v,hr,hi,hv => by
    have ih := yD (r := r) (g := g) (v := fun j => if j = g r then 0 else v j) (fun x hx => hr x (by omega)) (fun x hx y hy => hi x (by omega) y (by omega)) fun j hj hn => by
      show (if j = g r then (0 : Int) else v j) = 0
      split
      · rfl
      · rename_i ne
        refine hv j hj fun x hx e => ?_
        by_cases z : x = r
        · subst z;exact ne e.symm
        · exact hn x (by omega) e
    have e : qd r (fun x => (fun j => if j = g r then (0 : Int) else v j) (g x)) = qd r fun x => v (g x) := jQ r fun x hx => by
      show (if g x = g r then (0 : Int) else v (g x)) = v (g x)
      rw [if_neg fun z => by have := hi x (by omega) r (by omega) z;omega]
    rw [e] at ih
    rw [qe,yF v (hr r (by omega))]
    omega
theorem Pot.sum (P : Pot c r m f u v) : (qd r fun x => c x (f x)) = qd r u + qd m v := by
  have e : (qd r fun x => c x (f x)) = qd r fun x => u x + v (f x) := jQ r fun x hx => (P.tight x hx).symm
  rw [e,vz,yD P.rng P.inj P.free]
theorem Pot.least (P : Pot c r m f u v) {g : Nat -> Nat} (hr : ∀ x,x < r -> g x < m) (hi : ∀ x,x < r -> ∀ y,y < r -> g x = g y -> x = y) : (qd r fun x => c x (f x)) <= qd r fun x => c x (g x) := by
  rw [P.sum]
  exact P.weak hr hi
end
end L2
set_option Elab.async false
set_option linter.all false
namespace L2
def tot (bs : List (Int × List Nat)) (j : Nat) : Int := (bs.getD j (0,[])).1
def way (bs : List (Int × List Nat)) (j : Nat) : List Nat := (bs.getD j (0,[])).2
def qz (c : Nat -> Nat -> Int) (k x : Nat) (st : List (Int × List Nat) × Bool) (b : Nat) : List (Int × List Nat) × Bool :=
  if tot st.1 k + c x b - c x k < tot st.1 b then (st.1.set b (tot st.1 k + c x b - c x k,way st.1 k ++ [b]),true) else st
def qM (c : Nat -> Nat -> Int) (k x n : Nat) (st : List (Int × List Nat) × Bool) : List (Int × List Nat) × Bool := (List.range n).foldl (qz c k x) st
theorem jl (c : Nat -> Nat -> Int) (k x n : Nat) (st : List (Int × List Nat) × Bool) : qM c k x (n + 1) st = qz c k x (qM c k x n st) n := by
  unfold qM
  rw [List.range_succ,List.foldl_append]
  rfl
def ql (c : Nat -> Nat -> Int) (m : Nat) (hs : List (Nat × Nat)) (st : List (Int × List Nat) × Bool) : List (Int × List Nat) × Bool := hs.foldl (fun st h => qM c h.1 h.2 m st) st
theorem ZL (c : Nat -> Nat -> Int) (m : Nat) (hs : List (Nat × Nat)) (h : Nat × Nat) (st : List (Int × List Nat) × Bool) : ql c m (hs ++ [h]) st = qM c h.1 h.2 m (ql c m hs st) := by
  unfold ql
  rw [List.foldl_append]
  rfl
theorem vG (c : Nat -> Nat -> Int) (m : Nat) (hs : List (Nat × Nat)) (st : List (Int × List Nat) × Bool) {i : Nat} {h : Nat × Nat} (e : hs[i]? = some h) : ql c m (hs.take (i + 1)) st = qM c h.1 h.2 m (ql c m (hs.take i) st) := by
  rw [List.take_add_one,e,Option.toList_some]
  exact ZL c m _ h st
inductive Settle (c : Nat -> Nat -> Int) (m : Nat) (hs : List (Nat × Nat)) : List (Int × List Nat) -> List (Int × List Nat) -> Prop
  | stop {bs} : (ql c m hs (bs,false)).2 = false -> Settle c m hs bs (ql c m hs (bs,false)).1
  | go {bs es} : (ql c m hs (bs,false)).2 = true -> Settle c m hs (ql c m hs (bs,false)).1 es -> Settle c m hs bs es
theorem w9 {c : Nat -> Nat -> Int} {k x b : Nat} {st : List (Int × List Nat) × Bool} (h : (qz c k x st b).2 = false) : qz c k x st b = st /\ tot st.1 b <= tot st.1 k + c x b - c x k := by
  unfold qz at h ⊢
  by_cases z : tot st.1 k + c x b - c x k < tot st.1 b
  · rw [if_pos z] at h;cases h
  · rw [if_neg z];exact ⟨rfl,by omega⟩
theorem vC {c : Nat -> Nat -> Int} {k x : Nat} {st : List (Int × List Nat) × Bool} : ∀ {n : Nat},(qM c k x n st).2 = false -> qM c k x n st = st /\ ∀ b,b < n -> tot st.1 b <= tot st.1 k + c x b - c x k
  | 0,_ => ⟨rfl,fun b h => absurd h (Nat.not_lt_zero b)⟩
  | n + 1,h => by
    rw [jl] at h ⊢
    obtain ⟨e1,e2⟩ := w9 h
    rw [e1] at h ⊢
    obtain ⟨e3,e4⟩ := vC h
    rw [e3] at e2
    refine ⟨e3,fun b hb => ?_⟩
    rcases Nat.lt_or_ge b n with z | z
    · exact e4 b z
    · rw [show b = n by omega];exact e2
theorem xP {c : Nat -> Nat -> Int} {m : Nat} {st : List (Int × List Nat) × Bool} : ∀ {hs : List (Nat × Nat)},(ql c m hs st).2 = false -> ql c m hs st = st /\ ∀ h ∈ hs,∀ b,b < m -> tot st.1 b <= tot st.1 h.1 + c h.2 b - c h.2 h.1 := by
  intro hs
  induction hs generalizing st with
  | nil => intro _;exact ⟨rfl,fun h hh => nomatch hh⟩
  | cons h hs ih =>
    intro e
    have e : (ql c m hs (qM c h.1 h.2 m st)).2 = false := e
    obtain ⟨e1,e2⟩ := ih e
    rw [e1] at e
    obtain ⟨e3,e4⟩ := vC e
    rw [e3] at e1 e2
    refine ⟨show ql c m hs (qM c h.1 h.2 m st) = st from by rw [e3];exact e1,fun g hg b hb => ?_⟩
    rcases List.mem_cons.mp hg with z | z
    · rw [z];exact e4 b hb
    · exact e2 g z b hb
def WgA (c : Nat -> Nat -> Int) (r m : Nat) (f : Nat -> Nat) (t0 : Nat -> Int) (bs : List (Int × List Nat)) : Prop := bs.length = m /\ ∀ j,j < m -> Wg c r m f t0 (tot bs) (way bs j) j (tot bs j)
theorem vf {bs : List (Int × List Nat)} {b : Nat} {q : Int × List Nat} (hb : b < bs.length) (j : Nat) : tot (bs.set b q) j = if j = b then q.1 else tot bs j := by
  unfold tot
  rw [List.getD_eq_getElem?_getD,List.getD_eq_getElem?_getD]
  by_cases e : j = b
  · subst e;rw [List.getElem?_set_self hb,if_pos rfl];rfl
  · rw [List.getElem?_set_ne (Ne.symm e),if_neg e]
theorem ZX {bs : List (Int × List Nat)} {b : Nat} {q : Int × List Nat} (hb : b < bs.length) (j : Nat) : way (bs.set b q) j = if j = b then q.2 else way bs j := by
  unfold way
  rw [List.getD_eq_getElem?_getD,List.getD_eq_getElem?_getD]
  by_cases e : j = b
  · subst e;rw [List.getElem?_set_self hb,if_pos rfl];rfl
  · rw [List.getElem?_set_ne (Ne.symm e),if_neg e]
def mea (m : Nat) (v : Nat -> Int) (bs : List (Int × List Nat)) : Nat := ((List.range m).map fun j => (tot bs j - v j).toNat).sum
theorem vy {g h : Nat -> Nat} : ∀ {l : List Nat},(∀ x ∈ l,g x <= h x) -> (l.map g).sum <= (l.map h).sum
  | [],_ => Nat.le_refl _
  | a :: l,H => by
    have := vy (l := l) fun x hx => H x (List.mem_cons_of_mem _ hx)
    have := H a (by simp)
    simp only [List.map_cons,List.sum_cons]
    omega
theorem vw {g h : Nat -> Nat} : ∀ {l : List Nat},(∀ x ∈ l,g x <= h x) -> (∃ x ∈ l,g x < h x) -> (l.map g).sum < (l.map h).sum
  | [],_,⟨x,hx,_⟩ => nomatch hx
  | a :: l,H,⟨x,hx,lt⟩ => by
    have := H a (by simp)
    simp only [List.map_cons,List.sum_cons]
    rcases List.mem_cons.mp hx with z | z
    · subst z
      have := vy (l := l) fun x hx => H x (List.mem_cons_of_mem _ hx)
      omega
    · have := vw (l := l) (fun x hx => H x (List.mem_cons_of_mem _ hx)) ⟨x,z,lt⟩
      omega
section
variable {c : Nat -> Nat -> Int} {r m : Nat} {f : Nat -> Nat} {t0 : Nat -> Int} {u v : Nat -> Int}
theorem Jb (P : Pot c r m f u v) (h0 : ∀ j,j < m -> v j <= t0 j) {x b : Nat} {st : List (Int × List Nat) × Bool} (g : WgA c r m f t0 st.1) (hx : x < r) (hb : b < m) :
    WgA c r m f t0 (qz c (f x) x st b).1 /\ mea m v (qz c (f x) x st b).1 <= mea m v st.1 /\ ((qz c (f x) x st b).2 = true -> st.2 = true \/ mea m v (qz c (f x) x st b).1 < mea m v st.1) := by
  unfold qz
  by_cases z : tot st.1 (f x) + c x b - c x (f x) < tot st.1 b
  · rw [if_pos z]
    have hl : b < st.1.length := by rw [g.1];exact hb
    have le : ∀ j,tot (st.1.set b (tot st.1 (f x) + c x b - c x (f x),way st.1 (f x) ++ [b])) j <= tot st.1 j := fun j => by
      rw [vf hl]
      by_cases e : j = b
      · rw [if_pos e,e];exact Int.le_of_lt z
      · rw [if_neg e];exact Int.le_refl _
    have gf := g.2 (f x) (P.rng x hx)
    have low := Wg.low P h0 gf
    have st1 := P.step hx hb
    have eb : tot (st.1.set b (tot st.1 (f x) + c x b - c x (f x),way st.1 (f x) ++ [b])) b = tot st.1 (f x) + c x b - c x (f x) := by rw [vf hl,if_pos rfl]
    have lt : mea m v (st.1.set b (tot st.1 (f x) + c x b - c x (f x),way st.1 (f x) ++ [b])) < mea m v st.1 := by
      refine vw (fun j _ => ?_) ⟨b,List.mem_range.mpr hb,?_⟩
      · have := le j
        show (tot _ j - v j).toNat <= (tot st.1 j - v j).toNat
        omega
      · show (tot _ b - v b).toNat < (tot st.1 b - v b).toNat
        rw [eb]
        omega
    refine ⟨⟨by rw [List.length_set];exact g.1,fun j hj => ?_⟩,Nat.le_of_lt lt,fun _ => .inr lt⟩
    by_cases e : j = b
    · subst e
      have ew : way (st.1.set j (tot st.1 (f x) + c x j - c x (f x),way st.1 (f x) ++ [j])) j = way st.1 (f x) ++ [j] := by rw [ZX hl,if_pos rfl]
      rw [ew]
      have ef : ∀ {t : Int},t = tot st.1 (f x) + c x j - c x (f x) -> Wg c r m f t0 (tot (st.1.set j (tot st.1 (f x) + c x j - c x (f x),way st.1 (f x) ++ [j]))) (way st.1 (f x) ++ [j]) j t := fun e => by
        rw [e]
        exact Wg.step (gf.mono le) hx hb (gf.relax P hx hb z) (Int.le_of_eq eb)
      exact ef eb
    · have e1 : tot (st.1.set b (tot st.1 (f x) + c x b - c x (f x),way st.1 (f x) ++ [b])) j = tot st.1 j := by rw [vf hl,if_neg e]
      have e2 : way (st.1.set b (tot st.1 (f x) + c x b - c x (f x),way st.1 (f x) ++ [b])) j = way st.1 j := by rw [ZX hl,if_neg e]
      show Wg c r m f t0 _ (way _ j) j (tot _ j)
      rw [e2]
      have := (g.2 j hj).mono le
      rw [<- e1] at this
      exact this
  · rw [if_neg z]
    exact ⟨g,Nat.le_refl _,fun h => .inl h⟩
theorem wZ (P : Pot c r m f u v) (h0 : ∀ j,j < m -> v j <= t0 j) {x : Nat} {st : List (Int × List Nat) × Bool} (g : WgA c r m f t0 st.1) (hx : x < r) : ∀ {n : Nat},n <= m ->
    WgA c r m f t0 (qM c (f x) x n st).1 /\ mea m v (qM c (f x) x n st).1 <= mea m v st.1 /\ ((qM c (f x) x n st).2 = true -> st.2 = true \/ mea m v (qM c (f x) x n st).1 < mea m v st.1)
  | 0,_ => ⟨g,Nat.le_refl _,fun h => .inl h⟩
  | n + 1,hn => by
    obtain ⟨g1,l1,c1⟩ := wZ P h0 g hx (n := n) (by omega)
    obtain ⟨g2,l2,c2⟩ := Jb P h0 g1 hx (b := n) (by omega)
    rw [jl]
    refine ⟨g2,Nat.le_trans l2 l1,fun h => ?_⟩
    rcases c2 h with z | z
    · rcases c1 z with y | y
      · exact .inl y
      · exact .inr (Nat.lt_of_le_of_lt l2 y)
    · exact .inr (Nat.lt_of_lt_of_le z l1)
theorem xm (P : Pot c r m f u v) (h0 : ∀ j,j < m -> v j <= t0 j) : ∀ {hs : List (Nat × Nat)} {st : List (Int × List Nat) × Bool},(∀ h ∈ hs,h.2 < r /\ h.1 = f h.2) -> WgA c r m f t0 st.1 ->
    WgA c r m f t0 (ql c m hs st).1 /\ mea m v (ql c m hs st).1 <= mea m v st.1 /\ ((ql c m hs st).2 = true -> st.2 = true \/ mea m v (ql c m hs st).1 < mea m v st.1)
  | [],st,_,g => ⟨g,Nat.le_refl _,fun h => .inl h⟩
  | h :: hs,st,H,g => by
    obtain ⟨hx,e⟩ := H h (by simp)
    obtain ⟨g1,l1,c1⟩ := wZ P h0 g hx (n := m) (Nat.le_refl _)
    rw [<- e] at g1 l1 c1
    obtain ⟨g2,l2,c2⟩ := xm P h0 (hs := hs) (fun h hh => H h (List.mem_cons_of_mem _ hh)) g1
    show WgA c r m f t0 (ql c m hs (qM c h.1 h.2 m st)).1 /\ mea m v (ql c m hs (qM c h.1 h.2 m st)).1 <= mea m v st.1 /\ ((ql c m hs (qM c h.1 h.2 m st)).2 = true -> st.2 = true \/ mea m v (ql c m hs (qM c h.1 h.2 m st)).1 < mea m v st.1)
    refine ⟨g2,Nat.le_trans l2 l1,fun q => ?_⟩
    rcases c2 q with z | z
    · rcases c1 z with y | y
      · exact .inl y
      · exact .inr (Nat.lt_of_le_of_lt l2 y)
    · exact .inr (Nat.lt_of_lt_of_le z l1)
theorem Settle.ok (P : Pot c r m f u v) (h0 : ∀ j,j < m -> v j <= t0 j) {hs : List (Nat × Nat)} {bs es : List (Int × List Nat)} (s : Settle c m hs bs es) (H : ∀ h ∈ hs,h.2 < r /\ h.1 = f h.2) (H' : ∀ x,x < r -> (f x,x) ∈ hs) :
    WgA c r m f t0 bs -> WgA c r m f t0 es /\ X3 c r m f (tot es) := by
  induction s with
  | @stop bs e =>
    intro g
    obtain ⟨e1,e2⟩ := xP e
    rw [e1]
    exact ⟨g,fun x hx b hb => e2 (f x,x) (H' x hx) b hb⟩
  | @go bs es e s ih =>
    intro g
    exact ih (xm P h0 H (st := (bs,false)) g).1
theorem WgA.first (c : Nat -> Nat -> Int) (r m : Nat) (f : Nat -> Nat) (t0 : Nat -> Int) : WgA c r m f t0 ((List.range m).map fun j => (t0 j,[j])) := by
  have e : ∀ j,j < m -> ((List.range m).map fun j => (t0 j,[j])).getD j (0,[]) = (t0 j,[j]) := fun j hj => by
    rw [List.getD_eq_getElem?_getD,List.getElem?_map,List.getElem?_range hj]
    rfl
  refine ⟨by rw [List.length_map,List.length_range],fun j hj => ?_⟩
  have e1 : tot ((List.range m).map fun j => (t0 j,[j])) j = t0 j := by unfold tot;rw [e j hj]
  have e2 : way ((List.range m).map fun j => (t0 j,[j])) j = [j] := by unfold way;rw [e j hj]
  rw [e2]
  have : Wg c r m f t0 (tot ((List.range m).map fun j => (t0 j,[j]))) [j] j (t0 j) := .one hj (Int.le_of_eq e1)
  rw [<- e1] at this
  exact this
theorem Jc {k x b : Nat} {st : List (Int × List Nat) × Bool} (hb : b < st.1.length) (j : Nat) : tot (qz c k x st b).1 j <= tot st.1 j := by
  unfold qz
  by_cases z : tot st.1 k + c x b - c x k < tot st.1 b
  · rw [if_pos z]
    show tot (st.1.set b _) j <= _
    rw [vf hb]
    by_cases e : j = b
    · rw [if_pos e,e];exact Int.le_of_lt z
    · rw [if_neg e];exact Int.le_refl _
  · rw [if_neg z];exact Int.le_refl _
theorem ZJ {k x b : Nat} {st : List (Int × List Nat) × Bool} : (qz c k x st b).1.length = st.1.length := by
  unfold qz
  by_cases z : tot st.1 k + c x b - c x k < tot st.1 b
  · rw [if_pos z];exact List.length_set
  · rw [if_neg z]
theorem xl {k x : Nat} {st : List (Int × List Nat) × Bool} : ∀ {n : Nat},(qM c k x n st).1.length = st.1.length
  | 0 => rfl
  | n + 1 => by rw [jl,ZJ];exact xl
theorem Qj {k x : Nat} {st : List (Int × List Nat) × Bool} (j : Nat) : ∀ {n : Nat},n <= st.1.length -> tot (qM c k x n st).1 j <= tot st.1 j
  | 0,_ => Int.le_refl _
  | n + 1,hn => by
    rw [jl]
    exact Int.le_trans (Jc (by rw [xl];exact hn) j) (Qj j (by omega))
theorem vH (j : Nat) : ∀ {hs : List (Nat × Nat)} {st : List (Int × List Nat) × Bool},m <= st.1.length -> tot (ql c m hs st).1 j <= tot st.1 j /\ (ql c m hs st).1.length = st.1.length
  | [],_,_ => ⟨Int.le_refl _,rfl⟩
  | h :: hs,st,hm => by
    obtain ⟨a,b⟩ := vH j (hs := hs) (st := qM c h.1 h.2 m st) (by rw [xl];exact hm)
    exact ⟨Int.le_trans a (Qj j hm),b.trans xl⟩
theorem Settle.le {hs : List (Nat × Nat)} {bs es : List (Int × List Nat)} (s : Settle c m hs bs es) (j : Nat) : m <= bs.length -> tot es j <= tot bs j := by
  induction s with
  | @stop bs e => intro hm;exact (vH j (st := (bs,false)) hm).1
  | @go bs es e s ih =>
    intro hm
    obtain ⟨a,b⟩ := vH (c := c) (m := m) j (hs := hs) (st := (bs,false)) hm
    exact Int.le_trans (ih (by rw [b];exact hm)) a
end
end L2
set_option Elab.async false
set_option linter.all false
namespace L2
def look (hs : List (Nat × Nat)) (k : Nat) : Option Nat := (hs.find? fun h => decide (h.1 = k)).map (·.2)
def va (hs : List (Nat × Nat)) (k x : Nat) : List (Nat × Nat) := if (hs.any fun h => decide (h.1 = k)) = true then hs.map fun h => if h.1 = k then (h.1,x) else h else hs ++ [(k,x)]
theorem Zc (k : Nat) : ∀ hs : List (Nat × Nat),(hs.any fun h => decide (h.1 = k)) = (look hs k).isSome
  | [] => rfl
  | h :: hs => by
    have := Zc k hs
    by_cases e : h.1 = k
    · simp [look,e]
    · simp only [look,List.any_cons,List.find?_cons,e,decide_false,Bool.false_or] at this ⊢
      exact this
theorem Zb (k x j : Nat) : ∀ hs : List (Nat × Nat),look (hs.map fun h => if h.1 = k then (h.1,x) else h) j = if j = k then (look hs j).map (fun _ => x) else look hs j
  | [] => by by_cases e : j = k <;> simp [look,e]
  | h :: hs => by
    have ih := Zb k x j hs
    have s : ∀ (g : Nat × Nat) (gs : List (Nat × Nat)),look (g :: gs) j = if g.1 = j then some g.2 else look gs j := fun g gs => by
      by_cases e : g.1 = j <;> simp [look,e]
    rw [List.map_cons,s,s,ih]
    by_cases e1 : h.1 = k
    · rw [if_pos e1]
      by_cases e2 : j = k
      · have e3 : h.1 = j := e1.trans e2.symm
        simp [e2,e1]
      · have e3 : ¬ h.1 = j := fun z => e2 (z.symm.trans e1)
        simp [e2,e3]
    · rw [if_neg e1]
      by_cases e2 : j = k
      · have e3 : ¬ h.1 = j := fun z => e1 (z.trans e2)
        simp [e2,e1]
      · simp [e2]
theorem Xv (hs : List (Nat × Nat)) (k x j : Nat) : look (va hs k x) j = if j = k then some x else look hs j := by
  have la := Zc k hs
  unfold va
  by_cases h : (hs.any fun h => decide (h.1 = k)) = true
  · rw [if_pos h,Zb]
    rw [h] at la
    by_cases e : j = k
    · rw [if_pos e,if_pos e,e]
      obtain ⟨y,hy⟩ := Option.isSome_iff_exists.mp la.symm
      rw [hy]
      rfl
    · rw [if_neg e,if_neg e]
  · rw [if_neg h]
    have la : (look hs k).isSome = false := by rw [<- la];exact Bool.eq_false_iff.mpr h
    unfold look
    rw [List.find?_append]
    by_cases e : j = k
    · rw [if_pos e]
      subst e
      have n : hs.find? (fun h => decide (h.1 = j)) = none := by
        unfold look at la
        cases q : hs.find? (fun h => decide (h.1 = j)) with
        | none => rfl
        | some y => rw [q] at la;cases la
      rw [n]
      simp
    · rw [if_neg e]
      cases q : hs.find? (fun h => decide (h.1 = j)) with
      | none => simp [Ne.symm e]
      | some y => simp
theorem Xz (hs : List (Nat × Nat)) (k x : Nat) : (hs.map (·.1)).Nodup -> ((va hs k x).map (·.1)).Nodup := by
  intro nd
  unfold va
  by_cases h : (hs.any fun h => decide (h.1 = k)) = true
  · rw [if_pos h,List.map_map]
    have : ((fun h : Nat × Nat => h.1) ∘ fun h : Nat × Nat => if h.1 = k then (h.1,x) else h) = fun h => h.1 := by
      funext g
      show (if g.1 = k then (g.1,x) else g).1 = g.1
      by_cases e : g.1 = k
      · rw [if_pos e]
      · rw [if_neg e]
    rw [this]
    exact nd
  · rw [if_neg h,List.map_append,List.nodup_append]
    refine ⟨nd,by simp,fun a ha b hb e => h ?_⟩
    obtain ⟨g,hg,rfl⟩ := List.mem_map.mp ha
    have : b = k := by simpa using hb
    exact List.any_eq_true.mpr ⟨g,hg,decide_eq_true (e.trans this)⟩
theorem Za {hs : List (Nat × Nat)} (nd : (hs.map (·.1)).Nodup) {k x : Nat} : look hs k = some x ↔ (k,x) ∈ hs := by
  induction hs with
  | nil => simp [look]
  | cons h hs ih =>
    have s : look (h :: hs) k = if h.1 = k then some h.2 else look hs k := by
      by_cases e : h.1 = k <;> simp [look,e]
    rw [List.map_cons,List.nodup_cons] at nd
    rw [s,List.mem_cons]
    by_cases e : h.1 = k
    · rw [if_pos e]
      constructor
      · intro q
        cases q
        exact .inl (by rw [<- e])
      · intro q
        rcases q with q | q
        · rw [<- q]
        · exact absurd (List.mem_map.mpr ⟨(k,x),q,e.symm⟩) nd.1
    · rw [if_neg e,ih nd.2]
      exact ⟨fun q => .inr q,fun q => q.elim (fun z => absurd (by rw [<- z]) e) id⟩
def Hold (hs : List (Nat × Nat)) (r : Nat) (f : Nat -> Nat) : Prop := (hs.map (·.1)).Nodup /\ ∀ k x,look hs k = some x ↔ x < r /\ f x = k
theorem Hold.nil (f : Nat -> Nat) : Hold [] 0 f := ⟨List.nodup_nil,fun k x => ⟨(fun h => nomatch h),fun h => absurd h.1 (Nat.not_lt_zero x)⟩⟩
theorem Hold.mem {hs : List (Nat × Nat)} {r : Nat} {f : Nat -> Nat} (h : Hold hs r f) : (∀ g ∈ hs,g.2 < r /\ g.1 = f g.2) /\ ∀ x,x < r -> (f x,x) ∈ hs := by
  obtain ⟨nd,lk⟩ := h
  refine ⟨fun g hg => ?_,fun x hx => (Za nd).mp ((lk (f x) x).mpr ⟨hx,rfl⟩)⟩
  obtain ⟨a,b⟩ := (lk g.1 g.2).mp ((Za nd).mpr hg)
  exact ⟨a,b.symm⟩
theorem Hold.free {hs : List (Nat × Nat)} {r : Nat} {f : Nat -> Nat} (h : Hold hs r f) {j : Nat} : look hs j = none ↔ ∀ x,x < r -> f x ≠ j := by
  constructor
  · intro e x hx z
    rw [(h.2 j x).mpr ⟨hx,z⟩] at e
    cases e
  · intro e
    cases q : look hs j with
    | none => rfl
    | some x => exact absurd ((h.2 j x).mp q).2 (e x ((h.2 j x).mp q).1)
def cmN (hs : List (Nat × Nat)) (r : Nat) (p : List Nat) (i : Nat) : Nat := if i = 0 then r else (look hs (p.getD (i - 1) 0)).getD 0
def mdN (hs : List (Nat × Nat)) (r : Nat) (p : List Nat) : Nat -> List (Nat × Nat)
  | 0 => hs
  | i + 1 => va (mdN hs r p i) (p.getD i 0) (cmN hs r p i)
theorem y6 {hs : List (Nat × Nat)} (nd : (hs.map (·.1)).Nodup) (r : Nat) (p : List Nat) : ∀ i,((mdN hs r p i).map (·.1)).Nodup
  | 0 => nd
  | i + 1 => Xz _ _ _ (y6 nd r p i)
theorem y4 (hs : List (Nat × Nat)) (r : Nat) {p : List Nat} (pn : p.Nodup) (k : Nat) : ∀ i,i <= p.length -> look (mdN hs r p i) k = if k ∈ p.take i then some (cmN hs r p (p.idxOf k)) else look hs k
  | 0,_ => by simp [mdN]
  | i + 1,hi => by
    have ih := y4 hs r pn k i (by omega)
    have ei : p[i]? = some (p[i]'(by omega)) := List.getElem?_eq_getElem _
    have ed : p.getD i 0 = p[i]'(by omega) := by rw [List.getD_eq_getElem?_getD,ei];rfl
    show look (va (mdN hs r p i) (p.getD i 0) (cmN hs r p i)) k = _
    rw [Xv,ih,ed,List.take_add_one,ei,Option.toList_some]
    by_cases e : k = p[i]'(by omega)
    · rw [if_pos e,if_pos (List.mem_append.mpr (.inr (List.mem_singleton.mpr e)))]
      have : p.idxOf k = i := by rw [e];exact pn.idxOf_getElem i (by omega)
      rw [this]
    · rw [if_neg e]
      by_cases z : k ∈ p.take i
      · rw [if_pos z,if_pos (List.mem_append.mpr (.inl z))]
      · rw [if_neg z,if_neg fun y => (List.mem_append.mp y).elim z fun y => e (List.mem_singleton.mp y)]
section
variable {c : Nat -> Nat -> Int} {r m : Nat} {f : Nat -> Nat} {T : Nat -> Int}
theorem Hold.move {hs : List (Nat × Nat)} (h : Hold hs r f) {p : List Nat} {j : Nat} (C : Ch c r m f (c r) T p j) (hj : ∀ x,x < r -> f x ≠ j) : Hold (mdN hs r p p.length) (r + 1) (qE f r p) := by
  have pn := C.nodup
  have pne := C.rng.2.2
  refine ⟨y6 h.1 r p _,fun k x => ?_⟩
  rw [y4 hs r pn k _ (Nat.le_refl _),List.take_length]
  have hp : 0 < p.length := List.length_pos_iff.mpr pne
  have hd : p.headD 0 = p[0]'hp := by cases p with | nil => exact absurd rfl pne | cons a l => rfl
  have mr : qE f r p r = p[0]'hp := by unfold qE;rw [if_pos rfl,hd]
  have i0 : p.idxOf (p[0]'hp) = 0 := pn.idxOf_getElem 0 hp
  have at_ : ∀ i (hi : i + 1 < p.length),∃ x',x' < r /\ f x' = p[i]'(by omega) /\ look hs (p[i]'(by omega)) = some x' /\ qE f r p x' = p[i + 1]'hi := fun i hi => by
    obtain ⟨x',a1,a2,a3,_⟩ := C.next i _ _ (List.getElem?_eq_getElem (by omega)) (List.getElem?_eq_getElem hi)
    refine ⟨x',a1,a2,(h.2 _ x').mpr ⟨a1,a2⟩,?_⟩
    unfold qE nxt
    rw [if_neg (by omega),a2,if_pos (List.getElem_mem _),pn.idxOf_getElem i (by omega),List.getElem?_eq_getElem hi]
    rfl
  by_cases kp : k ∈ p
  · rw [if_pos kp]
    obtain ⟨i,hi,ek⟩ := List.getElem_of_mem kp
    have ix : p.idxOf k = i := by rw [<- ek];exact pn.idxOf_getElem i hi
    rw [ix]
    cases i with
    | zero =>
      have c0 : cmN hs r p 0 = r := if_pos rfl
      rw [c0]
      constructor
      · intro q
        cases q
        exact ⟨Nat.lt_succ_self _,by rw [mr,<- ek]⟩
      · rintro ⟨hx,q⟩
        by_cases e : x = r
        · rw [e]
        · have hx : x < r := by omega
          by_cases fp : f x ∈ p
          · obtain ⟨b,e1,e2⟩ := qP C hj hx fp
            rw [q] at e2
            subst e2
            have lt := (List.getElem?_eq_some_iff.mp e1).1
            have : p.idxOf k = p.idxOf (f x) + 1 := by
              rw [<- (List.getElem?_eq_some_iff.mp e1).2]
              exact pn.idxOf_getElem _ lt
            omega
          · have : qE f r p x = f x := by unfold qE;rw [if_neg e,if_neg fp]
            rw [this] at q
            exact absurd (q ▸ kp) fp
    | succ i =>
      obtain ⟨x',a1,a2,a3,a4⟩ := at_ i hi
      have c1 : cmN hs r p (i + 1) = x' := by
        unfold cmN
        rw [if_neg (Nat.succ_ne_zero i),Nat.add_sub_cancel,List.getD_eq_getElem?_getD,List.getElem?_eq_getElem (by omega)]
        show (look hs (p[i]'(by omega))).getD 0 = x'
        rw [a3]
        rfl
      rw [c1]
      constructor
      · intro q
        cases q
        exact ⟨by omega,by rw [a4,ek]⟩
      · rintro ⟨hx,q⟩
        by_cases e : x = r
        · subst e
          rw [mr] at q
          have := congrArg p.idxOf q
          rw [i0,ix] at this
          omega
        · have hx : x < r := by omega
          by_cases fp : f x ∈ p
          · obtain ⟨b,e1,e2⟩ := qP C hj hx fp
            rw [q] at e2
            subst e2
            have lt := (List.getElem?_eq_some_iff.mp e1).1
            have e3 : p.idxOf k = p.idxOf (f x) + 1 := by
              rw [<- (List.getElem?_eq_some_iff.mp e1).2]
              exact pn.idxOf_getElem _ lt
            have e4 : p.idxOf (f x) = i := by omega
            have e5 : f x = p[i]'(by omega) := by
              have := xI fp
              rw [e4,List.getElem?_eq_getElem (by omega)] at this
              exact (Option.some.inj this).symm
            have e6 : look hs (f x) = some x := (h.2 _ x).mpr ⟨hx,rfl⟩
            rw [e5,a3] at e6
            exact e6
          · have : qE f r p x = f x := by unfold qE;rw [if_neg e,if_neg fp]
            rw [this] at q
            exact absurd (q ▸ kp) fp
  · rw [if_neg kp,h.2 k x]
    constructor
    · rintro ⟨hx,rfl⟩
      exact ⟨by omega,by unfold qE;rw [if_neg (by omega),if_neg kp]⟩
    · rintro ⟨hx,q⟩
      by_cases e : x = r
      · subst e
        rw [mr] at q
        exact absurd (q ▸ List.getElem_mem hp) kp
      · have hx : x < r := by omega
        by_cases fp : f x ∈ p
        · obtain ⟨b,e1,e2⟩ := qP C hj hx fp
          rw [q] at e2
          subst e2
          exact absurd (List.mem_of_getElem? e1) kp
        · have : qE f r p x = f x := by unfold qE;rw [if_neg e,if_neg fp]
          rw [this] at q
          exact ⟨hx,q⟩
end
end L2
set_option Elab.async false
set_option linter.all false
namespace L2
theorem jU {α : Type} [DecidableEq α] : ∀ {l k : List α},l.Nodup -> (∀ x ∈ l,x ∈ k) -> l.length <= k.length
  | [],_,_,_ => Nat.zero_le _
  | a :: l,k,nd,h => by
    rw [List.nodup_cons] at nd
    have ha := h a (by simp)
    have := jU (l := l) (k := k.erase a) nd.2 fun x hx => by
      have ne : x ≠ a := fun e => nd.1 (e ▸ hx)
      exact (List.mem_erase_of_ne ne).mpr (h x (List.mem_cons_of_mem _ hx))
    rw [List.length_erase_of_mem ha] at this
    have := List.length_pos_of_mem ha
    simp only [List.length_cons]
    omega
section
variable {c : Nat -> Nat -> Int} {r m : Nat} {f : Nat -> Nat} {u v : Nat -> Int}
theorem Zi (f : Nat -> Nat) (h : r < m) : ∃ j,j < m /\ ∀ x,x < r -> f x ≠ j := by
  by_cases z : ∃ j,j < m /\ ∀ x,x < r -> f x ≠ j
  · exact z
  · have : (List.range m).length <= ((List.range r).map f).length := jU List.nodup_range fun j hj => by
      have hj := List.mem_range.mp hj
      by_cases y : ∃ x,x < r /\ f x = j
      · obtain ⟨x,hx,e⟩ := y
        exact List.mem_map.mpr ⟨x,List.mem_range.mpr hx,e⟩
      · exact absurd ⟨j,hj,fun x hx e => y ⟨x,hx,e⟩⟩ z
    rw [List.length_range,List.length_map,List.length_range] at this
    omega
theorem Pot.more (P : Pot c r m f u v) (hc : ∀ j,j < m -> 0 <= c r j) {hs : List (Nat × Nat)} (h : Hold hs r f) {es : List (Int × List Nat)} (s : Settle c m hs ((List.range m).map fun j => (c r j,[j])) es) {j : Nat} (jm : j < m) (hj : look hs j = none)
    (best : ∀ b,b < m -> look hs b = none -> tot es j <= tot es b) : ∃ f' u' v',Pot c (r + 1) m f' u' v' /\ Hold (mdN hs r (way es j) (way es j).length) (r + 1) f' /\ Ch c r m f (c r) (tot es) (way es j) j := by
  obtain ⟨h1,h2⟩ := h.mem
  have h0 : ∀ j,j < m -> v j <= c r j := fun j hj => Int.le_trans (P.neg j hj) (hc j hj)
  obtain ⟨g,st⟩ := s.ok P h0 h1 h2 (WgA.first c r m f (c r))
  have C := (g.2 j jm).ch st rfl
  have fj := h.free.mp hj
  refine ⟨_,_,_,P.augment st (fun b hb => ?_) C fj jm fun b hb fb => best b hb (h.free.mpr fb),h.move C fj,C⟩
  have := s.le b (by rw [List.length_map,List.length_range];exact Nat.le_refl _)
  refine Int.le_trans this (Int.le_of_eq ?_)
  unfold tot
  rw [List.getD_eq_getElem?_getD,List.getElem?_map,List.getElem?_range hb]
  rfl
end
def xQ (g : Nat -> Nat) (n : Nat) : Nat := ((List.range n).map fun x => 2 ^ g x).sum
theorem vO (g : Nat -> Nat) (n : Nat) : xQ g (n + 1) = xQ g n + 2 ^ g n := by
  unfold xQ
  rw [List.range_succ,List.map_append,List.sum_append]
  simp
theorem VP {M a : Nat} (h : M / 2 ^ a % 2 = 0) (k : Nat) : (M + 2 ^ a) / 2 ^ k % 2 = if k = a then 1 else M / 2 ^ k % 2 := by
  have pa : 0 < 2 ^ a := Nat.two_pow_pos a
  by_cases e : k = a
  · subst e
    rw [if_pos rfl,Nat.add_div_right _ pa]
    omega
  · rw [if_neg e]
    rcases Nat.lt_or_ge k a with z | z
    · have e1 : 2 ^ a = 2 ^ k * (2 * 2 ^ (a - k - 1)) := by
        rw [<- Nat.pow_succ',<- Nat.pow_add]
        congr 1
        omega
      rw [e1,Nat.add_mul_div_left _ _ (Nat.two_pow_pos k)]
      omega
    · have e1 : 2 ^ k = 2 ^ a * (2 * 2 ^ (k - a - 1)) := by
        rw [<- Nat.pow_succ',<- Nat.pow_add]
        congr 1
        omega
      rw [e1,<- Nat.div_div_eq_div_mul,<- Nat.div_div_eq_div_mul,Nat.add_div_right _ pa,<- Nat.div_div_eq_div_mul,<- Nat.div_div_eq_div_mul]
      have : (M / 2 ^ a).succ / 2 = M / 2 ^ a / 2 := by omega
      rw [this]
theorem y9 {g : Nat -> Nat} : ∀ {n : Nat},(∀ x,x < n -> ∀ y,y < n -> g x = g y -> x = y) -> ∀ k,((∃ x,x < n /\ g x = k) -> xQ g n / 2 ^ k % 2 = 1) /\ ((∀ x,x < n -> g x ≠ k) -> xQ g n / 2 ^ k % 2 = 0)
  | 0,_,k => ⟨fun ⟨x,hx,_⟩ => absurd hx (Nat.not_lt_zero x),fun _ => by simp [xQ]⟩
  | n + 1,inj,k => by
    have ih := y9 (g := g) (n := n) fun x hx y hy => inj x (by omega) y (by omega)
    have hn := (ih (g n)).2 fun x hx e => by
      have := inj x (by omega) n (by omega) e
      omega
    rw [vO,VP hn k]
    refine ⟨fun ⟨x,hx,e⟩ => ?_,fun h => ?_⟩
    · by_cases z : k = g n
      · rw [if_pos z]
      · rw [if_neg z]
        refine (ih k).1 ⟨x,?_,e⟩
        have : x ≠ n := fun y => z (by rw [<- e,y])
        omega
    · rw [if_neg fun z => h n (by omega) z.symm]
      exact (ih k).2 fun x hx => h x (by omega)
def SndM (c : Nat -> Nat -> Int) (m n M : Nat) (t : Int) : Prop := ∃ g : Nat -> Nat,(∀ x,x < n -> g x < m) /\ (∀ x,x < n -> ∀ y,y < n -> g x = g y -> x = y) /\ M = xQ g n /\ t = qd n fun x => c x (g x)
theorem SndM.zero (c : Nat -> Nat -> Int) (m : Nat) : SndM c m 0 0 0 := ⟨fun _ => 0,fun x h => absurd h (Nat.not_lt_zero x),fun x h => absurd h (Nat.not_lt_zero x),rfl,rfl⟩
theorem SndM.next {c : Nat -> Nat -> Int} {m n M k : Nat} {t : Int} (s : SndM c m n M t) (hk : k < m) (hb : M / 2 ^ k % 2 = 0) : SndM c m (n + 1) (M + 2 ^ k) (t + c n k) := by
  obtain ⟨g,g1,g2,rfl,rfl⟩ := s
  have nk : ∀ x,x < n -> g x ≠ k := fun x hx e => by
    have := (y9 g2 k).1 ⟨x,hx,e⟩
    omega
  have gx : ∀ x,x < n -> (if x = n then k else g x) = g x := fun x hx => if_neg (by omega)
  refine ⟨fun x => if x = n then k else g x,fun x hx => ?_,fun x hx y hy e => ?_,?_,?_⟩
  · by_cases z : x = n
    · simp only [z,if_true];exact hk
    · simp only [z,if_false];exact g1 x (by omega)
  · by_cases z : x = n
    · by_cases w : y = n
      · omega
      · simp only [z,w,if_true,if_false] at e
        exact absurd e.symm (nk y (by omega))
    · by_cases w : y = n
      · simp only [z,w,if_true,if_false] at e
        exact absurd e (nk x (by omega))
      · simp only [z,w,if_false] at e
        exact g2 x (by omega) y (by omega) e
  · rw [vO]
    simp only [if_true]
    congr 1
    unfold xQ
    congr 1
    refine List.map_congr_left fun x hx => ?_
    have hx := List.mem_range.mp hx
    show 2 ^ g x = 2 ^ (if x = n then k else g x)
    rw [gx x hx]
  · rw [qe]
    simp only [if_true]
    congr 1
    exact jQ n fun x hx => by rw [if_neg (by omega)]
end L2
set_option Elab.async false
set_option linter.all false
set_option maxRecDepth 100000
set_option maxHeartbeats 4000000
namespace L2
open PySem PySem.Spec PyProof.Rows
def zp (i : Nat) : Stmt := PySem.Challenge.pw_pickboard_k34_matchings_spoilt_anywhere.main.body.getD i (.Pass ⟨0,0,0,0⟩)
structure Blt (mg : Str -> Option Value) : Prop where
  abs : mg "abs" = none
  all : mg "all" = none
  divmod : mg "divmod" = none
  enumerate : mg "enumerate" = none
  int : mg "int" = none
  isinstance : mg "isinstance" = none
  len : mg "len" = none
  list : mg "list" = none
  max : mg "max" = none
  min : mg "min" = none
  range : mg "range" = none
  str : mg "str" = none
  tuple : mg "tuple" = none
  bool : mg "bool" = none
  zip : mg "zip" = none
  sum : mg "sum" = none
  any : mg "any" = none
  repr : mg "repr" = none
  sorted : mg "sorted" = none
  dict : mg "dict" = none
  set : mg "set" = none
theorem Zv : bootBuiltins "abs" = some (.builtin "abs") := by decide +kernel
theorem XY : bootBuiltins "max" = some (.builtin "max") := by decide +kernel
theorem Zt : bootBuiltins "min" = some (.builtin "min") := by decide +kernel
theorem Zu : bootBuiltins "divmod" = some (.builtin "divmod") := by decide +kernel
theorem xy : bootBuiltins "int" = some (.type "int") := by decide +kernel
theorem zM : bootBuiltins "list" = some (.type "list") := by decide +kernel
theorem qt : bootBuiltins "tuple" = some (.type "tuple") := by decide +kernel
theorem xx : bootBuiltins "str" = some (.type "str") := by decide +kernel
theorem jZ : bootBuiltins "bool" = some (.type "bool") := by decide +kernel
theorem Zr : bootBuiltins "sorted" = some (.builtin "sorted") := by decide +kernel
theorem Zs : bootBuiltins "set" = some (.type "set") := by decide +kernel
theorem Jz : bootBuiltins "dict" = some (.type "dict") := by decide +kernel
def JB (i : Int) : Int := if i < 0 then -i else i
end L2
set_option Elab.async false
set_option linter.all false
set_option maxRecDepth 100000
set_option maxHeartbeats 4000000
namespace L2
open PySem PySem.Spec PyProof.Rows
def BoxAt (H : Hp) (b : Addr) (n : Int) : Prop := ∃ b0 b1 b2 : Int,H b = some (.lst [.int b0,.int b1,.int b2]) /\ 0 <= b0 /\ 0 <= b1 /\ b1 < 2147483648 /\ 0 <= b2 /\ b2 <= n
def SameB (b : Addr) (H H' : Hp) : Prop := ∀ c o,H c = some o -> c ≠ b -> H' c = some o
theorem xU {i j : Int} (h1 : 0 <= i) (h2 : i < 18446744073709551616) : CMul i j := by
  have e1 : (-(2 ^ 64) : Int) = -18446744073709551616 := by decide
  have e2 : ((2 ^ 64) : Int) = 18446744073709551616 := by decide
  refine .inl ⟨?_,?_⟩
  · rw [e1];omega
  · rw [e2];exact h2
theorem Wf {a m j : Int} (h : 0 < m) (h2 : m < 18446744073709551616) : CMul (a % m) j := xU (Int.emod_nonneg _ (by omega)) (Int.lt_trans (Int.emod_lt_of_pos _ h) h2)
section
variable {P : Program} {w : World} {K : PySem.W.Frag} {mg : Str -> Option Value} {base : Heap}
inductive yH (vs : List V) (H : Hp) (Q : VK) : Prop
  | mk (b : Addr) (size n : Int) (_ : vs = [.ref b,.int size]) (_ : BoxAt H b n) (_ : n < 1099511627776) (_ : 0 < size) (_ : size < 1073741824) (_ : ∀ (r : Int) H',0 <= r -> r < size -> BoxAt H' b (n + 1) -> SameB b H H' -> Q (.int r) H') : yH  vs H Q
def je : Sp := fun vs H Q _ => yH  vs H Q
theorem JX : zH ["_law_box_here", "_law_size", "_law_found", "_law_step", "_law_once", "_law_twice"] ["_law_box_here", "_law_size"] (zo (zp 20)) := ⟨rfl,rfl,rfl,by decide +kernel,rfl,by decide +kernel,by decide +kernel⟩
theorem Vr {f : Addr} {fd : FuncData} (F : Fun K "_law_take" "_law_take" (zp 20) f fd) (B : Blt mg) : FnOk P w K mg base CX0 1 f fd ["_law_box_here", "_law_size"] je := by
  have nd := JX.nd
  refine F.ok JX (fun vs H Q E h => ?_) (fun cdv A outer s H vs Q E hr h => ?_)
  · obtain ⟨b,size,n,rfl,_⟩ := h
    rfl
  · obtain ⟨b,size,n,rfl,⟨b0,b1,b2,hb,p0,p1,p1',p2,p2'⟩,hn,hs0,hs1,k⟩ := h
    refine ⟨_,(zn (qg (zQ wE (zJ zG (pv 0) zj (fun _ _ => rfl)) zj (zI _))
      (zn (qX (zk Zp rfl B.divmod Zu (ze (zJ zG (pv 0) zj (fun _ _ => rfl)) (ze (pv 1) zg))) (qN rfl (zK (jr (pv 0) zj qI) (zK (zV (i := 2) nd rfl (Or.inl rfl)) qC))))
        (zu (zA (pv 2))))
      zU)
      (zn (qX (zE z0 (zJ zG (pv 0) zj (fun _ _ => rfl)) zj) (jr (pv 0) zj qI))
      (zn (zL (i := 3) nd rfl (Or.inl rfl) (zE z0 zj (zE jw (zJ zG (pv 0) zj (fun _ _ => rfl)) (zJ zG (pv 0) zj (fun _ _ => rfl)))))
      (zn (zL (i := 4) nd rfl (Or.inl rfl) (zE ji (zE jw (zE z0 (zJ zG (pv 0) zj (fun _ _ => rfl)) (zE jw zj (zJ zG (pv 0) zj (fun _ _ => rfl)))) (pv 3)) zj))
      (zn (zL (i := 5) nd rfl (Or.inl rfl) (zE ji (zE z0 (zE jw (pv 4) (zE z0 (zE ji (pv 4) zj) zj)) (zJ zG (pv 0) zj (fun _ _ => rfl))) zj))
      (zu (zA (zE ji (zE Vo (zE ji (zE jw (pv 5) (zE z0 (zE ji (pv 5) zj) zj)) zj) zj) (pv 1))))))))),?_⟩
    refine ⟨_,rfl,b,_,_,_,rfl,rfl,SqL.of hb,rfl,_,_,rfl,rfl,_,rfl,?_⟩
    refine qb (fun c => ?_) (fun c => ?_)
    · refine ⟨_,rfl,b,_,_,_,rfl,rfl,SqL.of hb,rfl,_,rfl,_,_,rfl,⟨hs0,hs1⟩,fun p hp => ?_⟩
      have hbp : b ≠ p := zr hb hp
      refine ⟨p,_,rfl,SqT.of zi,rfl,_,_,rfl,_,rfl,b,_,_,_,rfl,rfl,(by rw [zw hbp];exact hb),rfl,_,_,rfl,rfl,_,rfl,?_⟩
      refine k _ _ (Int.emod_nonneg _ (by omega)) (Int.emod_lt_of_pos _ hs0) ⟨_,b1,b2,zi,Int.ediv_nonneg p0 (by omega),p1,p1',p2,by omega⟩ fun d o e hd => ?_
      rw [zw hd,zw (zr e hp)]
      exact e
    · refine ⟨_,rfl,b,_,_,_,rfl,rfl,SqL.of hb,rfl,_,_,rfl,rfl,_,rfl,b,_,_,_,rfl,rfl,hb,rfl,?_⟩
      have hb1 : upd H b (.lst [.int b0,.int b1,.int (b2 + 1)]) b = some (.lst [.int b0,.int b1,.int (b2 + 1)]) := zi
      refine ⟨_,rfl,b,_,_,_,rfl,rfl,SqL.of hb1,rfl,_,rfl,b,_,_,_,rfl,rfl,SqL.of hb1,rfl,_,_,rfl,rfl,xU (by omega) (by omega),_,_,rfl,rfl,?_⟩
      refine ⟨_,rfl,b,_,_,_,rfl,rfl,SqL.of hb1,rfl,_,rfl,b,_,_,_,rfl,rfl,SqL.of hb1,rfl,_,_,rfl,rfl,xU (by omega) (by omega),_,_,rfl,rfl,_,rfl,_,_,rfl,rfl,xU (by omega) (by omega),_,_,rfl,rfl,(by show (0 : Int) < _;decide),?_⟩
      refine ⟨_,rfl,_,rfl,_,_,rfl,rfl,(by show (0 : Int) < _;decide),_,_,rfl,rfl,_,_,rfl,rfl,Wf (by decide) (by decide),_,rfl,b,_,_,_,rfl,rfl,SqL.of hb1,rfl,_,_,rfl,rfl,_,_,rfl,rfl,(by show (0 : Int) < _;decide),?_⟩
      refine ⟨_,rfl,_,rfl,_,_,rfl,rfl,(by show (0 : Int) < _;decide),_,_,rfl,rfl,_,_,rfl,rfl,Wf (by decide) (by decide),_,_,rfl,rfl,(by show (0 : Int) < _;decide),_,_,rfl,rfl,⟨by decide,by decide⟩,_,rfl,_,_,rfl,rfl,hs0,?_⟩
      refine k _ _ (Int.emod_nonneg _ (by omega)) (Int.emod_lt_of_pos _ hs0) ⟨b0,b1,b2 + 1,hb1,p0,p1,p1',by omega,by omega⟩ fun d o e hd => ?_
      rw [zw hd]
      exact e
inductive Qf (K : PySem.W.Frag) (vs : List V) (H : Hp) (Q : VK) : Prop
  | mk (a : Addr) (ns : List Int) (j : Nat) (_ : vs = [.ref a,.int j]) (_ : SqL K H a (ns.map V.int)) (_ : j <= 100) (_ : ∀ p o,H p = none -> BoxAt (upd H p o) p 0 -> Q (.ref p) (upd H p o)) : Qf K vs H Q
def JU (K : PySem.W.Frag) : Sp := fun vs H Q _ => Qf K vs H Q
theorem V4 : zH ["_law_script", "_law_k", "_law_cell"] ["_law_script", "_law_k"] (zo (zp 19)) := ⟨rfl,rfl,rfl,by decide +kernel,rfl,by decide +kernel,by decide +kernel⟩
theorem QF {c : Int} {j : Nat} (hj : j <= 100) : CMul (JB c) (if decide (10 ^ 18 <= JB c) = true then 1 else 0) := by
  refine .inr ?_
  split
  · exact ⟨by decide,by decide⟩
  · exact ⟨by decide,by decide⟩
theorem XX {c : Int} : 0 <= JB c * (if decide (10 ^ 18 <= JB c) = true then 1 else 0) := by
  have h : 0 <= JB c := by unfold JB;split <;> omega
  split
  · rw [Int.mul_one];exact h
  · rw [Int.mul_zero];exact Int.le_refl 0
theorem WO {f : Addr} {fd : FuncData} (F : Fun K "_law_box" "_law_box" (zp 19) f fd) (B : Blt mg) : FnOk P w K mg base CX0 1 f fd ["_law_script", "_law_k"] (JU K) := by
  have nd := V4.nd
  refine F.ok V4 (fun vs H Q E h => ?_) (fun cdv A outer s H vs Q E hr h => ?_)
  · obtain ⟨a,ns,j,rfl,_⟩ := h
    rfl
  · obtain ⟨a,ns,j,rfl,hS,hj,k⟩ := h
    refine ⟨_,(zn (zL (i := 2) nd rfl (Or.inl rfl) (jn (zQ Xn (pv 1) (zk zx rfl B.len boot_len (ze (pv 0) zg)) (zI _)) (zJ zG (pv 0) (pv 1) (fun _ _ => rfl)) zj))
      (zu (zA (qF (ze (zE jw (zk Zq rfl B.abs Zv (ze (pv 2) zg)) (zW Jx rfl B.int xy (ze (qh YD (zk Zq rfl B.abs Zv (ze (pv 2) zg)) (zE ZM zj zj) (zI _)) zg))) (ze (zE ji (zE jw (zE z0 (zE z0 (zE ji (pv 2) zj) (zE jw zj (pv 1))) zj) zj) zj) (ze zj zg))))))),?_⟩
    refine ⟨_,rfl,_,rfl,a,_,rfl,.inl hS,_,_,rfl,rfl,_,rfl,?_⟩
    refine qb (fun c => ?_) (fun c => ?_)
    · have hl : j < ns.length := by
        have := of_decide_eq_true c
        rw [List.length_map] at this
        omega
      refine ⟨_,rfl,_,rfl,a,_,_,.int ns[j],rfl,rfl,hS,zR (by simp [hl]),?_⟩
      generalize ns[j] = z
      refine ⟨_,rfl,_,rfl,_,rfl,_,rfl,_,_,rfl,rfl,⟨by decide,by decide,by decide⟩,_,_,rfl,rfl,.inr ⟨_,rfl,_,_,rfl,rfl,QF hj,_,rfl,_,_,rfl,rfl,(by show (0 : Int) < _;decide),_,rfl,_,_,rfl,rfl,xU (by decide) (by decide),_,_,rfl,rfl,_,_,rfl,rfl,_,_,rfl,rfl,?_,_,_,rfl,rfl,(by show (0 : Int) < _;decide),(by rw [sizeLine_eq];exact (by decide : 3 <= 16777216)),fun p hp => k p _ hp ⟨_,_,_,zi,?_,?_,?_,by decide,by decide⟩⟩⟩
      · refine xU ?_ ?_
        · have := Int.emod_nonneg z (show (2147483629 : Int) ≠ 0 by decide)
          omega
        · have := Int.emod_lt_of_pos z (show (0 : Int) < 2147483629 by decide)
          omega
      · exact XX
      · exact Int.emod_nonneg _ (by decide)
      · exact Int.lt_trans (Int.emod_lt_of_pos _ (by decide)) (by decide)
    · refine ⟨_,rfl,_,rfl,_,rfl,_,rfl,_,_,rfl,rfl,⟨by decide,by decide,by decide⟩,_,_,rfl,rfl,.inr ⟨_,rfl,_,_,rfl,rfl,QF hj,_,rfl,_,_,rfl,rfl,(by show (0 : Int) < _;decide),_,rfl,_,_,rfl,rfl,xU (by decide) (by decide),_,_,rfl,rfl,_,_,rfl,rfl,_,_,rfl,rfl,?_,_,_,rfl,rfl,(by show (0 : Int) < _;decide),(by rw [sizeLine_eq];exact (by decide : 3 <= 16777216)),fun p hp => k p _ hp ⟨_,_,_,zi,?_,?_,?_,by decide,by decide⟩⟩⟩
      · refine xU ?_ ?_
        · have := Int.emod_nonneg 0 (show (2147483629 : Int) ≠ 0 by decide)
          omega
        · have := Int.emod_lt_of_pos 0 (show (0 : Int) < 2147483629 by decide)
          omega
      · exact XX
      · exact Int.emod_nonneg _ (by decide)
      · exact Int.lt_trans (Int.emod_lt_of_pos _ (by decide)) (by decide)
end
end L2
set_option Elab.async false
set_option linter.all false
set_option maxRecDepth 100000
set_option maxHeartbeats 4000000
namespace L2
open PySem PySem.Spec PyProof.Rows
theorem Zl {xs : List V} {lo hi : Option Int} {x : V} (h : x ∈ qx xs lo hi) : x ∈ xs := List.mem_of_mem_drop (List.mem_of_mem_take h)
theorem Qx {n j : Nat} (h : j < n) : ixN n (j : Int) = some j := by
  unfold ixN
  rw [if_pos (by omega),if_pos (by omega)];simp
theorem XS (ns : List Int) (lo hi : Option Int) : ∃ ms : List Int,qx (ns.map V.int) lo hi = ms.map V.int := by
  refine ⟨(ns.drop (HT.sIx ns.length 0 lo)).take (HT.sIx ns.length ns.length hi - HT.sIx ns.length 0 lo),?_⟩
  unfold qx
  rw [List.length_map,List.map_take,List.map_drop]
theorem VL (ns : List Int) (z : Nat) : (qx (ns.map V.int) none (some (z : Int))).length = min z ns.length := by
  unfold qx
  rw [HT.sIx_nat,HT.sIx_none,List.length_take,List.length_drop,List.length_map]
  omega
theorem VM (ns : List Int) (z : Nat) (hi : Option Int) : (qx (ns.map V.int) (some (z : Int)) hi).length <= ns.length - min z ns.length := by
  unfold qx
  rw [HT.sIx_nat,List.length_take,List.length_drop,List.length_map]
  omega
section
variable {P : Program} {w : World} {K : PySem.W.Frag} {mg : Str -> Option Value} {base : Heap}
inductive yL (K : PySem.W.Frag) (vs : List V) (H : Hp) (Q : VK) : Prop
  | mk (a : Addr) (ns : List Int) (z : Nat) (_ : vs = [.ref a,.int z]) (_ : SqL K H a (ns.map V.int)) (_ : ns.length <= 63) (_ : 1 <= z) (_ : z <= 63) (_ : ∀ (p : Addr) (ms : List Int) H',Same H H' -> SqL K H' p (ms.map V.int) -> ms.length <= z -> Q (.ref p) H') : yL K vs H Q
def ZG (K : PySem.W.Frag) : Sp := fun vs H Q _ => yL K vs H Q
theorem J3 : zH ["_law_script", "_law_size", "_law_cells", "_law_k", "_law_cell"] ["_law_script", "_law_size"] (zo (zp 21)) := ⟨rfl,rfl,rfl,by decide +kernel,rfl,by decide +kernel,by decide +kernel⟩
def QW (a : _) (z : Nat) (p : _) (H : _) (q : _) (ns : List Int) := fun (i : Nat) (σ : St) (H2 : Hp) => (Ex3 fun (ms : List Int) (v3 v4 : Option V) => An5 (σ = [some (.ref a),some (.int z),some (.ref p),v3,v4]) (Same H H2) (H2 p = some (.lst (ms.map V.int))) (H2 q = some (.lst (qx (ns.map V.int) (some (z : Int)) (some 63)))) (ms.length = min z ns.length) : Prop)
theorem Vt {f : Addr} {fd : FuncData} (F : Fun K "_law_folded" "_law_folded" (zp 21) f fd) (B : Blt mg) : FnOk P w K mg base CX0 1 f fd ["_law_script", "_law_size"] (ZG K) := by
  have nd := J3.nd
  refine F.ok J3 (fun vs H Q E h => ?_) (fun cdv A outer s H vs Q E hr h => ?_)
  · obtain ⟨a,ns,z,rfl,_⟩ := h
    rfl
  · obtain ⟨a,ns,z,rfl,hS,hlen,hz1,hz2,k⟩ := h
    refine ⟨_,(zn (zL (i := 2) nd rfl (Or.inl rfl) (zW qr rfl B.list zM (ze (qA qH (pv 0) jb (qo (pv 1))) zg)))
      (zn (jg PassesOwn.never rfl (jc rfl B.enumerate (ze (qA qH (pv 0) (qo (pv 1)) (qo zj)) zg)) (qN rfl (zK (zV (i := 3) nd rfl (Or.inl rfl)) (zK (zV (i := 4) nd rfl (Or.inl rfl)) qC)))
      (zu (qX (zE z0 (zJ zG (pv 2) (zE ji (pv 3) (pv 1)) (fun _ _ => rfl)) (zE jw (pv 4) (zE z0 (pv 3) zj))) (jr (pv 2) (zE ji (pv 3) (pv 1)) qI))))
      (zu (zA (pv 2))))),?_⟩
    refine ⟨_,rfl,_,rfl,_,rfl,a,_,rfl,hS,fun l hl => ⟨l,_,rfl,.inl (SqL.of zi),fun p hp => ?_⟩⟩
    have s1 : Same H (upd (upd H l (.lst (qx (ns.map V.int) none (some (z : Int))))) p (.lst (qx (ns.map V.int) none (some (z : Int))))) := (zf hl).trans (zf hp)
    generalize hH1 : upd (upd H l (.lst (qx (ns.map V.int) none (some (z : Int))))) p (.lst (qx (ns.map V.int) none (some (z : Int)))) = H1 at s1
    have hp1 : H1 p = some (.lst (qx (ns.map V.int) none (some (z : Int)))) := by rw [<- hH1];exact zi
    have np : H p = none := (zf hl).free hp
    refine ⟨_,rfl,_,rfl,_,rfl,_,rfl,a,_,rfl,s1.seq hS,fun q hq => ⟨q,rfl,⟨_,SqL.of zi⟩,?_⟩⟩
    have npq : p ≠ q := zr hp1 hq
    obtain ⟨ms0,hms0⟩ := XS ns none (some (z : Int))
    have lo := VL ns z
    have hi := VM ns z (some 63)
    refine vR (K := K) (a := q) (xs := qx (ns.map V.int) (some (z : Int)) (some 63)) (QW a z p H q ns)
      ⟨ms0,none,none,rfl,s1.trans (zf hq),by rw [zw npq,hp1,hms0],zi,by rw [<- lo,hms0,List.length_map]⟩ (fun i σ H2 _ ⟨_,_,_,_,_,_,h,_⟩ => SqL.of h) ?_ ?_
    · rintro i x σ H2 T hx ⟨ms,v3,v4,rfl,sm,hp2,hq2,hml⟩ hT
      have hil : i < (qx (ns.map V.int) (some (z : Int)) (some 63)).length := (List.getElem?_eq_some_iff.mp hx).1
      obtain ⟨c,rfl⟩ : ∃ c,x = V.int c := by
        have := Zl (List.mem_of_getElem? hx)
        obtain ⟨c,_,e⟩ := List.mem_map.mp this
        exact ⟨c,e.symm⟩
      have hj : i % z < ms.length := by
        have := Nat.mod_lt i (show 0 < z by omega)
        omega
      have npT : p ≠ T := zr hp2 hT
      have nqT : q ≠ T := zr hq2 hT
      have hp3 : upd H2 T (.tup [.int i,.int c]) p = some (.lst (ms.map V.int)) := by rw [zw npT];exact hp2
      have em : ((i % z : Nat) : Int) = (i : Int) % (z : Int) := Int.natCast_emod i z
      have hz0 : (0 : Int) < (z : Int) := by omega
      refine ⟨T,_,rfl,SqT.of zi,rfl,_,_,rfl,_,_,rfl,rfl,?_⟩
      refine ⟨_,rfl,_,rfl,_,rfl,_,_,rfl,rfl,hz0,p,_,_,.int ms[i % z],rfl,rfl,SqL.of hp3,(by rw [<- em];exact zR (by simp [hj])),?_⟩
      refine ⟨_,rfl,_,rfl,_,_,rfl,rfl,_,_,rfl,rfl,.inr ⟨?_,?_⟩,_,_,rfl,rfl,?_⟩
      · have e1 : (-(2 ^ 64) : Int) = -18446744073709551616 := by decide
        rw [e1];omega
      · have e2 : ((2 ^ 64) : Int) = 18446744073709551616 := by decide
        rw [e2];omega
      refine ⟨_,rfl,_,rfl,_,rfl,_,_,rfl,rfl,hz0,p,_,_,i % z,rfl,rfl,hp3,(by rw [<- em,List.length_map];exact Qx hj),?_⟩
      refine ⟨ms.set (i % z) (ms[i % z] + c * ((i : Int) + 2)),_,_,rfl,fun d o e => ?_,by rw [zi,List.map_set],?_,by rw [List.length_set];exact hml⟩
      · rw [zw (zr e np),zw (zr (sm d o e) hT)]
        exact sm d o e
      · rw [zw (Ne.symm npq),zw nqT]
        exact hq2
    · rintro σ H2 ⟨ms,v3,v4,rfl,sm,hp2,hq2,hml⟩
      exact ⟨_,rfl,k p ms H2 sm (SqL.of hp2) (by omega)⟩
end
end L2
set_option Elab.async false
set_option linter.all false
set_option maxRecDepth 100000
set_option maxHeartbeats 4000000
namespace L2
open PySem PySem.Spec PyProof.Rows
def hsV (hs : List (Nat × Nat)) : List (Key × V) := hs.map fun h => (Sum.inl (h.1 : Int),.int (h.2 : Int))
def enW (q : Int × List Nat) : Int × List Int := (q.1,q.2.map fun (n : Nat) => (n : Int))
def CsAt (H : Hp) (a : Addr) (c : Nat -> Nat -> Int) (n m : Nat) : Prop := ∃ zs,H a = some (.lst zs) /\ zs.length = n /\ ∀ x,x < n -> ∃ A,zs[x]? = some (.ref A) /\ H A = some (.lst ((List.range m).map fun j => V.int (c x j)))
theorem CsAt.same {H H' : Hp} {a : Addr} {c : Nat -> Nat -> Int} {n m : Nat} (h : CsAt H a c n m) (s : Same H H') : CsAt H' a c n m := by
  obtain ⟨zs,e1,e2,e3⟩ := h
  exact ⟨zs,s _ _ e1,e2,fun x hx => let ⟨A,a1,a2⟩ := e3 x hx;⟨A,a1,s _ _ a2⟩⟩
theorem JF {H : Hp} {zs : List V} {bs : List (Int × List Nat)} (h : WkR H zs (bs.map enW)) {k : Nat} (hk : k < bs.length) : ∃ T U,zs[k]? = some (.ref T) /\ H T = some (.tup [.int (tot bs k),.ref U]) /\ H U = some (.tup ((way bs k).map fun (n : Nat) => V.int (n : Int))) := by
  have e : bs[k]? = some (bs[k]'hk) := List.getElem?_eq_getElem _
  obtain ⟨T,U,e1,e2,e3⟩ := h.2 k (enW (bs[k]'hk)) (by rw [List.getElem?_map,e];rfl)
  have d : bs.getD k (0,[]) = bs[k]'hk := by rw [List.getD_eq_getElem?_getD,e];rfl
  refine ⟨T,U,e1,?_,?_⟩
  · unfold tot;rw [d];exact e2
  · unfold way;rw [d,e3]
    show some (HO.tup (((bs[k]'hk).2.map fun (n : Nat) => (n : Int)).map V.int)) = _
    rw [List.map_map]
    rfl
theorem ZY {c : Nat -> Nat -> Int} {r m : Nat} {f : Nat -> Nat} {t0 : Nat -> Int} {bs : List (Int × List Nat)} (g : WgA c r m f t0 bs) {k : Nat} (hk : k < m) : way bs k ≠ [] /\ (way bs k).length <= m := by
  have w := g.2 k hk
  obtain ⟨h1,h2⟩ := w.rng
  refine ⟨List.ne_nil_of_mem h2,?_⟩
  have := jU (k := List.range m) w.nodup fun x hx => List.mem_range.mpr (h1 x hx)
  rwa [List.length_range] at this
theorem WkR.tups {H H' : Hp} {zs : List V} {ps : List (Int × List Int)} (h : WkR H zs ps) (s : ∀ b ys,H b = some (.tup ys) -> H' b = some (.tup ys)) : WkR H' zs ps := ⟨h.1,fun j k e => let ⟨T,U,a,b,c⟩ := h.2 j k e;⟨T,U,a,s _ _ b,s _ _ c⟩⟩
section
variable {P : Program} {w : World} {K : PySem.W.Frag} {mg : Str -> Option Value} {base : Heap}
inductive Z9 (vs : List V) (H : Hp) (Q : VK) : Prop
  | mk (a d wa : Addr) (o : Obj) (zs : List V) (c : Nat -> Nat -> Int) (n m r : Nat) (f : Nat -> Nat) (u v t0 : Nat -> Int) (hs : List (Nat × Nat)) (bs : List (Int × List Nat)) (_ : vs = [.ref a,.ref d,.ref wa]) (_ : CsAt H a c n m) (_ : H d = some (.frz o (.dK (hsV hs)))) (_ : H wa = some (.lst zs)) (_ : WkR H zs (bs.map enW)) (_ : Pot c r m f u v) (_ : r <= n) (_ : Hold hs r f) (_ : (∀ j,j < m -> v j <= t0 j)) (_ : WgA c r m f t0 bs) (_ : m <= 64) (_ : ∀ es p zs' H',Settle c m hs bs es -> Same H H' -> H p = none -> H' p = some (.lst zs') -> WkR H' zs' (es.map enW) -> Q (.ref p) H') : Z9  vs H Q
def Qa : Sp := fun vs H Q _ => Z9  vs H Q
theorem VY : zH ["costs", "holders", "walks", "best", "changing", "column", "row", "other", "cost", "total"] ["costs", "holders", "walks"] (zo (zp 7)) := ⟨rfl,rfl,rfl,by decide +kernel,rfl,by decide +kernel,by decide +kernel⟩
def QV (a : _) (d : _) (wa : _) (p : _) (c : _) (m : _) (hs : List (Nat × Nat)) (cs : _) (H : _) := fun (i : Nat) (σ : St) (H3 : Hp) => (Ex6 fun (ys : List V) (v5 v6 v7 v8 v9 : Option V) => An4 (σ = [some (.ref a),some (.ref d),some (.ref wa),some (.ref p),some (.bl (ql c m (hs.take i) (cs,false)).2),v5,v6,v7,v8,v9]) (Same H H3) (H3 p = some (.lst ys)) (WkR H3 ys ((ql c m (hs.take i) (cs,false)).1.map enW)) : Prop)
def QU (a : _) (d : _) (wa : _) (p : _) (c : _) (kk : Nat) (x : Nat) (st : _) (H : _) := fun (j : Nat) (σ : St) (H4 : Hp) => (Ex4 fun (ys : List V) (v7 v8 v9 : Option V) => An4 (σ = [some (.ref a),some (.ref d),some (.ref wa),some (.ref p),some (.bl (qM c kk x j st).2),some (.int (kk : Int)),some (.int (x : Int)),v7,v8,v9]) (Same H H4) (H4 p = some (.lst ys)) (WkR H4 ys ((qM c kk x j st).1.map enW)) : Prop)
theorem WI {f : Addr} {fd : FuncData} (F : Fun K "settled" "settled" (zp 7) f fd) (B : Blt mg) : FnOk P w K mg base CX0 1 f fd ["costs", "holders", "walks"] Qa := by
  have nd := VY.nd
  refine F.ok VY (fun vs H Q E h => ?_) (fun cdv A outer s H vs Q E hr h => ?_)
  · obtain ⟨a,d,wa,o,zs,c,n,m,r,f,u,v,t0,hs,bs,rfl,_⟩ := h
    rfl
  · obtain ⟨a,d,wa,o,zs,c,n,m,r,f,u,v,t0,hs,bs,rfl,hcs,hd,hwa,wk,pot,hrn,hold,hv0,wg,hm,k⟩ := h
    have hu1 := XE hr
    refine ⟨_,(zn (zL (i := 3) nd rfl (Or.inl rfl) (zW qr rfl B.list zM (ze (pv 2) zg)))
      (zn (zL (i := 4) nd rfl (Or.inl rfl) qJ)
      (zn (Xd PassesOwn.never (zZ (pv 4))
      (zn (zL (i := 4) nd rfl (Or.inl rfl) qJ)
        (zu (jg PassesOwn.never rfl (Qo (Xk PySem.F.slot_dict_items PySem.F.type_dict_items wG (pv 1))) (qN rfl (zK (zV (i := 5) nd rfl (Or.inl rfl)) (zK (zV (i := 6) nd rfl (Or.inl rfl)) qC)))
        (zu (jg PassesOwn.never rfl (jc rfl B.enumerate (ze (zJ zG (pv 0) (pv 6) (fun _ _ => rfl)) zg)) (qN rfl (zK (zV (i := 7) nd rfl (Or.inl rfl)) (zK (zV (i := 8) nd rfl (Or.inl rfl)) qC)))
          (zn (zL (i := 9) nd rfl (Or.inl rfl) (zE jG (zE z0 (zJ qO (zJ zG (pv 3) (pv 5) (fun _ _ => rfl)) zj (fun _ _ => rfl)) (pv 8)) (zJ zG (zJ zG (pv 0) (pv 6) (fun _ _ => rfl)) (pv 5) (fun _ _ => rfl))))
            (zu (qg (zQ Xn (pv 9) (zJ qO (zJ zG (pv 3) (pv 7) (fun _ _ => rfl)) zj (fun _ _ => rfl)) (zI _))
            (zn (qX (qp (ze (pv 9) (ze (zE Vp (zJ qO (zJ zG (pv 3) (pv 5) (fun _ _ => rfl)) zj (fun _ _ => rfl)) (qp (ze (pv 7) zg))) zg))) (jr (pv 3) (pv 7) qI))
              (zu (zL (i := 4) nd rfl (Or.inl rfl) qJ)))
            zU)))))))))
      (zu (zA (pv 3)))))),?_⟩
    refine ⟨_,rfl,wa,_,rfl,.inl (SqL.of hwa),fun p hp => ?_⟩
    have W0 : WkR (upd H p (.lst zs)) zs (bs.map enW) := wk.same (zf hp)
    obtain ⟨hm1,hm2⟩ := hold.mem
    refine ⟨fun z σ H2 => ∃ (b : Bool) (cs : List (Int × List Nat)) (ys : List V) (v5 v6 v7 v8 v9 : Option V),z = 2 * mea m v cs + (if b = true then 1 else 0) /\ σ = [some (.ref a),some (.ref d),some (.ref wa),some (.ref p),some (.bl b),v5,v6,v7,v8,v9] /\ Same H H2 /\ H2 p = some (.lst ys) /\ WkR H2 ys (cs.map enW) /\ WgA c r m f t0 cs /\
      (b = true -> ∀ es,Settle c m hs cs es -> Settle c m hs bs es) /\ (b = false -> Settle c m hs bs cs),⟨_,true,bs,zs,_,_,_,_,_,rfl,rfl,zf hp,zi,W0,wg,fun _ _ s => s,fun z => nomatch z⟩,?_⟩
    rintro z σ H2 ⟨b,cs,ys,v5,v6,v7,v8,v9,rfl,rfl,sm,hp2,wk2,wg2,ht,hf⟩
    refine ⟨_,rfl,_,rfl,?_⟩
    cases b with
    | false => exact Eq.mpr (if_neg Bool.false_ne_true) ⟨_,rfl,k cs p ys H2 (hf rfl) sm hp hp2 wk2⟩
    | true =>
      refine Eq.mpr (if_pos rfl) ⟨_,fun _ _ q => q,?_⟩
      refine ⟨_,rfl,d,rfl,.inl ⟨_,.inr ⟨o,sm _ _ hd⟩⟩,d,o,hsV hs,rfl,rfl,sm _ _ hd,fun q hq => ⟨q,d,o,hsV hs,rfl,zi,?_,?_⟩⟩
      · rw [zw (zr (sm _ _ hd) hq)];exact sm _ _ hd
      have hcs2 := hcs.same sm
      have smq : Same H (upd H2 q (yy q d)) := sm.trans (zf hq)
      have nqp : p ≠ q := zr hp2 hq
      refine XJ (d := d) (o := o) (kvs := hsV hs) (QV a d wa p c m hs cs H)
        ⟨ys,_,_,_,_,_,rfl,smq,by rw [zw nqp];exact hp2,wk2.same (zf hq)⟩ (fun i σ H3 _ ⟨_,_,_,_,_,_,_,s3,_,_⟩ => s3 _ _ hd) ?_ ?_
      · rintro i key val σ H3 T hx ⟨ys3,v5,v6,v7,v8,v9,rfl,s3,hp3,wk3⟩ hT
        obtain ⟨⟨kk,x⟩,hh,e⟩ : ∃ h,hs[i]? = some h /\ (Sum.inl (h.1 : Int),V.int (h.2 : Int)) = (key,val) := by
          unfold hsV at hx
          rw [List.getElem?_map] at hx
          obtain ⟨h,a1,a2⟩ := Option.map_eq_some_iff.mp hx
          exact ⟨h,a1,a2⟩
        cases e
        obtain ⟨hxr,hkf⟩ := hm1 _ (List.mem_of_getElem? hh)
        have hxr : x < r := hxr
        have hkf : kk = f x := hkf
        have wgi := xm pot hv0 (hs := hs.take i) (st := (cs,false)) (fun h hh => hm1 h (List.mem_of_mem_take hh)) wg2
        generalize hst : ql c m (hs.take i) (cs,false) = st at wk3 wgi
        obtain ⟨zc,hz1,hz2,hz3⟩ := hcs
        obtain ⟨A,hz4,hA⟩ := hz3 x (by omega)
        have lm : ((List.range m).map fun j => V.int (c x j)).length = m := by rw [List.length_map,List.length_range]
        have col : ∀ b,b < m -> ((List.range m).map fun j => V.int (c x j))[b]? = some (.int (c x b)) := fun b hb => by
          rw [List.getElem?_map,List.getElem?_range hb];rfl
        have hkm : kk < m := by rw [hkf];exact pot.rng x hxr
        have s3T := s3.trans (zf (o := .tup [kV (Sum.inl (kk : Int)),V.int (x : Int)]) hT)
        have npT : p ≠ T := zr hp3 hT
        refine ⟨T,_,rfl,SqT.of zi,rfl,_,_,rfl,_,_,rfl,rfl,?_⟩
        refine ⟨_,rfl,_,rfl,a,_,_,.ref A,rfl,rfl,SqL.of (s3T _ _ hz1),zR hz4,A,rfl,⟨_,SqL.of (s3T _ _ hA)⟩,?_⟩
        refine vR (K := K) (a := A) (xs := (List.range m).map fun j => V.int (c x j)) (QU a d wa p c kk x st H)
          ⟨ys3,_,_,_,by rw [<- hst];rfl,s3T,by rw [zw npT];exact hp3,wk3.same (zf hT)⟩ (fun j σ H4 _ ⟨_,_,_,_,_,s4,_,_⟩ => SqL.of (s4 _ _ hA)) ?_ ?_
        · rintro j val σ H4 T4 hj ⟨ys4,v7,v8,v9,rfl,s4,hp4,wk4⟩ hT4
          have hjm : j < m := by have := (List.getElem?_eq_some_iff.mp hj).1;rw [lm] at this;exact this
          rw [col j hjm] at hj
          cases hj
          have wgj : WgA c r m f t0 (qM c kk x j st).1 := by rw [hkf];exact (wZ pot hv0 wgi.1 hxr (Nat.le_of_lt hjm)).1
          have er : qM c kk x (j + 1) st = qz c kk x (qM c kk x j st) j := jl c kk x j st
          generalize qM c kk x j st = su at wk4 wgj er
          have ll := wgj.1
          obtain ⟨U,U',b1,b2,b3⟩ := JF wk4 (k := kk) (by omega)
          obtain ⟨O,O',c1,c2,c3⟩ := JF wk4 (k := j) (by omega)
          obtain ⟨w1,w2⟩ := ZY wgj hkm
          have s4T : Same H4 (upd H4 T4 (.tup [.int (j : Int),.int (c x j)])) := zf hT4
          generalize hH5 : upd H4 T4 (.tup [.int (j : Int),.int (c x j)]) = H5 at s4T
          have hT5 : H5 T4 = some (.tup [.int (j : Int),.int (c x j)]) := by rw [<- hH5];exact zi
          have hp5 := s4T _ _ hp4
          have sz : sizeLine = 16777216 := sizeLine_eq
          refine ⟨T4,_,rfl,SqT.of hT5,rfl,_,_,rfl,_,_,rfl,rfl,?_⟩
          refine ⟨_,rfl,_,rfl,p,_,_,.ref U,rfl,rfl,SqL.of hp5,zR b1,U,_,_,_,rfl,rfl,SqT.of (s4T _ _ b2),rfl,_,rfl,_,_,rfl,rfl,_,rfl,_,rfl,a,_,_,.ref A,rfl,rfl,SqL.of (s4T _ _ (s4 _ _ hz1)),zR hz4,_,rfl,A,_,_,.int (c x kk),rfl,rfl,SqL.of (s4T _ _ (s4 _ _ hA)),zR (col kk hkm),_,_,rfl,rfl,?_⟩
          refine ⟨_,rfl,_,rfl,_,rfl,p,_,_,.ref O,rfl,rfl,SqL.of hp5,zR c1,O,_,_,_,rfl,rfl,SqT.of (s4T _ _ c2),rfl,_,_,rfl,rfl,_,rfl,?_⟩
          refine qb (fun cc => ?_) (fun cc => ?_)
          · have cc : tot su.1 kk + c x j - c x kk < tot su.1 j := of_decide_eq_true cc
            refine ⟨_,rfl,_,rfl,_,rfl,p,_,_,.ref U,rfl,rfl,SqL.of hp5,zR b1,U,_,_,.ref U',rfl,rfl,SqT.of (s4T _ _ b2),rfl,_,rfl,(by show 1 <= _;omega),fun q1 hq1 => ?_⟩
            have s5 : Same H5 (upd H5 q1 (.tup [.int (j : Int)])) := zf hq1
            refine ⟨U',q1,_,_,rfl,rfl,SqT.of (s5 _ _ (s4T _ _ b3)),SqT.of zi,by simpa using w1,(by rw [List.length_map];show _ + 1 <= _;omega),(fun z => nomatch z),fun _ q2 hq2 => ?_⟩
            have s6 := s5.trans (zf (o := .tup (((way su.1 kk).map fun (n : Nat) => V.int (n : Int)) ++ [.int (j : Int)])) hq2)
            generalize hH6 : upd (upd H5 q1 (.tup [.int (j : Int)])) q2 (.tup (((way su.1 kk).map fun (n : Nat) => V.int (n : Int)) ++ [.int (j : Int)])) = H6 at s6
            have h62 : H6 q2 = some (.tup (((way su.1 kk).map fun (n : Nat) => V.int (n : Int)) ++ [.int (j : Int)])) := by rw [<- hH6];exact zi
            refine ⟨(by show 2 <= _;omega),fun q3 hq3 => ?_⟩
            have s7 := s6.trans (zf (o := .tup [.int (tot su.1 kk + c x j - c x kk),.ref q2]) hq3)
            have h72 : upd H6 q3 (.tup [.int (tot su.1 kk + c x j - c x kk),.ref q2]) q2 = some (.tup (((way su.1 kk).map fun (n : Nat) => V.int (n : Int)) ++ [.int (j : Int)])) := zf hq3 _ _ h62
            have h73 : upd H6 q3 (.tup [.int (tot su.1 kk + c x j - c x kk),.ref q2]) q3 = some (.tup [.int (tot su.1 kk + c x j - c x kk),.ref q2]) := zi
            generalize upd H6 q3 (.tup [.int (tot su.1 kk + c x j - c x kk),.ref q2]) = H7 at s7 h72 h73
            have hp7 := s7 _ _ hp5
            have yl : ys4.length = m := by rw [wk4.1,List.length_map];exact ll
            refine ⟨_,rfl,_,rfl,p,_,_,j,rfl,rfl,hp7,(by rw [yl];exact Qx hjm),?_⟩
            have e1 : qz c kk x su j = (su.1.set j (tot su.1 kk + c x j - c x kk,way su.1 kk ++ [j]),true) := if_pos cc
            have np : ∀ b ys,H7 b = some (.tup ys) -> b ≠ p := fun b ys e z => by rw [z,hp7] at e;cases e
            refine ⟨ys4.set j (.ref q3),some (.int (j : Int)),some (.int (c x j)),some (.int (tot su.1 kk + c x j - c x kk)),by rw [er,e1];rfl,fun b u e => ?_,zi,?_⟩
            · rw [zw (zr e hp)]
              exact s7 _ _ (s4T _ _ (s4 _ _ e))
            · rw [er,e1]
              show WkR _ _ ((su.1.set j (tot su.1 kk + c x j - c x kk,way su.1 kk ++ [j])).map enW)
              rw [List.map_set]
              refine WkR.set (T := q3) (U := q2) (wk4.tups fun b ys e => ?_) ?_ ?_
              · have e7 := s7 _ _ (s4T _ _ e)
                rw [zw (np b ys e7)]
                exact e7
              · rw [zw (np _ _ h73)];exact h73
              · rw [zw (np _ _ h72),h72]
                show _ = some (HO.tup (((way su.1 kk ++ [j]).map fun (n : Nat) => (n : Int)).map V.int))
                rw [List.map_map,List.map_append]
                rfl
          · have cc : ¬ tot su.1 kk + c x j - c x kk < tot su.1 j := fun z => cc (decide_eq_true z)
            have e1 : qz c kk x su j = su := if_neg cc
            exact ⟨ys4,some (.int (j : Int)),some (.int (c x j)),some (.int (tot su.1 kk + c x j - c x kk)),by rw [er,e1];rfl,s4.trans s4T,hp5,by rw [er,e1];exact wk4.same s4T⟩
        · rintro σ H4 ⟨ys4,v7,v8,v9,rfl,s4,hp4,wk4⟩
          rw [lm] at wk4 ⊢
          refine ⟨ys4,some (.int (kk : Int)),some (.int (x : Int)),v7,v8,v9,?_,s4,hp4,?_⟩
          · rw [vG c m hs (cs,false) hh,hst]
          · rw [vG c m hs (cs,false) hh,hst];exact wk4
      · rintro σ H3 ⟨ys3,v5,v6,v7,v8,v9,rfl,s3,hp3,wk3⟩
        rw [show (hsV hs).length = hs.length from List.length_map _,List.take_length] at wk3 ⊢
        obtain ⟨g1,g2,g3⟩ := xm pot hv0 (hs := hs) (st := (cs,false)) hm1 wg2
        cases e : (ql c m hs (cs,false)).2 with
        | true =>
          have lt : mea m v (ql c m hs (cs,false)).1 < mea m v cs := (g3 e).elim (fun z => nomatch z) id
          exact ⟨_,by rw [if_pos rfl];omega,true,_,ys3,_,_,_,_,_,rfl,rfl,s3,hp3,wk3,g1,fun _ es s => ht rfl es (.go e s),fun z => nomatch z⟩
        | false =>
          have ep := (xP e).1
          exact ⟨2 * mea m v cs,by rw [if_pos rfl];omega,false,cs,ys3,_,_,_,_,_,by rw [if_neg Bool.false_ne_true];rfl,rfl,s3,hp3,by rw [ep] at wk3;exact wk3,wg2,(fun z => nomatch z),fun _ => by
            have := Settle.stop e
            rw [ep] at this
            exact ht rfl _ this⟩
end
end L2
set_option Elab.async false
set_option linter.all false
set_option maxRecDepth 100000
set_option maxHeartbeats 4000000
namespace L2
open PySem PySem.Spec PyProof.Rows
def qw (hs : List (Nat × Nat)) (m : Nat) : List Nat := (List.range m).filter fun j => (look hs j).isNone
def j8 (es : List (Int × List Nat)) (hs : List (Nat × Nat)) (m : Nat) : Nat := (qw hs m).getD (vN ((qw hs m).map fun j => enW (es.getD j (0,[])))) 0
def qm (c : Nat -> Nat -> Int) (r m : Nat) : List (Int × List Nat) := (List.range m).map fun j => (c r j,[j])
def HW (c : Nat -> Nat -> Int) (m r : Nat) (hs hs' : List (Nat × Nat)) : Prop := ∃ es,Settle c m hs (qm c r m) es /\ hs' = mdN hs r (way es (j8 es hs m)) (way es (j8 es hs m)).length
theorem jS {hs : List (Nat × Nat)} {m j : Nat} : j ∈ qw hs m ↔ j < m /\ look hs j = none := by
  unfold qw
  rw [List.mem_filter,List.mem_range,Option.isNone_iff_eq_none]
theorem Qn {es : List (Int × List Nat)} {hs : List (Nat × Nat)} {m : Nat} (ne : qw hs m ≠ []) : (j8 es hs m < m /\ look hs (j8 es hs m) = none) /\ ∀ b,b < m -> look hs b = none -> tot es (j8 es hs m) <= tot es b := by
  have ne' : ((qw hs m).map fun j => enW (es.getD j (0,[]))) ≠ [] := fun z => ne (List.map_eq_nil_iff.mp z)
  have lt := yi ne'
  rw [List.length_map] at lt
  have ep : j8 es hs m = (qw hs m)[vN ((qw hs m).map fun j => enW (es.getD j (0,[])))]'lt := by
    unfold j8
    rw [List.getD_eq_getElem?_getD,List.getElem?_eq_getElem lt]
    rfl
  have at_ : ∀ i (hi : i < (qw hs m).length),(((qw hs m).map fun j => enW (es.getD j (0,[]))).getD i (0,[])).1 = tot es ((qw hs m)[i]'hi) := fun i hi => by
    rw [List.getD_eq_getElem?_getD,List.getElem?_map,List.getElem?_eq_getElem hi]
    rfl
  refine ⟨by rw [ep];exact jS.mp (List.getElem_mem lt),fun b hb hl => ?_⟩
  obtain ⟨i,hi,e⟩ := List.getElem_of_mem (jS.mpr ⟨hb,hl⟩)
  have := Vx (ps := (qw hs m).map fun j => enW (es.getD j (0,[]))) (j := i) (by rw [List.length_map];exact hi)
  rw [at_ _ lt,at_ i hi,e,<- ep] at this
  exact this
theorem HW.more {c : Nat -> Nat -> Int} {m r : Nat} {hs hs' : List (Nat × Nat)} {f : Nat -> Nat} {u v : Nat -> Int} (w : HW c m r hs hs') (P : Pot c r m f u v) (h : Hold hs r f) (hc : ∀ j,j < m -> 0 <= c r j) (hr : r < m) : ∃ f' u' v',Pot c (r + 1) m f' u' v' /\ Hold hs' (r + 1) f' := by
  obtain ⟨es,s,rfl⟩ := w
  obtain ⟨j,jm,jf⟩ := Zi f hr
  have ne : qw hs m ≠ [] := List.ne_nil_of_mem (jS.mpr ⟨jm,h.free.mpr jf⟩)
  obtain ⟨⟨p1,p2⟩,p3⟩ := Qn (es := es) ne
  obtain ⟨f',u',v',a,b,_⟩ := P.more hc h s p1 p2 p3
  exact ⟨f',u',v',a,b⟩
theorem Z0 (hs : List (Nat × Nat)) (k : Nat) : xB (hsV hs) (Sum.inl (k : Int)) = (look hs k).map fun (x : Nat) => V.int (x : Int) := by
  induction hs with
  | nil => rfl
  | cons h hs ih =>
    have s : look (h :: hs) k = if h.1 = k then some h.2 else look hs k := by
      by_cases e : h.1 = k <;> simp [look,e]
    by_cases e : h.1 = k
    · rw [s,if_pos e]
      exact xa (r := hsV hs) (show (Sum.inl (h.1 : Int) : Key) = Sum.inl (k : Int) by rw [e])
    · rw [s,if_neg e,<- ih]
      exact xb (r := hsV hs) fun z => e (by have := Sum.inl.inj z;omega)
theorem xT (c : Nat -> Nat -> Int) (r i : Nat) : qm c r (i + 1) = qm c r i ++ [(c r i,[i])] := by
  unfold qm
  rw [List.range_succ,List.map_append]
  rfl
theorem ZT (hs : List (Nat × Nat)) (i : Nat) : qw hs (i + 1) = qw hs i ++ if look hs i = none then [i] else [] := by
  unfold qw
  rw [List.range_succ,List.filter_append]
  by_cases e : look hs i = none
  · rw [if_pos e];simp [e]
  · rw [if_neg e]
    obtain ⟨x,hx⟩ := Option.ne_none_iff_exists'.mp e
    simp [hx]
theorem Vi (hs : List (Nat × Nat)) (k x : Nat) : jF (hsV hs) (Sum.inl (k : Int)) (.int (x : Int)) = hsV (va hs k x) := by
  have ea : ((hsV hs).any fun kv => decide (kv.1 = Sum.inl (k : Int))) = hs.any fun h => decide (h.1 = k) := by
    unfold hsV
    rw [List.any_map]
    congr 1
    funext h
    show decide ((Sum.inl (h.1 : Int) : Key) = Sum.inl (k : Int)) = decide (h.1 = k)
    exact decide_eq_decide.mpr ⟨fun z => by have := Sum.inl.inj z;omega,fun z => by rw [z]⟩
  unfold jF va
  rw [ea]
  by_cases e : (hs.any fun h => decide (h.1 = k)) = true
  · rw [if_pos e,if_pos e]
    unfold hsV
    rw [List.map_map,List.map_map]
    refine List.map_congr_left fun h _ => ?_
    show (if (Sum.inl (h.1 : Int) : Key) = Sum.inl (k : Int) then ((Sum.inl (h.1 : Int) : Key),V.int (x : Int)) else (Sum.inl (h.1 : Int),V.int (h.2 : Int))) = (Sum.inl (((if h.1 = k then (h.1,x) else h).1 : Nat) : Int),V.int (((if h.1 = k then (h.1,x) else h).2 : Nat) : Int))
    by_cases z : h.1 = k
    · rw [if_pos (by rw [z]),if_pos z]
    · rw [if_neg fun y => z (by have := Sum.inl.inj y;omega),if_neg z]
  · rw [if_neg e,if_neg e]
    unfold hsV
    rw [List.map_append]
    rfl
theorem VA (hs : List (Nat × Nat)) (k x : Nat) : (va hs k x).length <= hs.length + 1 := by
  unfold va
  by_cases e : (hs.any fun h => decide (h.1 = k)) = true
  · rw [if_pos e,List.length_map];omega
  · rw [if_neg e,List.length_append];exact Nat.le_refl _
theorem Xw (hs : List (Nat × Nat)) (r : Nat) (p : List Nat) : ∀ i,(mdN hs r p i).length <= hs.length + i
  | 0 => Nat.le_refl _
  | i + 1 => by
    have := Xw hs r p i
    have := VA (mdN hs r p i) (p.getD i 0) (cmN hs r p i)
    show (va _ _ _).length <= _
    omega
theorem Hold.len {hs : List (Nat × Nat)} {r m : Nat} {f : Nat -> Nat} (h : Hold hs r f) (hm : ∀ x,x < r -> f x < m) : hs.length <= m := by
  obtain ⟨a,b⟩ := h.mem
  have := jU (k := List.range m) h.1 fun k hk => by
    obtain ⟨g,hg,rfl⟩ := List.mem_map.mp hk
    obtain ⟨q1,q2⟩ := a g hg
    exact List.mem_range.mpr (by rw [q2];exact hm _ q1)
  rwa [List.length_map,List.length_range] at this
section
variable {P : Program} {w : World} {K : PySem.W.Frag} {mg : Str -> Option Value} {base : Heap}
inductive JR (vs : List V) (H : Hp) (Q : VK) : Prop
  | mk (a d : Addr) (o : Obj) (c : Nat -> Nat -> Int) (n m r : Nat) (f : Nat -> Nat) (u v : Nat -> Int) (hs : List (Nat × Nat)) (_ : vs = [.ref a,.ref d,.int (r : Int)]) (_ : CsAt H a c n m) (_ : H d = some (.frz o (.dK (hsV hs)))) (_ : Pot c r m f u v) (_ : r < n) (_ : n <= m) (_ : m <= 63) (_ : Hold hs r f) (_ : (∀ x,x < n -> ∀ j,j < m -> 0 <= c x j)) (_ : ∀ hs' p o' H',HW c m r hs hs' -> Same H H' -> H p = none -> H' p = some (.frz o' (.dK (hsV hs'))) -> Q (.ref p) H') : JR  vs H Q
def Ws : Sp := fun vs H Q _ => JR  vs H Q
theorem Yp : zH ["costs", "holders", "row", "walks", "total", "columns", "moved", "comer", "column"] ["costs", "holders", "row"] (zo (zp 8)) := ⟨rfl,rfl,rfl,by decide +kernel,rfl,by decide +kernel,by decide +kernel⟩
def QT (a : _) (d : _) (r : Nat) (p : _) (es : List (Int × List Nat)) (hs : List (Nat × Nat)) (m : _) (UU : _) (mp : _) (H : _) (pp : _) := fun (i : Nat) (σ : St) (H7 : Hp) => (Ex2 fun (cm : V) (v8 : Option V) => An5 (σ = [some (.ref a),some (.ref d),some (.int (r : Int)),some (.ref p),some (.int (enW (es.getD (j8 es hs m) (0,[]))).1),some (.ref UU),some (.ref mp),some cm,v8]) (Same H H7) (H7 UU = some (.tup (pp.map fun (n : Nat) => V.int (n : Int)))) (H7 mp = some (.dK (hsV (mdN hs r pp i)))) ((i < pp.length -> cm = .int (cmN hs r pp i : Int))) : Prop)
theorem YM {f : Addr} {fd : FuncData} (F : Fun K "holders_with" "holders_with" (zp 8) f fd) (B : Blt mg) (Dsettled : Dfn P w K mg base "settled" 1 ["costs", "holders", "walks"] Qa) : FnOk P w K mg base CX0 2 f fd ["costs", "holders", "row"] Ws := by
  have nd := Yp.nd
  refine F.ok Yp (fun vs H Q E h => ?_) (fun cdv A outer s H vs Q E hr h => ?_)
  · obtain ⟨a,d,o,c,n,m,r,f,u,v,hs,rfl,_⟩ := h
    rfl
  · obtain ⟨a,d,o,c,n,m,r,f,u,v,hs,rfl,hcs,hd,pot,hrn,hnm,hm,hold,hc0,k⟩ := h
    have hu1 := XE hr
    have hu64 := hr.units
    refine ⟨_,(zn (zL (i := 3) nd rfl (Or.inl rfl) (zv Dsettled (hr.mono (by first | decide | exact Nat.le_refl _ | omega)) rfl (ze (pv 0) (ze (pv 1) (ze (ju [] [] rfl rfl (by kernel_rfl) (jc rfl B.enumerate (ze (zJ zG (pv 0) (pv 2) (fun _ _ => rfl)) zg)) (fun C0 s0 H0 ex0 => qk) (fun C0 s0 H0 ex0 => (qp (ze (pv 1) (ze (qp (ze (pv 0) zg)) zg))))) zg)))))
      (zn (qX (zk (Ju rfl hu64) rfl B.min Zt (ze (ju ["holders"] [1] rfl rfl (by kernel_rfl) (jc rfl B.enumerate (ze (pv 3) zg)) (fun C0 s0 H0 ex0 => (WA (Ww (Jg hu1 (pv 0) (pv 2))))) (fun C0 s0 H0 ex0 => (pv 1))) zg)) (qN rfl (zK (zV (i := 4) nd rfl (Or.inl rfl)) (zK (zV (i := 5) nd rfl (Or.inl rfl)) qC))))
      (zn (zL (i := 6) nd rfl (Or.inl rfl) (zW ZV rfl B.dict Jz (ze (pv 1) zg)))
      (zn (zL (i := 7) nd rfl (Or.inl rfl) (pv 2))
      (zn (jg PassesOwn.never rfl (Wz (pv 5)) (zV (i := 8) nd rfl (Or.inl rfl))
      (zn (Vk hu1 (pv 6) (pv 8) (pv 7) rfl)
        (zu (zL (i := 7) nd rfl (Or.inl rfl) (Xj hu1 (pv 1) (pv 8) ⟨rfl,rfl,rfl,rfl⟩)))))
      (zu (zA (Xh (pv 6))))))))),?_⟩
    obtain ⟨zc,hz1,hz2,hz3⟩ := id hcs
    obtain ⟨A,hz4,hA⟩ := hz3 r hrn
    have lm : ((List.range m).map fun j => V.int (c r j)).length = m := by rw [List.length_map,List.length_range]
    have sz : sizeLine = 16777216 := sizeLine_eq
    refine ⟨_,rfl,_,rfl,_,rfl,_,rfl,a,_,_,.ref A,rfl,rfl,SqL.of hz1,zR hz4,A,rfl,⟨_,SqL.of hA⟩,jI (K := K) (a := A) (xs := (List.range m).map fun j => V.int (c r j)) (fun i zs H1 => Same H H1 /\ WkR H1 zs ((qm c r i).map enW)) ⟨Same.refl _,WkR.nil⟩ (fun i zs H1 ⟨s1,_⟩ => SqL.of (s1 _ _ hA)) ?_ ?_⟩
    · rintro i x zs H1 T hx ⟨s1,w1⟩ hT
      have him : i < m := by have := (List.getElem?_eq_some_iff.mp hx).1;rw [lm] at this;exact this
      rw [List.getElem?_map,List.getElem?_range him] at hx
      cases hx
      have sT := s1.trans (zf (o := .tup [.int (i : Int),.int (c r i)]) hT)
      have wT := w1.same (zf (o := .tup [.int (i : Int),.int (c r i)]) hT)
      refine ⟨T,_,rfl,SqT.of zi,rfl,_,_,rfl,_,_,rfl,rfl,rfl,?_⟩
      generalize upd H1 T (.tup [.int (i : Int),.int (c r i)]) = H2 at sT wT
      refine ⟨_,rfl,_,rfl,(by show 1 <= _;omega),fun q1 hq1 => ⟨(by show 2 <= _;omega),fun q2 hq2 => ⟨?_,?_,?_⟩⟩⟩
      · have := wT.1;rw [List.length_map] at this;unfold qm at this;rw [List.length_map,List.length_range] at this;omega
      · exact sT.trans ((zf hq1).trans (zf hq2))
      · rw [xT,List.map_append]
        refine WkR.snoc (U := q1) ((wT.same (zf hq1)).same (zf hq2)) zi ?_
        exact zf hq2 _ _ zi
    · rintro zs H1 ⟨s1,w1⟩
      rw [lm] at w1
      have zl := w1.1
      rw [List.length_map] at zl
      have fl : (qm c r m).length = m := by unfold qm;rw [List.length_map,List.length_range]
      refine ⟨by omega,fun wl hwl => ?_⟩
      have s2 := s1.trans (zf (o := .lst zs) hwl)
      have w2 := w1.same (zf (o := .lst zs) hwl)
      have hw2 : upd H1 wl (.lst zs) wl = some (.lst zs) := zi
      generalize upd H1 wl (.lst zs) = H2 at s2 w2 hw2
      have hv0 : ∀ j,j < m -> v j <= c r j := fun j hj => Int.le_trans (pot.neg j hj) (hc0 r hrn j hj)
      refine ⟨a,d,wl,o,zs,c,n,m,r,f,u,v,c r,hs,qm c r m,rfl,hcs.same s2,s2 _ _ hd,hw2,w2,pot,by omega,hold,hv0,WgA.first c r m f (c r),by omega,fun es p ys H3 st s3 hp hp3 wk3 => ?_⟩
      have s3 := s2.trans s3
      obtain ⟨hm1,hm2⟩ := hold.mem
      obtain ⟨g,still⟩ := st.ok pot hv0 hm1 hm2 (WgA.first c r m f (c r))
      have el := g.1
      have yl := wk3.1
      rw [List.length_map,el] at yl
      refine ⟨_,rfl,p,rfl,⟨_,SqL.of hp3⟩,jI (K := K) (a := p) (xs := ys) (fun i zs H4 => Same H3 H4 /\ WkR H4 zs ((qw hs i).map fun j => enW (es.getD j (0,[])))) ⟨Same.refl _,WkR.nil⟩ (fun i zs H4 ⟨s4,_⟩ => SqL.of (s4 _ _ hp3)) ?_ ?_⟩
      · rintro i x zs H4 T hx ⟨s4,w4⟩ hT
        have him : i < m := by have := (List.getElem?_eq_some_iff.mp hx).1;omega
        obtain ⟨U,U',b1,b2,b3⟩ := wk3.2 i (enW (es.getD i (0,[]))) (by
          rw [List.getElem?_map,List.getD_eq_getElem?_getD,List.getElem?_eq_getElem (by omega)];rfl)
        rw [b1] at hx
        cases hx
        have sT := s4.trans (zf (o := .tup [.int (i : Int),.ref U]) hT)
        have wT := w4.same (zf (o := .tup [.int (i : Int),.ref U]) hT)
        have fll : (qw hs i).length <= i := by
          have := List.length_filter_le (fun j => (look hs j).isNone) (List.range i)
          rw [List.length_range] at this
          exact this
        refine ⟨T,_,rfl,SqT.of zi,rfl,_,_,rfl,_,_,rfl,rfl,rfl,?_⟩
        generalize upd H4 T (.tup [.int (i : Int),.ref U]) = H5 at sT wT
        refine ⟨_,rfl,_,rfl,d,_,rfl,.inl ⟨hsV hs,Sum.inl (i : Int),.inr ⟨o,sT _ _ (s3 _ _ hd)⟩,rfl,rfl⟩,_,rfl,?_⟩
        rw [Z0,ZT]
        refine qb (fun z => ⟨_,rfl,?_,sT,?_⟩) (fun z => ⟨sT,?_⟩)
        · have := wT.1;rw [List.length_map] at this;omega
        · have : look hs i = none := by
            cases q : look hs i with
            | none => rfl
            | some y => rw [q] at z;cases z
          rw [if_pos this,List.map_append]
          exact WkR.snoc (U := U') wT (sT _ _ b2) (sT _ _ b3)
        · have : ¬ look hs i = none := fun q => z (by rw [q];rfl)
          rw [if_neg this,List.append_nil]
          exact wT
      · rintro zs4 H4 ⟨s4,w4⟩
        rw [yl] at w4
        have z4 := w4.1
        rw [List.length_map] at z4
        have fll : (qw hs m).length <= m := by
          have := List.length_filter_le (fun j => (look hs j).isNone) (List.range m)
          rw [List.length_range] at this
          exact this
        obtain ⟨j0,j0m,j0f⟩ := Zi f (show r < m by omega)
        have ne : qw hs m ≠ [] := List.ne_nil_of_mem (jS.mpr ⟨j0m,hold.free.mpr j0f⟩)
        obtain ⟨⟨p1,p2⟩,p3⟩ := Qn (es := es) ne
        obtain ⟨f',u',v',pot',hold',ch⟩ := pot.more (fun j hj => hc0 r hrn j hj) hold st p1 p2 p3
        have ne' : ((qw hs m).map fun j => enW (es.getD j (0,[]))) ≠ [] := fun z => ne (List.map_eq_nil_iff.mp z)
        have lt := yi ne'
        rw [List.length_map] at lt
        have epk : ((qw hs m).map fun j => enW (es.getD j (0,[])))[vN ((qw hs m).map fun j => enW (es.getD j (0,[])))]? = some (enW (es.getD (j8 es hs m) (0,[]))) := by
          unfold j8
          rw [List.getElem?_map,List.getD_eq_getElem?_getD (l := qw hs m),List.getElem?_eq_getElem lt]
          rfl
        obtain ⟨TT,UU,t1,t2,t3⟩ := w4.2 _ _ epk
        have wmk : HW c m r hs (mdN hs r (way es (j8 es hs m)) (way es (j8 es hs m)).length) := ⟨es,st,rfl⟩
        have t3' : H4 UU = some (.tup ((way es (j8 es hs m)).map fun (n : Nat) => V.int (n : Int))) := by
          rw [t3]
          show some (HO.tup (((way es (j8 es hs m)).map fun (n : Nat) => (n : Int)).map V.int)) = _
          rw [List.map_map]
          rfl
        refine ⟨by omega,fun l hl => ?_⟩
        have s5 := s4.trans (zf (o := .lst zs4) hl)
        have u2 := zf (o := .lst zs4) hl _ _ t2
        have u3 := zf (o := .lst zs4) hl _ _ t3'
        have w5 := w4.same (zf (o := .lst zs4) hl)
        refine ⟨l,zs4,_,rfl,SqL.of zi,w5,ne',fun vv hvv => ?_⟩
        rw [t1] at hvv
        cases hvv
        generalize upd H4 l (.lst zs4) = H5 at s5 u2 u3
        refine ⟨TT,_,rfl,SqT.of u2,rfl,_,_,rfl,_,_,rfl,rfl,?_⟩
        have s6 := s3.trans s5
        refine ⟨_,rfl,d,hsV hs,rfl,.inr ⟨o,s6 _ _ hd⟩,fun mp hmp => ?_⟩
        have hsl := hold.len pot.rng
        have cr := ch.rng
        have cn := ch.nodup
        have cnx := ch.next
        generalize way es (j8 es hs m) = pp at wmk u3 cr cn cnx
        have ppl : pp.length <= m := by
          have := jU (k := List.range m) cn fun x hx => List.mem_range.mpr (cr.1 x hx)
          rwa [List.length_range] at this
        have nmp : H mp = none := Same.free s6 hmp
        have s7 := s6.trans (zf (o := .dK (hsV hs)) hmp)
        have nUm : UU ≠ mp := zr u3 hmp
        refine ⟨_,rfl,_,rfl,UU,rfl,⟨_,SqT.of (zf hmp _ _ u3)⟩,?_⟩
        refine VH (K := K) (a := UU) (xs := pp.map fun (n : Nat) => V.int (n : Int)) (QT a d r p es hs m UU mp H pp)
          ⟨_,_,rfl,s7,zf hmp _ _ u3,zi,fun _ => rfl⟩ (fun i σ H7 _ ⟨_,_,_,_,h,_,_⟩ => SqT.of h) ?_ ?_
        · rintro i x σ H7 hx ⟨cm,v8,rfl,sm7,hU7,hm7,hcm⟩
          rw [List.getElem?_map] at hx
          obtain ⟨y,hy,rfl⟩ := Option.map_eq_some_iff.mp hx
          have hi := (List.getElem?_eq_some_iff.mp hy).1
          have hgd : pp.getD i 0 = y := by rw [List.getD_eq_getElem?_getD,hy];rfl
          cases hcm hi
          have ml := Xw hs r pp i
          have hl7 : (hsV (mdN hs r pp i)).length < sizeLine := by unfold hsV;rw [List.length_map];omega
          refine ⟨_,rfl,_,rfl,_,rfl,mp,_,rfl,DPut.k (k := Sum.inl (y : Int)) hm7 hl7,?_⟩
          have nd7 : ∀ b u,H b = some u -> upd H7 mp (.dK (jF (hsV (mdN hs r pp i)) (Sum.inl (y : Int)) (.int (cmN hs r pp i : Int)))) b = some u := fun b u e => by
            rw [zw (zr e nmp)];exact sm7 _ _ e
          refine ⟨_,rfl,d,rfl,.inl ⟨_,.inr ⟨o,nd7 _ _ hd⟩⟩,_,rfl,_,.inl ⟨hsV hs,Sum.inl (y : Int),.inr ⟨o,nd7 _ _ hd⟩,rfl,rfl⟩,?_⟩
          rw [Z0]
          refine ⟨_,_,rfl,nd7,by rw [zw nUm];exact hU7,?_,fun hi1 => ?_⟩
          · rw [zi,Vi]
            show _ = some (HO.dK (hsV (va (mdN hs r pp i) (pp.getD i 0) (cmN hs r pp i))))
            rw [hgd]
          · obtain ⟨x',a1,a2,_,_⟩ := cnx i y _ hy (List.getElem?_eq_getElem hi1)
            have lk : look hs y = some x' := (hold.2 y x').mpr ⟨a1,a2⟩
            unfold cmN
            rw [if_neg (Nat.succ_ne_zero i),Nat.add_sub_cancel,hgd,lk]
            rfl
        · rintro σ H7 ⟨cm,v8,rfl,sm7,hU7,hm7,_⟩
          rw [List.length_map] at hm7
          exact ⟨_,rfl,mp,_,rfl,hm7,fun o' => k _ mp o' _ wmk (fun b u e => by rw [zw (zr e nmp)];exact sm7 _ _ e) nmp zi⟩
end
end L2
set_option Elab.async false
set_option linter.all false
set_option maxRecDepth 100000
set_option maxHeartbeats 4000000
namespace L2
open PySem PySem.Spec PyProof.Rows
inductive AH (c : Nat -> Nat -> Int) (m : Nat) : Nat -> List (Nat × Nat) -> Prop
  | zero : AH c m 0 []
  | succ {r : Nat} {hs hs' : List (Nat × Nat)} : AH c m r hs -> HW c m r hs hs' -> AH c m (r + 1) hs'
theorem AH.ok {c : Nat -> Nat -> Int} {m n : Nat} (hn : n <= m) (hc : ∀ x,x < n -> ∀ j,j < m -> 0 <= c x j) : ∀ {r : Nat} {hs : List (Nat × Nat)},AH c m r hs -> r <= n -> ∃ f u v,Pot c r m f u v /\ Hold hs r f
  | 0,_,.zero,_ => ⟨fun _ => 0,_,_,Pot.zero c m _,Hold.nil _⟩
  | r + 1,_,.succ a w,h => by
    obtain ⟨f,u,v,P,H⟩ := AH.ok hn hc a (by omega)
    exact w.more P H (hc r (by omega)) (by omega)
section
variable {P : Program} {w : World} {K : PySem.W.Frag} {mg : Str -> Option Value} {base : Heap}
inductive JV (vs : List V) (H : Hp) (Q : VK) : Prop
  | mk (a : Addr) (c : Nat -> Nat -> Int) (n m : Nat) (_ : vs = [.ref a]) (_ : CsAt H a c n m) (_ : n <= m) (_ : m <= 63) (_ : (∀ x,x < n -> ∀ j,j < m -> 0 <= c x j)) (_ : ∀ hs p o' H',AH c m n hs -> Same H H' -> H p = none -> H' p = some (.frz o' (.dK (hsV hs))) -> Q (.ref p) H') : JV  vs H Q
def Vc : Sp := fun vs H Q _ => JV  vs H Q
theorem Yt : zH ["costs", "holders", "row"] ["costs"] (zo (zp 9)) := ⟨rfl,rfl,rfl,by decide +kernel,rfl,by decide +kernel,by decide +kernel⟩
def QS (a : _) (c : _) (m : _) (H : _) := fun (i : Nat) (σ : St) (H2 : Hp) => (Ex4 fun (hs : List (Nat × Nat)) (q : Addr) (o : Obj) (v2 : Option V) => An5 (σ = [some (.ref a),some (.ref q),v2]) (AH c m i hs) (Same H H2) (H q = none) (H2 q = some (.frz o (.dK (hsV hs)))) : Prop)
theorem YR {f : Addr} {fd : FuncData} (F : Fun K "all_holders" "all_holders" (zp 9) f fd) (B : Blt mg) (Dholders_with : Dfn P w K mg base "holders_with" 2 ["costs", "holders", "row"] Ws) : FnOk P w K mg base CX0 3 f fd ["costs"] Vc := by
  have nd := Yt.nd
  refine F.ok Yt (fun vs H Q E h => ?_) (fun cdv A outer s H vs Q E hr h => ?_)
  · obtain ⟨a,c,n,m,rfl,_⟩ := h
    rfl
  · obtain ⟨a,c,n,m,rfl,hcs,hnm,hm,hc0,k⟩ := h
    refine ⟨_,(zn (zL (i := 1) nd rfl (Or.inl rfl) (Xh Xi))
      (zn (jg PassesOwn.never rfl (qG rfl B.range (ze (zk zx rfl B.len boot_len (ze (pv 0) zg)) zg)) (zV (i := 2) nd rfl (Or.inl rfl))
      (zu (zL (i := 1) nd rfl (Or.inl rfl) (zv Dholders_with (hr.mono (by first | decide | exact Nat.le_refl _ | omega)) rfl (ze (pv 0) (ze (pv 1) (ze (pv 2) zg)))))))
      (zu (zA (pv 1))))),?_⟩
    obtain ⟨zc,hz1,hz2,hz3⟩ := id hcs
    have e62 : (2 ^ 62 : Int) = 4611686018427387904 := by decide
    refine fun p hp => ⟨p,_,rfl,zi,fun o => ?_⟩
    have s1 : Same H (upd (upd H p (.dK [])) p (.frz o (.dK []))) := fun b u e => by rw [zw (zr e hp),zw (zr e hp)];exact e
    have h1 : upd (upd H p (.dK [])) p (.frz o (.dK [])) p = some (.frz o (.dK (hsV []))) := zi
    generalize upd (upd H p (.dK [])) p (.frz o (.dK [])) = H1 at s1 h1
    refine ⟨_,rfl,a,_,rfl,.inl (SqL.of (s1 _ _ hz1)),_,rfl,by rw [e62,hz2];omega,by rw [e62,hz2];omega,?_⟩
    rw [show ((zc.length : Nat) : Int).toNat = n by omega]
    refine jW (n := n) (QS a c m H) ⟨[],p,o,_,rfl,.zero,s1,hp,h1⟩ ?_ ?_
    · rintro i σ H2 hi ⟨hs,q,o2,v2,rfl,ah,s2,hq,hq2⟩
      have hi : i < n := by omega
      obtain ⟨f,u,v,pot,hold⟩ := ah.ok hnm hc0 (Nat.le_of_lt hi)
      refine ⟨_,rfl,_,rfl,_,rfl,a,q,o2,c,n,m,i,f,u,v,hs,(by rw [Int.zero_add];rfl),hcs.same s2,hq2,pot,hi,hnm,hm,hold,hc0,fun hs' p' o' H3 hw s3 hp' hp3 => ?_⟩
      exact ⟨hs',p',o',_,rfl,.succ ah hw,s2.trans s3,s2.free hp',hp3⟩
    · rintro σ H2 ⟨hs,q,o2,v2,rfl,ah,s2,hq,hq2⟩
      exact ⟨_,rfl,k hs q o2 H2 ah s2 hq hq2⟩
end
end L2
set_option Elab.async false
set_option linter.all false
set_option maxRecDepth 100000
set_option maxHeartbeats 4000000
namespace L2
open PySem PySem.Spec PyProof.Rows
theorem Qp : ∀ {l k : List (Int × Int)},l.Pairwise (fun a b => ltP a b = true) -> k.Pairwise (fun a b => ltP a b = true) -> (∀ x,x ∈ l ↔ x ∈ k) -> l = k
  | [],[],_,_,_ => rfl
  | [],b :: k,_,_,h => absurd ((h b).mpr (by simp)) (by simp)
  | a :: l,[],_,_,h => absurd ((h a).mp (by simp)) (by simp)
  | a :: l,b :: k,p,q,h => by
    rw [List.pairwise_cons] at p q
    have anti : ∀ {x y : Int × Int},ltP x y = true -> ltP y x = true -> False := fun z1 z2 => by
      have := Xu z1 z2
      rw [vm] at this
      cases this
    have e : a = b := by
      rcases List.mem_cons.mp ((h a).mp (by simp)) with z | z
      · exact z
      · rcases List.mem_cons.mp ((h b).mpr (by simp)) with y | y
        · exact y.symm
        · exact (anti (q.1 a z) (p.1 b y)).elim
    subst e
    have : l = k := Qp p.2 q.2 fun x => ⟨fun hx => ?_,fun hx => ?_⟩
    · rw [this]
    · rcases List.mem_cons.mp ((h x).mp (List.mem_cons_of_mem _ hx)) with z | z
      · subst z
        have := p.1 x hx
        rw [vm] at this
        cases this
      · exact z
    · rcases List.mem_cons.mp ((h x).mpr (List.mem_cons_of_mem _ hx)) with z | z
      · subst z
        have := q.1 x hx
        rw [vm] at this
        cases this
      · exact z
def swp (h : Nat × Nat) : Int × Int := ((h.2 : Int),(h.1 : Int))
theorem Vd {hs : List (Nat × Nat)} {r : Nat} {f : Nat -> Nat} (h : Hold hs r f) {qs : List (Int × Int)} (pm : qs.Perm (hs.map swp)) (pw : qs.Pairwise fun a b => ltP a b = true) : qs = (List.range r).map fun (x : Nat) => ((x : Int),(f x : Int)) := by
  obtain ⟨h1,h2⟩ := h.mem
  refine Qp pw ?_ fun q => ?_
  · rw [List.pairwise_map]
    refine List.pairwise_lt_range.imp fun {x y} hxy => decide_eq_true (.inl ?_)
    show (x : Int) < (y : Int)
    omega
  · rw [pm.mem_iff,List.mem_map,List.mem_map]
    constructor
    · rintro ⟨g,hg,rfl⟩
      obtain ⟨a,b⟩ := h1 g hg
      refine ⟨g.2,List.mem_range.mpr a,?_⟩
      unfold swp
      rw [b]
    · rintro ⟨x,hx,rfl⟩
      exact ⟨(f x,x),h2 x (List.mem_range.mp hx),rfl⟩
theorem Q4 {hs : List (Nat × Nat)} {r : Nat} {f : Nat -> Nat} (h : Hold hs r f) : (hs.map swp).Nodup := by
  have nd := h.1
  rw [List.Nodup,List.pairwise_map] at nd ⊢
  refine nd.imp fun {a b} ne e => ne ?_
  have := congrArg Prod.snd e
  show a.1 = b.1
  have e' : (a.1 : Int) = (b.1 : Int) := this
  omega
section
variable {P : Program} {w : World} {K : PySem.W.Frag} {mg : Str -> Option Value} {base : Heap}
inductive JT (vs : List V) (H : Hp) (Q : VK) : Prop
  | mk (d : Addr) (o : Obj) (r m : Nat) (f : Nat -> Nat) (hs : List (Nat × Nat)) (_ : vs = [.ref d]) (_ : H d = some (.frz o (.dK (hsV hs)))) (_ : Hold hs r f) (_ : (∀ x,x < r -> f x < m)) (_ : m <= 63) (_ : ∀ p H',Same H H' -> H p = none -> H' p = some (.lst ((List.range r).map fun (x : Nat) => V.int (f x : Int))) -> Q (.ref p) H') : JT  vs H Q
def Vb : Sp := fun vs H Q _ => JT  vs H Q
theorem Yr : zH ["holders"] ["holders"] (zo (zp 10)) := ⟨rfl,rfl,rfl,by decide +kernel,rfl,by decide +kernel,by decide +kernel⟩
theorem YO {f : Addr} {fd : FuncData} (F : Fun K "columns_by" "columns_by" (zp 10) f fd) (B : Blt mg) : FnOk P w K mg base CX0 1 f fd ["holders"] Vb := by
  have nd := Yr.nd
  refine F.ok Yr (fun vs H Q E h => ?_) (fun cdv A outer s H vs Q E hr h => ?_)
  · obtain ⟨d,o,r,m,f,hs,rfl,_⟩ := h
    rfl
  · obtain ⟨d,o,r,m,f,hs,rfl,hd,hold,hfm,hm,k⟩ := h
    have sz : sizeLine = 16777216 := sizeLine_eq
    have hsl := hold.len hfm
    refine ⟨_,(zu (zA (ju [] [] rfl rfl (by kernel_rfl) (qT (zk yu rfl B.sorted Zr (ze (ju [] [] rfl rfl (by kernel_rfl) (Qo (Xk PySem.F.slot_dict_items PySem.F.type_dict_items wG (pv 0))) (fun C0 s0 H0 ex0 => qk) (fun C0 s0 H0 ex0 => (qp (ze (pv 1) (ze (pv 0) zg))))) zg))) (fun C0 s0 H0 ex0 => qk) (fun C0 s0 H0 ex0 => (pv 1))))),?_⟩
    refine ⟨_,rfl,d,rfl,.inl ⟨_,.inr ⟨o,hd⟩⟩,d,o,hsV hs,rfl,rfl,hd,fun pv hpv => ⟨pv,d,o,hsV hs,rfl,zi,by rw [zw (zr hd hpv)];exact hd,VC (d := d) (o := o) (kvs := hsV hs) (fun i zs H1 => Same H H1 /\ PrR H1 zs ((hs.take i).map swp)) ⟨zf hpv,PrR.nil⟩ (fun i zs H1 ⟨s1,_⟩ => s1 _ _ hd) ?_ ?_⟩⟩
    · rintro i key val zs H1 T hx ⟨s1,w1⟩ hT
      obtain ⟨⟨kk,x⟩,hh,e⟩ : ∃ h,hs[i]? = some h /\ (Sum.inl (h.1 : Int),V.int (h.2 : Int)) = (key,val) := by
        unfold hsV at hx
        rw [List.getElem?_map] at hx
        obtain ⟨h,a1,a2⟩ := Option.map_eq_some_iff.mp hx
        exact ⟨h,a1,a2⟩
      cases e
      have hi := (List.getElem?_eq_some_iff.mp hh).1
      refine ⟨T,_,rfl,SqT.of zi,rfl,_,_,rfl,_,_,rfl,rfl,rfl,?_⟩
      refine ⟨_,rfl,_,rfl,(by show 2 <= _;omega),fun q hq => ⟨?_,s1.trans ((zf hT).trans (zf hq)),?_⟩⟩
      · have := w1.1;rw [List.length_map,List.length_take] at this;omega
      · rw [List.take_add_one,hh,Option.toList_some,List.map_append]
        exact PrR.snoc (q := swp (kk,x)) ((w1.same (zf hT)).same (zf hq)) zi
    · rintro zs H1 ⟨s1,w1⟩
      rw [show (hsV hs).length = hs.length from List.length_map _,List.take_length] at w1
      have zl := w1.1
      rw [List.length_map] at zl
      refine ⟨by omega,fun l hl => ⟨l,zs,hs.map swp,rfl,SqL.of zi,w1.same (zf hl),Q4 hold,by rw [List.length_map];omega,fun l2 qs ys hl2 pm pw pr => ?_⟩⟩
      have s2 := s1.trans (zf (o := .lst zs) hl)
      generalize upd H1 l (.lst zs) = H2 at hl2 pr s2
      have eq := Vd hold pm pw
      subst eq
      have s3 := s2.trans (zf (o := .lst ys) hl2)
      have pr3 := pr.same (zf (o := .lst ys) hl2)
      have h3 : upd H2 l2 (.lst ys) l2 = some (.lst ys) := zi
      generalize upd H2 l2 (.lst ys) = H3 at s3 pr3 h3
      have yl := pr3.1
      rw [List.length_map,List.length_range] at yl
      have hrm : r <= m := by
        have := jU (l := (List.range r).map f) (k := List.range m) (by
          rw [List.Nodup,List.pairwise_map]
          refine (List.nodup_range (n := r)).imp_of_mem fun {x y} hx hy ne e => ne ?_
          have a1 := (hold.2 (f x) x).mpr ⟨List.mem_range.mp hx,rfl⟩
          have a2 := (hold.2 (f x) y).mpr ⟨List.mem_range.mp hy,e.symm⟩
          rw [a1] at a2
          exact Option.some.inj a2) fun j hj => by
            obtain ⟨x,hx,rfl⟩ := List.mem_map.mp hj
            exact List.mem_range.mpr (hfm x (List.mem_range.mp hx))
        rwa [List.length_map,List.length_range,List.length_range] at this
      refine ⟨l2,rfl,⟨_,SqL.of h3⟩,jd (K := K) (a := l2) (xs := ys) (fun i zs H4 => H4 = H3 /\ zs = (List.range i).map fun (x : Nat) => V.int (f x : Int)) ⟨rfl,rfl⟩ (fun i zs H4 ⟨e,_⟩ => by rw [e];exact SqL.of h3) ?_ ?_⟩
      · rintro i x zs H4 hx ⟨rfl,rfl⟩
        have hi := (List.getElem?_eq_some_iff.mp hx).1
        obtain ⟨T,e1,e2⟩ := pr3.2 i ((i : Int),(f i : Int)) (by rw [List.getElem?_map,List.getElem?_range (by omega)];rfl)
        rw [e1] at hx
        cases hx
        refine ⟨T,_,rfl,SqT.of e2,rfl,_,_,rfl,_,_,rfl,rfl,rfl,_,rfl,?_,rfl,?_⟩
        · rw [List.length_map,List.length_range];omega
        · rw [List.range_succ,List.map_append];rfl
      · rintro zs H4 ⟨rfl,rfl⟩
        rw [yl]
        exact ⟨by rw [List.length_map,List.length_range];omega,fun q hq => k q _ (s3.trans (zf hq)) (s3.free hq) zi⟩
end
end L2
set_option Elab.async false
set_option linter.all false
set_option maxRecDepth 100000
set_option maxHeartbeats 4000000
namespace L2
open PySem PySem.Spec PyProof.Rows
section
variable {P : Program} {w : World} {K : PySem.W.Frag} {mg : Str -> Option Value} {base : Heap}
inductive Z5 (K : PySem.W.Frag) (vs : List V) (H : Hp) (Q : VK) : Prop
  | mk (a l : Addr) (c : Nat -> Nat -> Int) (n m : Nat) (f : Nat -> Nat) (_ : vs = [.ref a,.ref l]) (_ : CsAt H a c n m) (_ : SqL K H l ((List.range n).map fun (x : Nat) => V.int (f x : Int))) (_ : (∀ x,x < n -> f x < m)) (_ : n <= 63) (_ : (∀ x,x < n -> ∀ j,j < m -> 0 <= c x j /\ c x j <= 1000000)) (_ : ∀ H',Same H H' -> Q (.int (qd n fun x => c x (f x))) H') : Z5 K vs H Q
def Z6 (K : PySem.W.Frag) : Sp := fun vs H Q _ => Z5 K vs H Q
theorem VV : zH ["costs", "columns"] ["costs", "columns"] (zo (zp 11)) := ⟨rfl,rfl,rfl,by decide +kernel,rfl,by decide +kernel,by decide +kernel⟩
theorem WF {f : Addr} {fd : FuncData} (F : Fun K "sum_at" "sum_at" (zp 11) f fd) (B : Blt mg) : FnOk P w K mg base CX0 1 f fd ["costs", "columns"] (Z6 K) := by
  have nd := VV.nd
  refine F.ok VV (fun vs H Q E h => ?_) (fun cdv A outer s H vs Q E hr h => ?_)
  · obtain ⟨a,l,c,n,m,f,rfl,_⟩ := h
    rfl
  · obtain ⟨a,l,c,n,m,f,rfl,hcs,hl,hfm,hn,hc,k⟩ := h
    have sz : sizeLine = 16777216 := sizeLine_eq
    refine ⟨_,(zu (zA (zk (Jt rfl) rfl B.sum boot_sum (ze (ju ["costs"] [0] rfl rfl (by kernel_rfl) (jc rfl B.enumerate (ze (pv 1) zg)) (fun C0 s0 H0 ex0 => qk) (fun C0 s0 H0 ex0 => (zJ (qK (K := K) rfl) (zJ (qK (K := K) rfl) (pv 2) (pv 0) (fun _ _ => rfl)) (pv 1) (fun _ _ => rfl)))) zg)))),?_⟩
    obtain ⟨zc,hz1,hz2,hz3⟩ := id hcs
    refine ⟨_,rfl,l,rfl,⟨_,hl⟩,jI (K := K) (a := l) (xs := (List.range n).map fun (x : Nat) => V.int (f x : Int)) (fun i zs H1 => Same H H1 /\ zs = ((List.range i).map fun x => c x (f x)).map V.int) ⟨Same.refl _,rfl⟩ (fun i zs H1 ⟨s1,_⟩ => s1.seq hl) ?_ ?_⟩
    · rintro i x zs H1 T hx ⟨s1,rfl⟩ hT
      have hi : i < n := by have := (List.getElem?_eq_some_iff.mp hx).1;rw [List.length_map,List.length_range] at this;exact this
      rw [List.getElem?_map,List.getElem?_range hi] at hx
      cases hx
      obtain ⟨A,hz4,hA⟩ := hz3 i hi
      have sT := s1.trans (zf (o := .tup [.int (i : Int),.int (f i : Int)]) hT)
      refine ⟨T,_,rfl,SqT.of zi,rfl,_,_,rfl,_,_,rfl,rfl,rfl,?_⟩
      generalize upd H1 T (.tup [.int (i : Int),.int (f i : Int)]) = H2 at sT
      refine ⟨_,rfl,_,rfl,a,_,_,.ref A,rfl,rfl,SqL.of (sT _ _ hz1),zR hz4,_,rfl,A,_,_,.int (c i (f i)),rfl,rfl,SqL.of (sT _ _ hA),zR (by rw [List.getElem?_map,List.getElem?_range (hfm i hi)];rfl),?_,sT,?_⟩
      · rw [List.length_map,List.length_map,List.length_range];omega
      · rw [List.range_succ,List.map_append,List.map_append];rfl
    · rintro zs H1 ⟨s1,rfl⟩
      have ln : ((List.range n).map fun (x : Nat) => V.int (f x : Int)).length = n := by rw [List.length_map,List.length_range]
      rw [ln]
      refine ⟨by rw [List.length_map,List.length_map,List.length_range];omega,fun q hq => ⟨q,_,rfl,SqL.of zi,fun z hz => ?_,by rw [List.length_map,List.length_range];omega,k _ (s1.trans (zf hq))⟩⟩
      obtain ⟨x,hx,rfl⟩ := List.mem_map.mp hz
      have hx := List.mem_range.mp hx
      exact hc x hx _ (hfm x hx)
def zar (H : Hp) (p l : Addr) (c : Nat -> Nat -> Int) (n : Nat) (f : Nat -> Nat) : Prop := H p = some (.tup [.int (qd n fun x => c x (f x)),.ref l]) /\ H l = some (.lst ((List.range n).map fun (x : Nat) => V.int (f x : Int)))
inductive JQ (vs : List V) (H : Hp) (Q : VK) : Prop
  | mk (a : Addr) (c : Nat -> Nat -> Int) (n m : Nat) (_ : vs = [.ref a]) (_ : CsAt H a c n m) (_ : n <= m) (_ : m <= 63) (_ : (∀ x,x < n -> ∀ j,j < m -> 0 <= c x j /\ c x j <= 1000000)) (_ : ∀ hs f u v p l H',AH c m n hs -> Hold hs n f -> Pot c n m f u v -> Same H H' -> H p = none -> H l = none -> zar H' p l c n f -> Q (.ref p) H') : JQ  vs H Q
def Wr : Sp := fun vs H Q _ => JQ  vs H Q
theorem Yn : zH ["costs", "columns"] ["costs"] (zo (zp 12)) := ⟨rfl,rfl,rfl,by decide +kernel,rfl,by decide +kernel,by decide +kernel⟩
theorem YK {f : Addr} {fd : FuncData} (F : Fun K "matched_slots" "matched_slots" (zp 12) f fd) (B : Blt mg) (Dall_holders : Dfn P w K mg base "all_holders" 3 ["costs"] Vc) (Dcolumns_by : Dfn P w K mg base "columns_by" 1 ["holders"] Vb)
    (Dsum_at : Dfn P w K mg base "sum_at" 1 ["costs", "columns"] (Z6 K)) : FnOk P w K mg base CX0 4 f fd ["costs"] Wr := by
  have nd := Yn.nd
  refine F.ok Yn (fun vs H Q E h => ?_) (fun cdv A outer s H vs Q E hr h => ?_)
  · obtain ⟨a,c,n,m,rfl,_⟩ := h
    rfl
  · obtain ⟨a,c,n,m,rfl,hcs,hnm,hm,hc,k⟩ := h
    have sz : sizeLine = 16777216 := sizeLine_eq
    refine ⟨_,(zn (zL (i := 1) nd rfl (Or.inl rfl) (zv Dcolumns_by (hr.mono (by first | decide | exact Nat.le_refl _ | omega)) rfl (ze (zv Dall_holders (hr.mono (by first | decide | exact Nat.le_refl _ | omega)) rfl (ze (pv 0) zg)) zg)))
      (zu (zA (qp (ze (zv Dsum_at (hr.mono (by first | decide | exact Nat.le_refl _ | omega)) rfl (ze (pv 0) (ze (pv 1) zg))) (ze (pv 1) zg)))))),?_⟩
    have hc0 : ∀ x,x < n -> ∀ j,j < m -> 0 <= c x j := fun x hx j hj => (hc x hx j hj).1
    refine ⟨_,rfl,a,c,n,m,rfl,hcs,hnm,hm,hc0,fun hs d o H1 ah s1 hd hd1 => ?_⟩
    obtain ⟨f,u,v,pot,hold⟩ := ah.ok hnm hc0 (Nat.le_refl _)
    refine ⟨d,o,n,m,f,hs,rfl,hd1,hold,pot.rng,hm,fun l H2 s2 hl hl2 => ?_⟩
    have s2 := s1.trans s2
    refine ⟨_,rfl,_,rfl,a,l,c,n,m,f,rfl,hcs.same s2,SqL.of hl2,pot.rng,by omega,hc,fun H3 s3 => ?_⟩
    refine ⟨_,rfl,(by show 2 <= _;omega),fun p hp => ?_⟩
    have s3' := s2.trans s3
    exact k hs f u v p l _ ah hold pot (fun b x e => by rw [zw (zr (s3' _ _ e) hp)];exact s3' _ _ e) (Same.free s3' hp) (Same.free s1 hl) ⟨zi,by rw [zw (zr (s3 _ _ hl2) hp)];exact s3 _ _ hl2⟩
end
end L2
set_option Elab.async false
set_option linter.all false
set_option maxRecDepth 100000
set_option maxHeartbeats 4000000
namespace L2
open PySem PySem.Spec PyProof.Rows
theorem XA (i : Nat) : ixN (i + 1) (-1) = some i := by
  unfold ixN
  simp
  omega
theorem SameB.refl (b : Addr) (H : Hp) : SameB b H H := fun _ _ e _ => e
theorem SameB.trans {b : Addr} {H H1 H2 : Hp} (a : SameB b H H1) (c : SameB b H1 H2) : SameB b H H2 := fun d o e hd => c d o (a d o e hd) hd
theorem SameB.of {b : Addr} {H H1 : Hp} (a : Same H H1) : SameB b H H1 := fun d o e _ => a d o e
theorem SameB.new {b p : Addr} {o : HO} {H H1 : Hp} (a : SameB b H H1) (h : H1 p = none) : SameB b H (upd H1 p o) := a.trans (.of (zf h))
theorem BoxAt.new {b p : Addr} {o : HO} {H : Hp} {n : Int} (a : BoxAt H b n) (h : H p = none) : BoxAt (upd H p o) b n := by
  obtain ⟨b0,b1,b2,e,r⟩ := a
  exact ⟨b0,b1,b2,by rw [zw (zr e h)];exact e,r⟩
theorem BoxAt.same {b : Addr} {H H' : Hp} {n : Int} (a : BoxAt H b n) (s : Same H H') : BoxAt H' b n := by
  obtain ⟨b0,b1,b2,e,r⟩ := a
  exact ⟨b0,b1,b2,s _ _ e,r⟩
theorem BoxAt.mono {b : Addr} {H : Hp} {n m : Int} (a : BoxAt H b n) (h : n <= m) : BoxAt H b m := by
  obtain ⟨b0,b1,b2,e,p0,p1,p2,p3,p4⟩ := a
  exact ⟨b0,b1,b2,e,p0,p1,p2,p3,by omega⟩
theorem SameB.put {b m : Addr} {H H' : Hp} {o : HO} (s : SameB b H H') (h : H m = none) : SameB b H (upd H' m o) := fun c u e hc => by
  rw [zw (zr e h)];exact s c u e hc
theorem SameB.none {b m : Addr} {H H' : Hp} (s : SameB b H H') (h : H' m = none) (hm : m ≠ b) : H m = none := by
  cases q : H m with
  | none => rfl
  | some o => have := s m o q hm;rw [h] at this;cases this
theorem BoxAt.some {b : Addr} {H : Hp} {n : Int} (a : BoxAt H b n) : ∃ o,H b = .some o := let ⟨_,_,_,e,_⟩ := a;⟨_,e⟩
theorem BoxAt.nne {b p : Addr} {H : Hp} {n : Int} (a : BoxAt H b n) (h : H p = none) : p ≠ b := by
  obtain ⟨o,e⟩ := a.some
  exact (zr e h).symm
theorem BoxAt.other {b l : Addr} {H : Hp} {n : Int} {o : HO} (a : BoxAt H b n) (h : l ≠ b) : BoxAt (upd H l o) b n := by
  obtain ⟨b0,b1,b2,e,r⟩ := a
  exact ⟨b0,b1,b2,by rw [zw (Ne.symm h)];exact e,r⟩
theorem Yz {r : Int} (h0 : 0 <= r) (h1 : r < 4) : ∃ z : Int,atI [V.int 6,V.int 6,V.int 6,V.int 13] r = some (.int z) /\ 6 <= z /\ z <= 13 := by
  have hc : r = 0 \/ r = 1 \/ r = 2 \/ r = 3 := by omega
  rcases hc with rfl | rfl | rfl | rfl
  · exact ⟨6,rfl,by decide,by decide⟩
  · exact ⟨6,rfl,by decide,by decide⟩
  · exact ⟨6,rfl,by decide,by decide⟩
  · exact ⟨13,rfl,by decide,by decide⟩
theorem YB {r : Int} (h0 : 0 <= r) (h1 : r < 4) : ∃ z : Int,atI [V.int 2,V.int 4,V.int 30,V.int 1000001] r = some (.int z) /\ 2 <= z /\ z <= 1000001 := by
  have hc : r = 0 \/ r = 1 \/ r = 2 \/ r = 3 := by omega
  rcases hc with rfl | rfl | rfl | rfl
  · exact ⟨2,rfl,by decide,by decide⟩
  · exact ⟨4,rfl,by decide,by decide⟩
  · exact ⟨30,rfl,by decide,by decide⟩
  · exact ⟨1000001,rfl,by decide,by decide⟩
section
variable {P : Program} {w : World} {K : PySem.W.Frag} {mg : Str -> Option Value} {base : Heap}
inductive JS (vs : List V) (H : Hp) (Q : VK) : Prop
  | mk (b : Addr) (n0 : Int) (_ : vs = [.ref b]) (_ : BoxAt H b n0) (_ : n0 < 1000000) (_ : ∀ (c : Nat -> Nat -> Int) (n m : Nat) (p : Addr) H',H p = none -> SameB b H H' -> BoxAt H' b (n0 + 200) -> CsAt (WX [b] H') p c n m -> n <= m -> m <= 13 -> (∀ x,x < n -> ∀ j,j < m -> 0 <= c x j /\ c x j <= 1000000) -> Q (.ref p) H') : JS  vs H Q
def Wt : Sp := fun vs H Q _ => JS  vs H Q
theorem Yq : zH ["_law_box_here", "_law_rows", "_law_columns_here", "_law_most", "_law_found"] ["_law_box_here"] (zo (zp 24)) := ⟨rfl,rfl,rfl,by decide +kernel,rfl,by decide +kernel,by decide +kernel⟩
def QR (b : _) (H : _) (m : _) (n0 : _) := fun (i : Nat) (zs : List V) (H5 : Hp) => (Ex1 fun (c : Nat -> Nat -> Int) => An5 (zs.length = i) ((∀ x,x < i -> ∃ A,zs[x]? = some (.ref A) /\ A ≠ b /\ H A = none /\ H5 A = some (.lst ((List.range m).map fun j => V.int (c x j))))) ((∀ x,x < i -> ∀ j,j < m -> 0 <= c x j /\ c x j <= 1000000)) (SameB b H H5) (BoxAt H5 b (n0 + 4 + 13 * i)) : Prop)
def QQ (b : _) (H5 : _) (n0 : _) (i : _) := fun (j : Nat) (ys : List V) (H6 : Hp) => (Ex1 fun (g : Nat -> Int) => An4 (ys = (List.range j).map (fun k => V.int (g k))) ((∀ k,k < j -> 0 <= g k /\ g k <= 1000000)) (SameB b H5 H6) (BoxAt H6 b (n0 + 4 + 13 * i + j)) : Prop)
theorem YN {f : Addr} {fd : FuncData} (F : Fun K "_law_costs" "_law_costs" (zp 24) f fd) (B : Blt mg) (D_take : Dfn P w K mg base "_law_take" 1 ["_law_box_here", "_law_size"] je) : FnOk P w K mg base CX0 2 f fd ["_law_box_here"] Wt := by
  have nd := Yq.nd
  refine F.ok Yq (fun vs H Q E h => ?_) (fun cdv A outer s H vs Q E hr h => ?_)
  · obtain ⟨b,n0,rfl,_⟩ := h
    rfl
  · obtain ⟨b,n0,rfl,hb,hn0,k⟩ := h
    have sz : sizeLine = 16777216 := sizeLine_eq
    refine ⟨_,(@zn _ _ _ _ _ (@zL _ _ 1 _ _ _ _ nd rfl (Or.inl rfl) (@zv _ _ _ _ _ _ _ _ _ _ D_take (hr.mono (by first | decide | exact Nat.le_refl _ | omega)) rfl (@ze _ _ _ _ _ (@pv _ 0 _ _ (by rfl) (by first | exact Or.inl rfl | exact Or.inr (Or.inl rfl) | exact Or.inr (Or.inr rfl)) (by decide) (by decide)) (@ze _ _ _ _ _ (@zJ _ _ _ _ _ _ _ zG (@qF _ _ _ _ (@ze _ _ _ _ _ zj (@ze _ _ _ _ _ zj (@ze _ _ _ _ _ zj (@ze _ _ _ _ _ zj zg (by rfl)) (by rfl)) (by rfl)) (by rfl))) (@zv _ _ _ _ _ _ _ _ _ _ D_take (hr.mono (by first | decide | exact Nat.le_refl _ | omega)) rfl (@ze _ _ _ _ _ (@pv _ 0 _ _ (by rfl) (by first | exact Or.inl rfl | exact Or.inr (Or.inl rfl) | exact Or.inr (Or.inr rfl)) (by decide) (by decide)) (@ze _ _ _ _ _ zj zg (by rfl)) (by rfl)) (by decide) (by rfl) (by rfl)) (fun _ _ => rfl)) zg (by rfl)) (by rfl)) (by decide) (by rfl) (by rfl)) (by rfl) (by first | exact .inl rfl | exact .inr rfl | assumption)) (@zn _ _ _ _ _ (@zL _ _ 2 _ _ _ _ nd rfl (Or.inr rfl) (@zE _ _ _ _ _ _ _ _ z0 (@pv _ 1 _ _ (by rfl) (by first | exact Or.inl rfl | exact Or.inr (Or.inl rfl) | exact Or.inr (Or.inr rfl)) (by decide) (by decide)) (@zv _ _ _ _ _ _ _ _ _ _ D_take (hr.mono (by first | decide | exact Nat.le_refl _ | omega)) rfl (@ze _ _ _ _ _ (@pv _ 0 _ _ (by rfl) (by first | exact Or.inl rfl | exact Or.inr (Or.inl rfl) | exact Or.inr (Or.inr rfl)) (by decide) (by decide)) (@ze _ _ _ _ _ (@zk _ _ _ _ _ _ _ _ _ (Jv rfl) rfl B.min Zt (@ze _ _ _ _ _ zj (@ze _ _ _ _ _ (@zE _ _ _ _ _ _ _ _ jG zj (@pv _ 1 _ _ (by rfl) (by first | exact Or.inl rfl | exact Or.inr (Or.inl rfl) | exact Or.inr (Or.inr rfl)) (by decide) (by decide))) zg (by rfl)) (by rfl)) (by decide) (by decide) (by rfl) (by rfl)) zg (by rfl)) (by rfl)) (by decide) (by rfl) (by rfl))) (by rfl) (by first | exact .inl rfl | exact .inr rfl | assumption)) (@zn _ _ _ _ _ (@zL _ _ 3 _ _ _ _ nd rfl (Or.inr rfl) (@zJ _ _ _ _ _ _ _ zG (@qF _ _ _ _ (@ze _ _ _ _ _ zj (@ze _ _ _ _ _ zj (@ze _ _ _ _ _ zj (@ze _ _ _ _ _ (@zE _ _ _ _ _ _ _ _ z0 (@zE _ _ _ _ _ _ _ _ ZM zj zj) zj) zg (by rfl)) (by rfl)) (by rfl)) (by rfl))) (@zv _ _ _ _ _ _ _ _ _ _ D_take (hr.mono (by first | decide | exact Nat.le_refl _ | omega)) rfl (@ze _ _ _ _ _ (@pv _ 0 _ _ (by rfl) (by first | exact Or.inl rfl | exact Or.inr (Or.inl rfl) | exact Or.inr (Or.inr rfl)) (by decide) (by decide)) (@ze _ _ _ _ _ zj zg (by rfl)) (by rfl)) (by decide) (by rfl) (by rfl)) (fun _ _ => rfl)) (by rfl) (by first | exact .inl rfl | exact .inr rfl | assumption)) (@zn _ _ _ _ _ (@Wy _ _ _ _ _ _ _ _ _ _ _ _ _ _ _ ["_law_box_here", "_law_most", "_law_columns_here"] [0,3,2] rfl rfl (by kernel_rfl) (@qG _ _ _ _ _ _ rfl B.range (@ze _ _ _ _ _ (@pv _ 1 _ _ (by rfl) (by first | exact Or.inl rfl | exact Or.inr (Or.inl rfl) | exact Or.inr (Or.inr rfl)) (by decide) (by decide)) zg (by rfl)) (by rfl)) (fun C0 s0 H0 ex0 => qk) (fun C0 s0 H0 ex0 => (@jv _ _ _ _ _ _ _ _ _ _ _ ["_law_box_here", "_law_most"] [1,2] rfl rfl (by kernel_rfl) (@qG _ _ _ _ _ _ rfl B.range (@ze _ _ _ _ _ (@pv _ 3 _ _ (by rfl) (by first | exact Or.inl rfl | exact Or.inr (Or.inl rfl) | exact Or.inr (Or.inr rfl)) (by decide) (by decide)) zg (by rfl)) (by rfl)) (fun C0 s0 H0 ex0 => qk) (fun C0 s0 H0 ex0 => (@zv _ _ _ _ _ _ _ _ _ _ D_take (hr.mono (by first | decide | exact Nat.le_refl _ | omega)) rfl (@ze _ _ _ _ _ (@pv _ 1 _ _ (by rfl) (by first | exact Or.inl rfl | exact Or.inr (Or.inl rfl) | exact Or.inr (Or.inr rfl)) (by decide) (by decide)) (@ze _ _ _ _ _ (@pv _ 2 _ _ (by rfl) (by first | exact Or.inl rfl | exact Or.inr (Or.inl rfl) | exact Or.inr (Or.inr rfl)) (by decide) (by decide)) zg (by rfl)) (by rfl)) (by decide) (by rfl) (by rfl))) (by intro _ ;rfl))) (@zV _ _ 4 _ nd rfl (Or.inl rfl) (by first | exact .inl rfl | exact .inr rfl | assumption)) (by rfl) (by intro _ ;rfl)) (@zn _ _ _ _ _ (@qg _ _ _ _ _ _ _ _ (@PW.pt _ _ _ (@ya _ _ _ _ _ _ _ (@zQ _ _ _ _ _ _ _ _ wE (@pv _ 1 _ _ (by rfl) (by first | exact Or.inl rfl | exact Or.inr (Or.inl rfl) | exact Or.inr (Or.inr rfl)) (by decide) (by decide)) zj (zI _)) (@vh _ _ _ _ (@zQ _ _ _ _ _ _ _ _ qB (@zv _ _ _ _ _ _ _ _ _ _ D_take (hr.mono (by first | decide | exact Nat.le_refl _ | omega)) rfl (@ze _ _ _ _ _ (@pv _ 0 _ _ (by rfl) (by first | exact Or.inl rfl | exact Or.inr (Or.inl rfl) | exact Or.inr (Or.inr rfl)) (by decide) (by decide)) (@ze _ _ _ _ _ zj zg (by rfl)) (by rfl)) (by decide) (by rfl) (by rfl)) zj (zI _))))) (@zu _ _ _ (@qX _ _ _ _ _ _ (@zW _ _ _ _ _ _ _ _ _ qr rfl B.list zM (@ze _ _ _ _ _ (@zJ _ _ _ _ _ _ _ zG (@pv _ 4 _ _ (by rfl) (by first | exact Or.inl rfl | exact Or.inr (Or.inl rfl) | exact Or.inr (Or.inr rfl)) (by decide) (by decide)) zj (fun _ _ => rfl)) zg (by rfl)) (by decide) (by decide) (by rfl) (by rfl)) (@jr _ _ _ _ _ _ _ (@pv _ 4 _ _ (by rfl) (by first | exact Or.inl rfl | exact Or.inr (Or.inl rfl) | exact Or.inr (Or.inr rfl)) (by decide) (by decide)) (@Xe _ _ _ _ _ _ ZA zj) qI (by intro _ ;rfl)) (by rfl) (by rfl) (by rfl))) zU) (@zu _ _ _ (@zA _ _ _ _ (@pv _ 4 _ _ (by rfl) (by first | exact Or.inl rfl | exact Or.inr (Or.inl rfl) | exact Or.inr (Or.inr rfl)) (by decide) (by decide))))))))),?_⟩
    have e62 : (2 : Int) ^ 62 = 4611686018427387904 := by decide
    refine ⟨_,rfl,(by show 4 <= _;omega),fun l1 h1 => ⟨_,rfl,b,4,n0,rfl,hb.new h1,by omega,by decide,by decide,fun r H1 r0 r1 B1 S1 => ?_⟩⟩
    have L1 := S1 l1 _ zi (hb.nne h1)
    obtain ⟨pz,ez,pz0,pz1⟩ := Yz r0 r1
    refine ⟨l1,_,_,_,rfl,rfl,SqL.of L1,ez,b,pz,_,rfl,B1,by omega,by omega,by omega,fun rows H2 q0 q1 B2 S2 => ?_⟩
    have S2' := ((SameB.refl b H).new (o := .lst [V.int 6,V.int 6,V.int 6,V.int 13]) h1).trans (S1.trans S2)
    clear S1 S2 B1 L1 h1
    refine ⟨_,rfl,_,rfl,_,rfl,_,_,rfl,rfl,4,13 - rows,rfl,b,_,_,rfl,B2,by omega,by split <;> omega,by split <;> omega,fun q H3 q0' q1' B3 S3 => ?_⟩
    have q2' : q < 13 - rows := by split at q1' <;> omega
    refine ⟨_,_,rfl,rfl,?_⟩
    refine ⟨_,_,rfl,rfl,⟨by decide,by decide,by decide⟩,_,_,rfl,rfl,(by show 4 <= _;omega),fun l2 h2 => ⟨_,rfl,b,4,_,rfl,B3.new h2,by omega,by decide,by decide,fun r2 H4 r20 r21 B4 S4 => ?_⟩⟩
    have L4 := S4 l2 _ zi (B3.nne h2)
    obtain ⟨mz,em,mz0,mz1⟩ := YB r20 r21
    refine ⟨l2,_,_,_,rfl,rfl,SqL.of L4,em,?_⟩
    have S4' := S2'.trans ((S3.new h2).trans S4)
    obtain ⟨n,rfl⟩ : ∃ n : Nat,rows = (n : Int) := ⟨rows.toNat,by omega⟩
    obtain ⟨m,hmq⟩ : ∃ m : Nat,(n : Int) + q = (m : Int) := ⟨((n : Int) + q).toNat,by omega⟩
    refine ⟨_,rfl,_,rfl,(by rw [e62];omega),(by rw [e62];omega),?_⟩
    rw [Int.toNat_natCast]
    have hmm : m <= 12 := by omega
    have hnm : n <= m := by omega
    refine xp (QR b H m n0)
      ⟨fun _ _ => 0,rfl,(fun x hx => absurd hx (Nat.not_lt_zero x)),(fun x hx => absurd hx (Nat.not_lt_zero x)),S4',B4.mono (by omega)⟩ ?_ ?_
    · rintro i zs H5 hi ⟨c,zl,za,zb,S5,B5⟩
      refine ⟨rfl,_,rfl,_,rfl,(by rw [e62];omega),(by rw [e62];omega),?_⟩
      rw [show ((n : Int) + q).toNat = m by omega]
      refine xp (QQ b H5 n0 i)
        ⟨fun _ => 0,rfl,(fun x hx => absurd hx (Nat.not_lt_zero x)),SameB.refl _ _,B5.mono (by omega)⟩ ?_ ?_
      · rintro j ys H6 hj ⟨g,rfl,gb,S6,B6⟩
        refine ⟨rfl,_,rfl,_,rfl,b,mz,_,rfl,B6,by omega,by omega,by omega,fun y H7 y0 y1 B7 S7 => ⟨?_,fun k => if k = j then y else g k,?_,fun k hk => ?_,S6.trans S7,B7.mono (by omega)⟩⟩
        · rw [List.length_map,List.length_range];omega
        · rw [List.range_succ,List.map_append]
          congr 1
          · refine List.map_congr_left fun k hk => ?_
            have := List.mem_range.mp hk
            show V.int (g k) = V.int (if k = j then y else g k)
            rw [if_neg (by omega)]
          · show [V.int y] = [V.int (if j = j then y else g j)]
            rw [if_pos rfl]
        · by_cases z : k = j
          · simp only [z,if_true];omega
          · simp only [z,if_false];exact gb k (by omega)
      · rintro ys H6 ⟨g,rfl,gb,S6,B6⟩
        refine ⟨by rw [List.length_map,List.length_range];omega,fun A hA => ⟨by omega,fun x j => if x = i then g j else c x j,by rw [List.length_append,zl];rfl,fun x hx => ?_,fun x hx j hj => ?_,(S5.trans S6).new hA,(B6.new hA).mono (by omega)⟩⟩
        · by_cases z : x = i
          · subst z
            refine ⟨A,by rw [List.getElem?_append_right (by omega),zl,Nat.sub_self];rfl,B6.nne hA,(S5.trans S6).none hA (B6.nne hA),?_⟩
            rw [zi]
            simp only [if_true]
          · obtain ⟨A',a1,a2,a3,a4⟩ := za x (by omega)
            refine ⟨A',by rw [List.getElem?_append_left (by omega)];exact a1,a2,a3,?_⟩
            have := S6 _ _ a4 a2
            rw [zw (zr this hA),this]
            simp only [z,if_false]
        · by_cases z : x = i
          · simp only [z,if_true];exact gb j hj
          · simp only [z,if_false];exact zb x (by omega) j hj
    · rintro zs H5 ⟨c,zl,za,zb,S5,B5⟩
      refine ⟨by omega,fun p hp => ?_⟩
      have np : p ≠ b := B5.nne hp
      have hpn : H p = none := S5.none hp np
      have S6 : SameB b H (upd H5 p (.lst zs)) := S5.new hp
      have B6 : BoxAt (upd H5 p (.lst zs)) b (n0 + 4 + 13 * n) := B5.new hp
      have p6 : upd H5 p (.lst zs) p = some (.lst zs) := zi
      have za6 : ∀ x,x < n -> ∃ A,zs[x]? = some (.ref A) /\ A ≠ b /\ A ≠ p /\ upd H5 p (.lst zs) A = some (.lst ((List.range m).map fun j => V.int (c x j))) := fun x hx => by
        obtain ⟨A,a1,a2,a3,a4⟩ := za x hx
        exact ⟨A,a1,a2,zr a4 hp,zf hp _ _ a4⟩
      generalize upd H5 p (.lst zs) = H6 at S6 B6 p6 za6
      have fin : ∀ H7,SameB b H6 H7 -> BoxAt H7 b (n0 + 200) -> Q (.ref p) H7 := fun H7 S7 B7 =>
        k c n m p H7 hpn (S6.trans S7) B7 ⟨zs,WX.at (by simpa using np) (S7 _ _ p6 np),zl,fun x hx => let ⟨A,a1,a2,_,a4⟩ := za6 x hx;⟨A,a1,WX.at (by simpa using a2) (S7 _ _ a4 a2)⟩⟩ hnm (by omega) zb
      refine ⟨_,rfl,_,_,rfl,rfl,_,rfl,qb (fun c1 => ?_) (fun c1 => ?_)⟩
      · have n1 : 1 < n := by
          have := of_decide_eq_true c1
          omega
        refine ⟨_,rfl,b,3,_,rfl,B6,by omega,by decide,by decide,fun y H7 y0 y1 B7 S7 => ⟨rfl,_,rfl,qb (fun c2 => ?_) (fun c2 => ⟨_,rfl,fin H7 S7 (B7.mono (by omega))⟩)⟩⟩
        obtain ⟨A0,a1,a2,_,a4⟩ := za6 0 (by omega)
        have p7 := S7 _ _ p6 np
        have a7 := S7 _ _ a4 a2
        refine ⟨_,rfl,p,_,_,.ref A0,rfl,rfl,SqL.of p7,zR (j := 0) a1,A0,_,rfl,.inl (SqL.of a7),fun l hl => ?_⟩
        have npl : p ≠ l := zr p7 hl
        have nlb : l ≠ b := B7.nne hl
        obtain ⟨n',rfl⟩ : ∃ n',n = n' + 1 := ⟨n - 1,by omega⟩
        refine ⟨_,rfl,_,rfl,p,_,_,n',rfl,rfl,zf hl _ _ p7,(by rw [zl];exact XA n'),?_⟩
        refine ⟨_,rfl,k (fun x j => if x = n' then c 0 j else c x j) (n' + 1) m p _ hpn ?_ ?_ ⟨zs.set n' (.ref l),WX.at (by simpa using np) zi,by rw [List.length_set];exact zl,fun x hx => ?_⟩ hnm (by omega) fun x hx j hj => ?_⟩
        · exact ((S6.trans S7).new hl).put hpn
        · exact ((B7.new hl).other np).mono (by omega)
        · by_cases z : x = n'
          · subst z
            refine ⟨l,List.getElem?_set_self (by omega),WX.at (by simpa using nlb) ?_⟩
            rw [zw (Ne.symm npl),zi]
            simp only [if_true]
          · obtain ⟨A,d1,d2,d3,d4⟩ := za6 x (by omega)
            refine ⟨A,by rw [List.getElem?_set_ne (Ne.symm z)];exact d1,WX.at (by simpa using d2) ?_⟩
            rw [zw d3,zf hl _ _ (S7 _ _ d4 d2)]
            simp only [z,if_false]
        · by_cases z : x = n'
          · simp only [z,if_true];exact zb 0 (by omega) j hj
          · simp only [z,if_false];exact zb x (by omega) j hj
      · exact ⟨_,rfl,fin H6 (SameB.refl _ _) (B6.mono (by omega))⟩
end
end L2
set_option Elab.async false
set_option linter.all false
set_option maxRecDepth 100000
set_option maxHeartbeats 4000000
namespace L2
open PySem PySem.Spec PyProof.Rows
theorem vp {K : Type} [DecidableEq K] : ∀ {js ks : List K},(ks ++ js).Nodup -> qR ks js = ks ++ js
  | [],ks,_ => by simp [qR]
  | j :: js,ks,h => by
    have hj : j ∉ ks := fun z => by
      rw [List.nodup_append] at h
      exact h.2.2 j z j (by simp) rfl
    have e : qR ks (j :: js) = qR (ks ++ [j]) js := by
      show js.foldl jB (jB ks j) = js.foldl jB (ks ++ [j])
      unfold jB
      rw [if_neg hj]
    rw [e,vp (by simpa using h)]
    simp
theorem w8 {K : PySem.W.Frag} {H : Hp} : ∀ {ds : List Dat} {xs : List V},xs.length = ds.length -> (∀ (i : Nat) d,ds[i]? = some d -> ∃ v,xs[i]? = some v /\ Rep K H d v) -> Reps K H ds xs
  | [],xs,l,_ => List.eq_nil_of_length_eq_zero l
  | d :: ds,[],l,_ => by simp at l
  | d :: ds,x :: xs,l,h => by
    obtain ⟨v,e1,r⟩ := h 0 d rfl
    cases e1
    exact ⟨x,xs,rfl,r,w8 (by simpa using l) fun i e he => by
      obtain ⟨w,e2,r2⟩ := h (i + 1) e (by simpa using he)
      exact ⟨w,by simpa using e2,r2⟩⟩
theorem vB : ∀ {ds : List Dat},(∀ d ∈ ds,d.shw = true) -> Dat.shws ds = true
  | [],_ => rfl
  | d :: ds,h => by
    show (d.shw && Dat.shws ds) = true
    rw [h d (by simp),vB fun e he => h e (List.mem_cons_of_mem _ he)]
    rfl
theorem vW {z : Nat} : ∀ {ds : List Dat},(∀ d ∈ ds,d.blk <= z) -> Dat.blks ds <= (z + 1) * ds.length
  | [],_ => Nat.zero_le _
  | d :: ds,h => by
    have h1 := h d (by simp)
    have h2 := vW (z := z) fun e he => h e (List.mem_cons_of_mem _ he)
    show d.blk + 1 + Dat.blks ds <= (z + 1) * (ds.length + 1)
    rw [Nat.mul_succ]
    omega
theorem vT {z : Nat} : ∀ {ds : List Dat},(∀ d ∈ ds,d.py.depth <= z) -> PyData.depthAll (Dat.pys ds) <= z
  | [],_ => Nat.zero_le _
  | d :: ds,h => by
    have h1 := h d (by simp)
    have h2 := vT (z := z) fun e he => h e (List.mem_cons_of_mem _ he)
    show max d.py.depth (PyData.depthAll (Dat.pys ds)) <= z
    omega
def wK (g : Nat -> Int) (m : Nat) : Dat := .lst ((List.range m).map fun j => .int (g j))
def Zk (c : Nat -> Nat -> Int) (n m : Nat) : Dat := .lst ((List.range n).map fun x => wK (c x) m)
theorem J9 {K : PySem.W.Frag} {H : Hp} {a : Addr} {g : Nat -> Int} {m : Nat} (h : H a = some (.lst ((List.range m).map fun j => V.int (g j)))) : Rep K H (wK g m) (.ref a) := by
  refine ⟨a,_,rfl,SqL.of h,w8 (by rw [List.length_map,List.length_map]) fun i d e => ?_⟩
  rw [List.getElem?_map] at e
  obtain ⟨j,ej,rfl⟩ := Option.map_eq_some_iff.mp e
  exact ⟨.int (g j),by rw [List.getElem?_map,ej];rfl,rfl⟩
theorem Xa {K : PySem.W.Frag} {H : Hp} {a : Addr} {c : Nat -> Nat -> Int} {n m : Nat} (h : CsAt H a c n m) : Rep K H (Zk c n m) (.ref a) := by
  obtain ⟨zs,h1,h2,h3⟩ := h
  refine ⟨a,zs,rfl,SqL.of h1,w8 (by rw [h2,List.length_map,List.length_range]) fun i d e => ?_⟩
  have hi := (List.getElem?_eq_some_iff.mp e).1
  rw [List.length_map,List.length_range] at hi
  rw [List.getElem?_map,List.getElem?_range hi] at e
  cases e
  obtain ⟨A,a1,a2⟩ := h3 i hi
  exact ⟨.ref A,a1,J9 a2⟩
theorem VE {g : Nat -> Int} {m : Nat} (h : ∀ j,j < m -> (g j).natAbs < 1000000000000) : (wK g m).shw = true /\ (wK g m).blk <= m /\ (wK g m).py.depth <= 2 := by
  have mem : ∀ d ∈ (List.range m).map (fun j => Dat.int (g j)),∃ j,j < m /\ d = .int (g j) := fun d hd => by
    obtain ⟨j,hj,rfl⟩ := List.mem_map.mp hd
    exact ⟨j,List.mem_range.mp hj,rfl⟩
  refine ⟨vB fun d hd => ?_,?_,?_⟩
  · obtain ⟨j,hj,rfl⟩ := mem d hd
    exact decide_eq_true (h j hj)
  · have := vW (z := 0) (ds := (List.range m).map fun j => Dat.int (g j)) fun d hd => by
      obtain ⟨j,hj,rfl⟩ := mem d hd
      exact Nat.le_refl _
    rw [List.length_map,List.length_range,Nat.zero_add,Nat.one_mul] at this
    exact this
  · have := vT (z := 1) (ds := (List.range m).map fun j => Dat.int (g j)) fun d hd => by
      obtain ⟨j,hj,rfl⟩ := mem d hd
      show PyData.depth (.int (g j)) <= 1
      simp [PyData.depth]
    show PyData.depth (.list (Dat.pys _)) <= 2
    simp only [PyData.depth]
    omega
theorem Hold.eq {hs : List (Nat × Nat)} {n : Nat} {f g : Nat -> Nat} (a : Hold hs n f) (b : Hold hs n g) : ∀ x,x < n -> f x = g x := fun x hx => by
  have := (a.2 (f x) x).mpr ⟨hx,rfl⟩
  exact ((b.2 (f x) x).mp this).2.symm
end L2
set_option Elab.async false
set_option linter.all false
set_option maxRecDepth 100000
set_option maxHeartbeats 4000000
namespace L2
open PySem PySem.Spec PyProof.Rows
def z9 : Dat -> Bool
  | .int _ => true
  | _ => false
def Zg : Dat -> Bool
  | .bl _ => true
  | _ => false
def iD : Dat -> Int
  | .int i => i
  | _ => 0
def z6 (k : Nat) : Dat -> Bool
  | .lst ds => decide (ds.length = k) && ds.all z9
  | _ => false
def z7 : Dat -> List Int
  | .lst ds => ds.map iD
  | _ => []
def wV (k : Nat) : Dat -> Bool
  | .tup ds => decide (ds.length = k)
  | _ => false
theorem Z2 (d : Dat) : qy d.tyN "int" = (z9 d || Zg d) := by
  cases d with
  | non => exact (by decide : qy "NoneType" "int" = false)
  | bl _ => exact (by decide : qy "bool" "int" = true)
  | int _ => exact (by decide : qy "int" "int" = true)
  | str _ => exact (by decide : qy "str" "int" = false)
  | lst _ => exact (by decide : qy "list" "int" = false)
  | tup _ => exact (by decide : qy "tuple" "int" = false)
theorem yB (d : Dat) : qy d.tyN "bool" = Zg d := by
  cases d with
  | non => exact (by decide : qy "NoneType" "bool" = false)
  | bl _ => exact (by decide : qy "bool" "bool" = true)
  | int _ => exact (by decide : qy "int" "bool" = false)
  | str _ => exact (by decide : qy "str" "bool" = false)
  | lst _ => exact (by decide : qy "list" "bool" = false)
  | tup _ => exact (by decide : qy "tuple" "bool" = false)
def XC : Dat -> Bool
  | .lst _ => true
  | _ => false
def XB : Dat -> Bool
  | .tup _ => true
  | _ => false
theorem vt (d : Dat) : qy d.tyN "list" = XC d := by
  cases d with
  | non => exact (by decide : qy "NoneType" "list" = false)
  | bl _ => exact (by decide : qy "bool" "list" = false)
  | int _ => exact (by decide : qy "int" "list" = false)
  | str _ => exact (by decide : qy "str" "list" = false)
  | lst _ => exact (by decide : qy "list" "list" = true)
  | tup _ => exact (by decide : qy "tuple" "list" = false)
theorem Z1 (d : Dat) : qy d.tyN "tuple" = XB d := by
  cases d with
  | non => exact (by decide : qy "NoneType" "tuple" = false)
  | bl _ => exact (by decide : qy "bool" "tuple" = false)
  | int _ => exact (by decide : qy "int" "tuple" = false)
  | str _ => exact (by decide : qy "str" "tuple" = false)
  | lst _ => exact (by decide : qy "list" "tuple" = false)
  | tup _ => exact (by decide : qy "tuple" "tuple" = true)
theorem Xq (d : Dat) : (if (z9 d || Zg d) = true then !Zg d else (z9 d || Zg d)) = z9 d := by cases d <;> rfl
theorem jO {α : Type} {l : List α} {i : Nat} {x : α} (h : l[i]? = some x) : l.take (i + 1) = l.take i ++ [x] := by
  obtain ⟨h1,h2⟩ := List.getElem?_eq_some_iff.mp h
  rw [<- h2,List.take_append_getElem]
theorem vn : ∀ ds : List Dat,ds.length <= Dat.blks ds
  | [] => Nat.zero_le _
  | d :: ds => by
    have := vn ds
    show ds.length + 1 <= d.blk + 1 + Dat.blks ds
    omega
theorem xG {ds : List Dat} (h : ds.all z9 = true) : ds = (ds.map iD).map Dat.int := by
  induction ds with
  | nil => rfl
  | cons d ds ih =>
    rw [List.all_cons,Bool.and_eq_true] at h
    rw [List.map_cons,List.map_cons,<- ih h.2]
    cases d with
    | int i => rfl
    | _ => cases h.1
theorem jR {K : PySem.W.Frag} {H : Hp} : ∀ {us : List Int} {xs : List V},Reps K H (us.map Dat.int) xs -> xs = us.map V.int
  | [],_,h => h
  | u :: us,_,⟨x,r,e,h1,h2⟩ => by
    rw [e,show x = V.int u from h1,jR h2]
    rfl
theorem qU {K : PySem.W.Frag} {H : Hp} {k : Nat} {d : Dat} {v : V} (h : z6 k d = true) (r : Rep K H d v) : ∃ a,v = .ref a /\ SqL K H a ((z7 d).map V.int) /\ (z7 d).length = k := by
  cases d with
  | lst ds =>
    obtain ⟨h1,h2⟩ := (Bool.and_eq_true _ _).mp h
    obtain ⟨a,xs,rfl,q,rs⟩ := r
    rw [xG h2] at rs
    refine ⟨a,rfl,?_,?_⟩
    · show SqL K H a ((ds.map iD).map V.int)
      rw [<- jR rs];exact q
    · show (ds.map iD).length = k
      rw [List.length_map];exact of_decide_eq_true h1
  | _ => cases h
section
variable {P : Program} {w : World} {K : PySem.W.Frag} {mg : Str -> Option Value} {base : Heap}
inductive Qc (K : PySem.W.Frag) (vs : List V) (H : Hp) (Q : VK) : Prop
  | mk (v : V) (d : Dat) (_ : vs = [v]) (_ : Rep K H d v) (_ : Q (.bl (z9 d)) H) : Qc K vs H Q
def xN (K : PySem.W.Frag) : Sp := fun vs H Q _ => Qc K vs H Q
theorem V1 : zH ["thing"] ["thing"] (zo (zp 1)) := ⟨rfl,rfl,rfl,by decide +kernel,rfl,by decide +kernel,by decide +kernel⟩
theorem WM {f : Addr} {fd : FuncData} (F : Fun K "is_number" "is_number" (zp 1) f fd) (B : Blt mg) : FnOk P w K mg base CX0 1 f fd ["thing"] (xN K) := by
  have nd := V1.nd
  refine F.ok V1 (fun vs H Q E h => ?_) (fun cdv A outer s H vs Q E hr h => ?_)
  · obtain ⟨v,d,rfl,_⟩ := h
    rfl
  · obtain ⟨v,d,rfl,rd,k⟩ := h
    refine ⟨_,(zu (zA (qQ (zk zT rfl B.isinstance boot_isinstance (ze (pv 0) (ze (zN (v := .ty "int") rfl B.int xy rfl) zg))) (jt (Xf (zk zT rfl B.isinstance boot_isinstance (ze (pv 0) (ze (zN (v := .ty "bool") rfl B.bool jZ rfl) zg)))))))),?_⟩
    refine ⟨_,rfl,v,d.tyN, "int",rfl,rd.ty,(by decide),?_⟩
    rw [Z2]
    rw [<- Xq d] at k
    refine ⟨_,rfl,qb (fun c => ?_) (fun c => ?_)⟩
    · rw [if_pos c] at k
      refine ⟨_,rfl,v,d.tyN, "bool",rfl,rd.ty,(by decide),?_⟩
      rw [yB]
      exact ⟨_,rfl,k⟩
    · rw [if_neg c,(Bool.not_eq_true _).mp c] at k
      exact k
theorem Yo : zH ["_law_thing"] ["_law_thing"] (zo (zp 25)) := ⟨rfl,rfl,rfl,by decide +kernel,rfl,by decide +kernel,by decide +kernel⟩
theorem YL {f : Addr} {fd : FuncData} (F : Fun K "_law_is_number" "_law_is_number" (zp 25) f fd) (B : Blt mg) : FnOk P w K mg base CX0 1 f fd ["_law_thing"] (xN K) := by
  have nd := Yo.nd
  refine F.ok Yo (fun vs H Q E h => ?_) (fun cdv A outer s H vs Q E hr h => ?_)
  · obtain ⟨v,d,rfl,_⟩ := h
    rfl
  · obtain ⟨v,d,rfl,rd,k⟩ := h
    refine ⟨_,(zu (zA (qQ (zk zT rfl B.isinstance boot_isinstance (ze (pv 0) (ze (zN (v := .ty "int") rfl B.int xy rfl) zg))) (jt (Xf (zk zT rfl B.isinstance boot_isinstance (ze (pv 0) (ze (zN (v := .ty "bool") rfl B.bool jZ rfl) zg)))))))),?_⟩
    refine ⟨_,rfl,v,d.tyN, "int",rfl,rd.ty,(by decide),?_⟩
    rw [Z2]
    rw [<- Xq d] at k
    refine ⟨_,rfl,qb (fun c => ?_) (fun c => ?_)⟩
    · rw [if_pos c] at k
      refine ⟨_,rfl,v,d.tyN, "bool",rfl,rd.ty,(by decide),?_⟩
      rw [yB]
      exact ⟨_,rfl,k⟩
    · rw [if_neg c,(Bool.not_eq_true _).mp c] at k
      exact k
inductive yK (K : PySem.W.Frag) (vs : List V) (H : Hp) (Q : VK) : Prop
  | mk (v : V) (d : Dat) (n : Nat) (_ : vs = [v,.int (n : Int)]) (_ : Rep K H d v) (_ : d.blk <= 1000000) (_ : ∀ H',Same H H' -> Q (.bl (z6 n d)) H') : yK K vs H Q
def j7 (K : PySem.W.Frag) : Sp := fun vs H Q _ => yK K vs H Q
theorem V5 : zH ["thing", "many"] ["thing", "many"] (zo (zp 14)) := ⟨rfl,rfl,rfl,by decide +kernel,rfl,by decide +kernel,by decide +kernel⟩
theorem WP {f : Addr} {fd : FuncData} (F : Fun K "are_numbers" "are_numbers" (zp 14) f fd) (B : Blt mg) (Dis_number : Dfn P w K mg base "is_number" 1 ["thing"] (xN K)) : FnOk P w K mg base CX0 2 f fd ["thing", "many"] (j7 K) := by
  have nd := V5.nd
  refine F.ok V5 (fun vs H Q E h => ?_) (fun cdv A outer s H vs Q E hr h => ?_)
  · obtain ⟨v,d,n,rfl,_⟩ := h
    rfl
  · obtain ⟨v,d,n,rfl,rd,hb,k⟩ := h
    have sz : sizeLine = 16777216 := sizeLine_eq
    refine ⟨_,(zu (zA (qQ (zk zT rfl B.isinstance boot_isinstance (ze (pv 0) (ze (zN (v := .ty "list") rfl B.list zM rfl) zg))) (qQ (qh qB (zk zx rfl B.len boot_len (ze (pv 0) zg)) (pv 1) (zI _)) (jt (zk (qD rfl) rfl B.all boot_all (ze (jv [] [] rfl rfl (by kernel_rfl) (qT (pv 0)) (fun C0 s0 H0 ex0 => qk) (fun C0 s0 H0 ex0 => (zv Dis_number (hr.mono (by first | decide | exact Nat.le_refl _ | omega)) rfl (ze (pv 0) zg)))) zg))))))),?_⟩
    refine ⟨_,rfl,v,d.tyN, "list",rfl,rd.ty,(by decide),?_⟩
    rw [vt]
    refine ⟨_,rfl,qb (fun c => ?_) (fun c => ?_)⟩
    · cases d with
      | lst ds =>
        obtain ⟨a,xs,rfl,hq,rx⟩ := rd
        have lds := rx.len
        have lb : ds.length <= 1000000 := Nat.le_trans (vn ds) hb
        refine ⟨_,rfl,a,xs,rfl,.inl hq,_,rfl,rfl,_,rfl,qb (fun c => ?_) (fun c => ?_)⟩
        · have en : ds.length = n := by have := of_decide_eq_true c;cases this;omega
          refine ⟨_,rfl,a,rfl,⟨_,hq⟩,jd (K := K) (a := a) (xs := xs) (fun i zs H1 => zs = ((ds.take i).map z9).map V.bl /\ Same H H1) ⟨rfl,Same.refl _⟩ (fun i zs H1 ⟨_,s1⟩ => s1.seq hq) ?_ ?_⟩
          · rintro i x zs H1 hx ⟨rfl,s1⟩
            obtain ⟨e,ed,re⟩ := (rx.same s1).get hx
            have hi : i < ds.length := (List.getElem?_eq_some_iff.mp ed).1
            refine ⟨rfl,_,rfl,x,e,rfl,re,?_,?_,s1⟩
            · rw [List.length_map,List.length_map,List.length_take];omega
            · rw [jO ed,List.map_append,List.map_append];rfl
          · rintro zs H1 ⟨rfl,s1⟩
            rw [lds,List.take_length]
            refine ⟨by rw [List.length_map,List.length_map];omega,fun q hq => ⟨q,ds.map z9,rfl,SqL.of zi,?_⟩⟩
            have := k _ (s1.trans (zf (o := .lst ((ds.map z9).map V.bl)) hq))
            rw [show z6 n (.lst ds) = (ds.map z9).all id by
              show (decide (ds.length = n) && ds.all z9) = _
              rw [decide_eq_true en,List.all_map];rfl] at this
            exact this
        · have en : ¬ ds.length = n := fun z => c (decide_eq_true (by rw [lds,z]))
          have := k _ (Same.refl _)
          rw [show z6 n (.lst ds) = false by
            show (decide (ds.length = n) && ds.all z9) = _
            rw [decide_eq_false en];rfl] at this
          exact this
      | _ => cases c
    · have := k _ (Same.refl _)
      rw [show z6 n d = false by cases d <;> first | rfl | exact absurd rfl c] at this
      exact this
theorem Ys : zH ["_law_thing", "_law_many"] ["_law_thing", "_law_many"] (zo (zp 26)) := ⟨rfl,rfl,rfl,by decide +kernel,rfl,by decide +kernel,by decide +kernel⟩
theorem YQ {f : Addr} {fd : FuncData} (F : Fun K "_law_are_numbers" "_law_are_numbers" (zp 26) f fd) (B : Blt mg) (D_is_number : Dfn P w K mg base "_law_is_number" 1 ["_law_thing"] (xN K)) : FnOk P w K mg base CX0 2 f fd ["_law_thing", "_law_many"] (j7 K) := by
  have nd := Ys.nd
  refine F.ok Ys (fun vs H Q E h => ?_) (fun cdv A outer s H vs Q E hr h => ?_)
  · obtain ⟨v,d,n,rfl,_⟩ := h
    rfl
  · obtain ⟨v,d,n,rfl,rd,hb,k⟩ := h
    have sz : sizeLine = 16777216 := sizeLine_eq
    refine ⟨_,(zu (zA (qQ (zk zT rfl B.isinstance boot_isinstance (ze (pv 0) (ze (zN (v := .ty "list") rfl B.list zM rfl) zg))) (qQ (qh qB (zk zx rfl B.len boot_len (ze (pv 0) zg)) (pv 1) (zI _)) (jt (zk (qD rfl) rfl B.all boot_all (ze (jv [] [] rfl rfl (by kernel_rfl) (qT (pv 0)) (fun C0 s0 H0 ex0 => qk) (fun C0 s0 H0 ex0 => (zv D_is_number (hr.mono (by first | decide | exact Nat.le_refl _ | omega)) rfl (ze (pv 0) zg)))) zg))))))),?_⟩
    refine ⟨_,rfl,v,d.tyN, "list",rfl,rd.ty,(by decide),?_⟩
    rw [vt]
    refine ⟨_,rfl,qb (fun c => ?_) (fun c => ?_)⟩
    · cases d with
      | lst ds =>
        obtain ⟨a,xs,rfl,hq,rx⟩ := rd
        have lds := rx.len
        have lb : ds.length <= 1000000 := Nat.le_trans (vn ds) hb
        refine ⟨_,rfl,a,xs,rfl,.inl hq,_,rfl,rfl,_,rfl,qb (fun c => ?_) (fun c => ?_)⟩
        · have en : ds.length = n := by have := of_decide_eq_true c;cases this;omega
          refine ⟨_,rfl,a,rfl,⟨_,hq⟩,jd (K := K) (a := a) (xs := xs) (fun i zs H1 => zs = ((ds.take i).map z9).map V.bl /\ Same H H1) ⟨rfl,Same.refl _⟩ (fun i zs H1 ⟨_,s1⟩ => s1.seq hq) ?_ ?_⟩
          · rintro i x zs H1 hx ⟨rfl,s1⟩
            obtain ⟨e,ed,re⟩ := (rx.same s1).get hx
            have hi : i < ds.length := (List.getElem?_eq_some_iff.mp ed).1
            refine ⟨rfl,_,rfl,x,e,rfl,re,?_,?_,s1⟩
            · rw [List.length_map,List.length_map,List.length_take];omega
            · rw [jO ed,List.map_append,List.map_append];rfl
          · rintro zs H1 ⟨rfl,s1⟩
            rw [lds,List.take_length]
            refine ⟨by rw [List.length_map,List.length_map];omega,fun q hq => ⟨q,ds.map z9,rfl,SqL.of zi,?_⟩⟩
            have := k _ (s1.trans (zf (o := .lst ((ds.map z9).map V.bl)) hq))
            rw [show z6 n (.lst ds) = (ds.map z9).all id by
              show (decide (ds.length = n) && ds.all z9) = _
              rw [decide_eq_true en,List.all_map];rfl] at this
            exact this
        · have en : ¬ ds.length = n := fun z => c (decide_eq_true (by rw [lds,z]))
          have := k _ (Same.refl _)
          rw [show z6 n (.lst ds) = false by
            show (decide (ds.length = n) && ds.all z9) = _
            rw [decide_eq_false en];rfl] at this
          exact this
      | _ => cases c
    · have := k _ (Same.refl _)
      rw [show z6 n d = false by cases d <;> first | rfl | exact absurd rfl c] at this
      exact this
inductive Z4 (K : PySem.W.Frag) (vs : List V) (H : Hp) (Q : VK) : Prop
  | mk (v : V) (d : Dat) (n : Nat) (_ : vs = [v,.int (n : Int)]) (_ : Rep K H d v) (_ : Q (.bl (wV n d)) H) : Z4 K vs H Q
def JN (K : PySem.W.Frag) : Sp := fun vs H Q _ => Z4 K vs H Q
theorem Yk : zH ["thing", "many"] ["thing", "many"] (zo (zp 4)) := ⟨rfl,rfl,rfl,by decide +kernel,rfl,by decide +kernel,by decide +kernel⟩
theorem YH {f : Addr} {fd : FuncData} (F : Fun K "is_tuple_of" "is_tuple_of" (zp 4) f fd) (B : Blt mg) : FnOk P w K mg base CX0 1 f fd ["thing", "many"] (JN K) := by
  have nd := Yk.nd
  refine F.ok Yk (fun vs H Q E h => ?_) (fun cdv A outer s H vs Q E hr h => ?_)
  · obtain ⟨v,d,n,rfl,_⟩ := h
    rfl
  · obtain ⟨v,d,n,rfl,rd,k⟩ := h
    refine ⟨_,(zu (zA (qQ (zk zT rfl B.isinstance boot_isinstance (ze (pv 0) (ze (zN (v := .ty "tuple") rfl B.tuple qt rfl) zg))) (jt (qh qB (zk zx rfl B.len boot_len (ze (pv 0) zg)) (pv 1) (zI _)))))),?_⟩
    refine ⟨_,rfl,v,d.tyN, "tuple",rfl,rd.ty,(by decide),?_⟩
    rw [Z1]
    refine ⟨_,rfl,qb (fun c => ?_) (fun c => ?_)⟩
    · cases d with
      | tup ds =>
        obtain ⟨a,xs,rfl,hq,rx⟩ := rd
        have lds := rx.len
        refine ⟨_,rfl,a,xs,rfl,.inr hq,_,rfl,?_⟩
        rw [show wV n (.tup ds) = decide (V.int (xs.length : Int) = V.int (n : Int)) by
          show decide (ds.length = n) = _
          rw [lds]
          refine decide_eq_decide.mpr ⟨fun h => by rw [h],fun h => ?_⟩
          cases h
          rfl] at k
        exact ⟨rfl,k⟩
      | _ => cases c
    · rw [show wV n d = false by cases d <;> first | rfl | exact absurd rfl c] at k
      exact k
inductive JL (vs : List V) (H : Hp) (Q : VK) : Prop
  | mk (a : Addr) (c : Nat -> Nat -> Int) (n m : Nat) (_ : vs = [.ref a]) (_ : CsAt H a c n m) (_ : (n = 0 -> m = 0)) (_ : Q (.int (m : Int)) H) : JL  vs H Q
def JM : Sp := fun vs H Q _ => JL  vs H Q
theorem Yj : zH ["costs"] ["costs"] (zo (zp 6)) := ⟨rfl,rfl,rfl,by decide +kernel,rfl,by decide +kernel,by decide +kernel⟩
theorem YG {f : Addr} {fd : FuncData} (F : Fun K "width_of" "width_of" (zp 6) f fd) (B : Blt mg) : FnOk P w K mg base CX0 1 f fd ["costs"] JM := by
  have nd := Yj.nd
  refine F.ok Yj (fun vs H Q E h => ?_) (fun cdv A outer s H vs Q E hr h => ?_)
  · obtain ⟨a,c,n,m,rfl,_⟩ := h
    rfl
  · obtain ⟨a,c,n,m,rfl,⟨zs,h1,h2,h3⟩,h0,k⟩ := h
    refine ⟨_,(zn (qg (qv (Vj (pv 0)))
      (zu (zA zj))
      zU)
      (zu (zA (zk zx rfl B.len boot_len (ze (zJ zG (pv 0) zj (fun _ _ => rfl)) zg))))),?_⟩
    cases n with
    | zero =>
      cases zs with
      | cons z zs => cases h2
      | nil =>
        rw [h0 rfl] at k
        exact ⟨_,rfl,a,[],rfl,SqL.of h1,ifT rfl k⟩
    | succ n =>
      cases zs with
      | nil => cases h2
      | cons z zs =>
        obtain ⟨A1,e1,e2⟩ := h3 0 (by omega)
        refine ⟨_,rfl,a,_,rfl,SqL.of h1,ifF rfl ⟨_,rfl,a,_,_,.ref A1,rfl,rfl,SqL.of h1,zR (j := 0) e1,A1,_,rfl,.inl (SqL.of e2),?_⟩⟩
        rw [List.length_map,List.length_range]
        exact k
end
end L2
set_option Elab.async false
set_option linter.all false
set_option maxRecDepth 100000
set_option maxHeartbeats 4000000
namespace L2
open PySem PySem.Spec PyProof.Rows
def J8 (c : Nat -> Nat -> Int) (m : Nat) (us vs : List Int) (x : Nat) : Bool := (List.range m).all fun j => decide (us.getD x 0 + vs.getD j 0 <= c x j)
def wn (c : Nat -> Nat -> Int) (n m : Nat) (us vs : List Int) : Bool := (vs.all fun z => decide (z <= 0)) && (List.range n).all (J8 c m us vs)
def xn (c : Nat -> Nat -> Int) (n m : Nat) : Dat -> Bool
  | .tup [a,b] => z6 n a && (z6 m b && wn c n m (z7 a) (z7 b))
  | _ => false
def wo (c : Nat -> Nat -> Int) (m : Nat) (us vs : List Int) (i : Nat) : List Bool := (List.range i).flatMap fun x => (List.range m).map fun j => decide (us.getD x 0 + vs.getD j 0 <= c x j)
theorem vI (c : Nat -> Nat -> Int) (m : Nat) (us vs : List Int) : ∀ i,(wo c m us vs i).length = i * m
  | 0 => by simp [wo]
  | i + 1 => by
    have := vI c m us vs i
    unfold wo at this ⊢
    rw [List.range_succ,List.flatMap_append,List.length_append,this]
    simp [Nat.succ_mul]
theorem Xl (c : Nat -> Nat -> Int) (n m : Nat) (us vs : List Int) : (wo c m us vs n).all id = (List.range n).all (J8 c m us vs) := by
  unfold wo
  rw [List.all_flatMap]
  congr 1
  funext x
  rw [List.all_map]
  rfl
theorem xq {us : List Int} {i : Nat} {x : V} (h : (us.map V.int)[i]? = some x) : x = .int (us.getD i 0) /\ i < us.length := by
  rw [List.getElem?_map] at h
  obtain ⟨u,e,rfl⟩ := Option.map_eq_some_iff.mp h
  refine ⟨?_,(List.getElem?_eq_some_iff.mp e).1⟩
  rw [List.getD_eq_getElem?_getD,e]
  rfl
theorem xo {us : List Int} {i : Nat} (h : i < us.length) : (us.map V.int)[i]? = some (.int (us.getD i 0)) := by
  rw [List.getElem?_map,List.getD_eq_getElem?_getD,List.getElem?_eq_getElem h]
  rfl
theorem Wi {d : Dat} (h : wV 2 d = true) : ∃ a b,d = .tup [a,b] := by
  cases d with
  | tup ds =>
    have := of_decide_eq_true h
    match ds,this with
    | [a,b],_ => exact ⟨a,b,rfl⟩
  | _ => cases h
section
variable {P : Program} {w : World} {K : PySem.W.Frag} {mg : Str -> Option Value} {base : Heap}
inductive Z7 (K : PySem.W.Frag) (vs : List V) (H : Hp) (Q : VK) : Prop
  | mk (a : Addr) (c : Nat -> Nat -> Int) (n m : Nat) (v : V) (d : Dat) (_ : vs = [.ref a,v]) (_ : CsAt H a c n m) (_ : (n = 0 -> m = 0)) (_ : n <= 63) (_ : m <= 63) (_ : Rep K H d v) (_ : d.blk <= 1000000) (_ : ∀ H',Same H H' -> Q (.bl (xn c n m d)) H') : Z7 K vs H Q
def wz (K : PySem.W.Frag) : Sp := fun vs H Q _ => Z7 K vs H Q
theorem VW : zH ["costs", "thing", "rows", "columns"] ["costs", "thing"] (zo (zp 15)) := ⟨rfl,rfl,rfl,by decide +kernel,rfl,by decide +kernel,by decide +kernel⟩
def QP (c : _) (m : _) (us : List Int) (vs : List Int) (i : _) (H : _) := fun (j : Nat) (zs : List V) (H7 : Hp) => (An2 (zs = (wo c m us vs i ++ (List.range j).map fun j => decide (us.getD i 0 + vs.getD j 0 <= c i j)).map V.bl) (Same H H7) : Prop)
theorem WG {f : Addr} {fd : FuncData} (F : Fun K "shows_paper" "shows_paper" (zp 15) f fd) (B : Blt mg) (Dis_tuple_of : Dfn P w K mg base "is_tuple_of" 1 ["thing", "many"] (JN K)) (Dare_numbers : Dfn P w K mg base "are_numbers" 2 ["thing", "many"] (j7 K)) (Dwidth_of : Dfn P w K mg base "width_of" 1 ["costs"] JM) :
    FnOk P w K mg base CX0 3 f fd ["costs", "thing"] (wz K) := by
  have nd := VW.nd
  refine F.ok VW (fun vs H Q E h => ?_) (fun cdv A outer s H vs Q E hr h => ?_)
  · obtain ⟨a,c,n,m,v,d,rfl,_⟩ := h
    rfl
  · obtain ⟨a,c,n,m,v,d,rfl,cs,h0,hn,hm,rd,hb,k⟩ := h
    have sz : sizeLine = 16777216 := sizeLine_eq
    refine ⟨_,(zn (qg (qv (zZ (zv Dis_tuple_of (hr.mono (by first | decide | exact Nat.le_refl _ | omega)) rfl (ze (pv 1) (ze zj zg)))))
      (zu (zA qJ))
      zU)
      (zn (qX (pv 1) (qN rfl (zK (zV (i := 2) nd rfl (Or.inl rfl)) (zK (zV (i := 3) nd rfl (Or.inr rfl)) qC))))
      (zn (qg (PW.pt (jz (qv (zZ (zv Dare_numbers (hr.mono (by first | decide | exact Nat.le_refl _ | omega)) rfl (ze (pv 2) (ze (zk zx rfl B.len boot_len (ze (pv 0) zg)) zg))))) (qW (qv (zZ (zv Dare_numbers (hr.mono (by first | decide | exact Nat.le_refl _ | omega)) rfl (ze (pv 3) (ze (zv Dwidth_of (hr.mono (by first | decide | exact Nat.le_refl _ | omega)) rfl (ze (pv 0) zg)) zg))))))))
      (zu (zA qJ))
      zU)
      (zn (qg (zZ (zk (Jy rfl) rfl B.any XZ (ze (jv [] [] rfl rfl (by kernel_rfl) (qT (pv 3)) (fun C0 s0 H0 ex0 => qk) (fun C0 s0 H0 ex0 => (qh wE (pv 0) zj (zI _)))) zg)))
      (zu (zA qJ))
      zU)
      (zu (zA (zk (qD rfl) rfl B.all boot_all (ze (Vm ["columns"] [3] rfl rfl (by kernel_rfl) (ye rfl B.zip (ze (pv 2) (ze (pv 0) zg))) (fun C0 s0 H0 ex0 => qk) (fun C0 s0 H0 ex0 => (Vl (K := K) rfl rfl B.zip (ze (pv 4) (ze (pv 1) zg)))) (fun C0 s0 H0 ex0 => qk) (fun C0 s0 H0 ex0 => (qh wD (zE z0 (pv 0) (pv 2)) (pv 3) (zI _)))) zg)))))))),?_⟩
    refine ⟨_,rfl,v,d,2,rfl,rd,_,rfl,qb (fun c1 => ?_) (fun c1 => ?_)⟩
    · have e : xn c n m d = false := by
        have c1 : wV 2 d = false := by simpa using c1
        match d,c1 with
        | .tup [x,y],c1 => cases c1
        | .tup [],_ => rfl
        | .tup [_],_ => rfl
        | .tup (_ :: _ :: _ :: _),_ => rfl
        | .non,_ => rfl
        | .bl _,_ => rfl
        | .int _,_ => rfl
        | .str _,_ => rfl
        | .lst _,_ => rfl
      have := k _ (Same.refl _)
      rw [e] at this
      exact this
    have c1 : wV 2 d = true := by simpa using c1
    obtain ⟨d1,d2,rfl⟩ := Wi c1
    obtain ⟨T,xs,rfl,hT,x1,r1,rfl,rd1,x2,r2,rfl,rd2,e⟩ := rd
    cases e
    have hb1 : d1.blk <= 1000000 /\ d2.blk <= 1000000 := by
      have : d1.blk + 1 + (d2.blk + 1 + 0) <= 1000000 := hb
      omega
    refine ⟨_,rfl,T,_,rfl,hT,rfl,_,_,rfl,_,_,rfl,rfl,?_⟩
    obtain ⟨zc,hz1,hz2,hz3⟩ := id cs
    refine ⟨_,rfl,_,rfl,a,zc,rfl,.inl (SqL.of hz1),x1,d1,n,by rw [hz2];rfl,rd1,hb1.1,fun H1 s1 => ?_⟩
    have fin : ∀ H',Same H H' -> z6 n d1 = false \/ z6 m d2 = false -> Q (.bl false) H' := fun H' s' e => by
      have := k H' s'
      rw [show xn c n m (.tup [d1,d2]) = false by
        show (z6 n d1 && (z6 m d2 && _)) = false
        rcases e with e | e <;> rw [e] <;> simp] at this
      exact this
    refine ⟨_,rfl,qb (fun c2 => ifT rfl (fin _ s1 (.inl (by simpa using c2)))) (fun c2 => ?_)⟩
    have c2 : z6 n d1 = true := by simpa using c2
    refine ⟨_,rfl,_,rfl,a,c,n,m,rfl,cs.same s1,h0,x2,d2,m,rfl,rd2.same s1,hb1.2,fun H2 s2 => ?_⟩
    have s2 := s1.trans s2
    refine ⟨_,rfl,qb (fun c3 => fin _ s2 (.inr (by simpa using c3))) (fun c3 => ?_)⟩
    have c3 : z6 m d2 = true := by simpa using c3
    have ek : xn c n m (.tup [d1,d2]) = wn c n m (z7 d1) (z7 d2) := by
      show (z6 n d1 && (z6 m d2 && _)) = _
      rw [c2,c3];rfl
    rw [ek] at k
    obtain ⟨l1,rfl,q1,e1⟩ := qU c2 rd1
    obtain ⟨l2,rfl,q2,e2⟩ := qU c3 rd2
    generalize z7 d1 = us at q1 e1 k
    generalize z7 d2 = vs at q2 e2 k
    have lv : (vs.map V.int).length = m := by rw [List.length_map];exact e2
    have lu : (us.map V.int).length = n := by rw [List.length_map];exact e1
    refine ⟨_,rfl,l2,rfl,⟨_,s2.seq q2⟩,jd (K := K) (a := l2) (xs := vs.map V.int) (fun i zs H3 => zs = ((vs.take i).map fun z => decide (z > 0)).map V.bl /\ Same H H3) ⟨rfl,s2⟩ (fun i zs H3 ⟨_,s3⟩ => s3.seq q2) ?_ ?_⟩
    · rintro i x zs H3 hx ⟨rfl,s3⟩
      obtain ⟨rfl,hi⟩ := xq hx
      have ev : vs[i]? = some (vs.getD i 0) := by rw [List.getD_eq_getElem?_getD,List.getElem?_eq_getElem hi];rfl
      refine ⟨rfl,_,rfl,_,_,rfl,rfl,?_,?_,s3⟩
      · rw [List.length_map,List.length_map,List.length_take];omega
      · rw [jO ev,List.map_append,List.map_append];rfl
    rintro zs H3 ⟨rfl,s3⟩
    rw [lv,<- e2,List.take_length]
    refine ⟨by rw [List.length_map,List.length_map];omega,fun D1 hD1 => ⟨D1,vs.map fun z => decide (z > 0),rfl,SqL.of zi,_,rfl,?_⟩⟩
    have s4 := s3.trans (zf (o := .lst ((vs.map fun z => decide (z > 0)).map V.bl)) hD1)
    generalize upd H3 D1 (.lst ((vs.map fun z => decide (z > 0)).map V.bl)) = H4 at s4
    have ea : ((vs.map fun z => decide (z > 0)).any id) = !(vs.all fun z => decide (z <= 0)) := by
      rw [List.any_map,List.not_all_eq_any_not]
      congr 1
      funext z
      show decide (z > 0) = !decide (z <= 0)
      by_cases hz : z <= 0
      · rw [decide_eq_true hz,decide_eq_false (by omega)];rfl
      · rw [decide_eq_false hz,decide_eq_true (by omega)];rfl
    rw [ea]
    refine qb (fun c4 => ?_) (fun c4 => ?_)
    · have := k _ s4
      rw [show wn c n m us vs = false by
        unfold wn
        rw [show (vs.all fun z => decide (z <= 0)) = false by simpa using c4];rfl] at this
      exact this
    have c4 : (vs.all fun z => decide (z <= 0)) = true := by simpa using c4
    have ez : wn c n m us vs = (wo c m us vs n).all id := by
      unfold wn
      rw [c4,Xl];rfl
    rw [ez] at k
    refine ⟨_,rfl,_,rfl,true,true,l1,a,rfl,⟨_,s4.seq q1⟩,⟨_,SqL.of (s4 _ _ hz1)⟩,?_⟩
    refine VD (K := K) (k1 := true) (k2 := true) (xs := us.map V.int) (ys := zc) (fun i zs H5 => zs = (wo c m us vs i).map V.bl /\ Same H H5) ⟨rfl,s4⟩ (fun i zs H5 ⟨_,s5⟩ => ⟨s5.seq q1,SqL.of (s5 _ _ hz1)⟩) ?_ ?_
    · rintro i x y zs H5 T5 hx hy ⟨rfl,s5⟩ hT5
      obtain ⟨rfl,hi⟩ := xq hx
      have hin : i < n := by omega
      obtain ⟨A1,a1,a2⟩ := hz3 i hin
      rw [a1] at hy
      cases hy
      have s6 := s5.trans (zf (o := .tup [.int (us.getD i 0),.ref A1]) hT5)
      refine ⟨T5,_,rfl,SqT.of zi,rfl,_,_,rfl,_,_,rfl,rfl,rfl,?_⟩
      generalize upd H5 T5 (.tup [.int (us.getD i 0),.ref A1]) = H6 at s6
      refine ⟨_,rfl,_,rfl,true,true,l2,A1,rfl,⟨_,s6.seq q2⟩,⟨_,SqL.of (s6 _ _ a2)⟩,?_⟩
      refine W1 (K := K) (k1 := true) (k2 := true) (xs := vs.map V.int) (ys := (List.range m).map fun j => V.int (c i j)) (QP c m us vs i H) ⟨by simp,s6⟩ (fun j zs H7 ⟨_,s7⟩ => ⟨s7.seq q2,SqL.of (s7 _ _ a2)⟩) ?_ ?_
      · rintro j x y zs H7 T7 hx hy ⟨rfl,s7⟩ hT7
        obtain ⟨rfl,hj⟩ := xq hx
        have hjm : j < m := by omega
        rw [List.getElem?_map,List.getElem?_range hjm] at hy
        cases hy
        have s8 := s7.trans (zf (o := .tup [.int (vs.getD j 0),.int (c i j)]) hT7)
        refine ⟨T7,_,rfl,SqT.of zi,rfl,_,_,rfl,_,_,rfl,rfl,⟨rfl,rfl,rfl,trivial⟩,?_⟩
        refine ⟨_,rfl,_,rfl,_,_,rfl,rfl,_,rfl,_,_,rfl,rfl,?_,?_,s8⟩
        · rw [List.length_map,List.length_append,vI,List.length_map,List.length_range]
          have := Nat.mul_le_mul (show i <= 63 by omega) hm
          omega
        · rw [List.range_succ]
          simp
      · rintro zs H7 ⟨rfl,s7⟩
        have em : min (vs.map V.int).length ((List.range m).map fun j => V.int (c i j)).length = m := by rw [lv,List.length_map,List.length_range,Nat.min_self]
        rw [em]
        refine ⟨?_,s7⟩
        unfold wo
        rw [List.range_succ (n := i),List.flatMap_append]
        simp
    · rintro zs H5 ⟨rfl,s5⟩
      have em : min (us.map V.int).length zc.length = n := by omega
      rw [em]
      refine ⟨?_,fun D2 hD2 => ⟨D2,wo c m us vs n,rfl,SqL.of zi,k _ (s5.trans (zf hD2))⟩⟩
      rw [List.length_map,vI]
      have := Nat.mul_le_mul hn hm
      omega
end
end L2
set_option Elab.async false
set_option linter.all false
set_option maxRecDepth 100000
set_option maxHeartbeats 4000000
namespace L2
open PySem PySem.Spec PyProof.Rows
theorem vJ {c : Nat -> Nat -> Int} {n m : Nat} {d : Dat} (h : wV 2 d = false) : xn c n m d = false := by
  match d,h with
  | .tup [x,y],c1 => cases c1
  | .tup [],_ => rfl
  | .tup [_],_ => rfl
  | .tup (_ :: _ :: _ :: _),_ => rfl
  | .non,_ => rfl
  | .bl _,_ => rfl
  | .int _,_ => rfl
  | .str _,_ => rfl
  | .lst _,_ => rfl
theorem X2 {p : Nat -> Bool} {i : Nat} (h : (List.range i).all p = true) (hp : p i = true) : (List.range (i + 1)).all p = true := by
  rw [List.range_succ,List.all_append,h]
  simp [hp]
theorem VQ {p : Nat -> Bool} {i n : Nat} (hi : i < n) (h : p i = false) : (List.range n).all p = false := by
  rw [Bool.eq_false_iff]
  intro z
  have := List.all_eq_true.mp z i (List.mem_range.mpr hi)
  rw [h] at this
  cases this
section
variable {P : Program} {w : World} {K : PySem.W.Frag} {mg : Str -> Option Value} {base : Heap}
theorem V2 : zH ["_law_costs_here", "_law_thing", "_law_many", "_law_row", "_law_some"] ["_law_costs_here", "_law_thing"] (zo (zp 27)) := ⟨rfl,rfl,rfl,by decide +kernel,rfl,by decide +kernel,by decide +kernel⟩
def QO (a : _) (T : _) (m : Nat) (H : _) (c : _) (us : List Int) (vs : List Int) := fun (i : Nat) (σ : St) (H4 : Hp) => (Ex2 fun (v3 v4 : Option V) => An3 (σ = [some (.ref a),some (.ref T),some (.int (m : Int)),v3,v4]) (Same H H4) ((List.range i).all (J8 c m us vs) = true) : Prop)
theorem WL {f : Addr} {fd : FuncData} (F : Fun K "_law_is_paper" "_law_is_paper" (zp 27) f fd) (B : Blt mg) (D_are_numbers : Dfn P w K mg base "_law_are_numbers" 2 ["_law_thing", "_law_many"] (j7 K)) :
    FnOk P w K mg base CX0 3 f fd ["_law_costs_here", "_law_thing"] (wz K) := by
  have nd := V2.nd
  refine F.ok V2 (fun vs H Q E h => ?_) (fun cdv A outer s H vs Q E hr h => ?_)
  · obtain ⟨a,c,n,m,v,d,rfl,_⟩ := h
    rfl
  · obtain ⟨a,c,n,m,v,d,rfl,cs,h0,hn,hm,rd,hb,k⟩ := h
    have sz : sizeLine = 16777216 := sizeLine_eq
    have hu := hr.units0
    refine ⟨_,(zn (yb (zL (i := 2) nd rfl (Or.inl rfl) (jn (zQ (Xm hu) (pv 0) (qF zg) (zI _)) (zk zx rfl B.len boot_len (ze (zJ zG (pv 0) zj (fun _ _ => rfl)) zg)) zj)))
      (zn (qg (PW.pt (jz (qv (zZ (zk zT rfl B.isinstance boot_isinstance (ze (pv 1) (ze (zN (v := .ty "tuple") rfl B.tuple qt rfl) zg))))) (qW (zQ yW (zk zx rfl B.len boot_len (ze (pv 1) zg)) zj (zI _)))))
      (zu (zA qJ))
      zU)
      (zn (qg (PW.pt (jz (qv (zZ (zv D_are_numbers (hr.mono (by first | decide | exact Nat.le_refl _ | omega)) rfl (ze (zJ qO (pv 1) zj (fun _ _ => rfl)) (ze (zk zx rfl B.len boot_len (ze (pv 0) zg)) zg))))) (qW (qv (zZ (zv D_are_numbers (hr.mono (by first | decide | exact Nat.le_refl _ | omega)) rfl (ze (zJ qO (pv 1) zj (fun _ _ => rfl)) (ze (pv 2) zg))))))))
      (zu (zA qJ))
      zU)
      (zn (jg PassesOwn.never rfl (jc rfl B.enumerate (ze (pv 0) zg)) (qN rfl (zK (zV (i := 3) nd rfl (Or.inr rfl)) (zK (zV (i := 4) nd rfl (Or.inl rfl)) qC)))
      (zu (qg (qv (zZ (zk (qD rfl) rfl B.all boot_all (ze (ju ["_law_row", "_law_thing"] [3,1] rfl rfl (by kernel_rfl) (jc rfl B.enumerate (ze (pv 4) zg)) (fun C0 s0 H0 ex0 => qk) (fun C0 s0 H0 ex0 => (qh wD (zE z0 (zJ (qK (K := K) rfl) (zJ (Qv (K := K) rfl) (pv 3) zj (fun _ _ => rfl)) (pv 2) (fun _ _ => rfl)) (zJ (qK (K := K) rfl) (zJ (Qv (K := K) rfl) (pv 3) zj (fun _ _ => rfl)) (pv 0) (fun _ _ => rfl))) (pv 1) (zI _)))) zg))))
        (zu (zA qJ))
        zU)))
      (zu (zA (zk (qD rfl) rfl B.all boot_all (ze (jv [] [] rfl rfl (by kernel_rfl) (qT (zJ qO (pv 1) zj (fun _ _ => rfl))) (fun C0 s0 H0 ex0 => qk) (fun C0 s0 H0 ex0 => (qh wD (pv 0) zj (zI _)))) zg)))))))),?_⟩
    obtain ⟨zc,hz1,hz2,hz3⟩ := id cs
    refine ⟨fun σ H1 => σ = [some (.ref a),some v,some (.int (m : Int)),none,none] /\ Same H H1,?_,?_⟩
    · refine ⟨_,rfl,Nat.zero_le _,fun b hbn => ⟨a,b,zc,rfl,rfl,SqL.of (zf hbn _ _ hz1),SqL.of zi,?_⟩⟩
      cases n with
      | zero =>
        cases zc with
        | cons z zs => cases hz2
        | nil => exact ⟨_,rfl,ifF rfl ⟨by rw [h0 rfl];rfl,zf hbn⟩⟩
      | succ n =>
        cases zc with
        | nil => cases hz2
        | cons z zs =>
          obtain ⟨A1,e1,e2⟩ := hz3 0 (by omega)
          refine ⟨_,rfl,ifT rfl ⟨_,rfl,a,_,_,.ref A1,rfl,rfl,SqL.of (zf hbn _ _ hz1),zR (j := 0) e1,A1,_,rfl,.inl (SqL.of (zf hbn _ _ e2)),?_,zf hbn⟩⟩
          rw [List.length_map,List.length_range]
          rfl
    rintro σ H1 ⟨rfl,s1⟩
    have fin : ∀ H',Same H H' -> xn c n m d = false -> Q (.bl false) H' := fun H' s' e => by
      have := k H' s'
      rw [e] at this
      exact this
    refine ⟨_,rfl,v,d.tyN, "tuple",rfl,(rd.same s1).ty,(by decide),?_⟩
    rw [Z1]
    refine ⟨_,rfl,qb (fun c1 => ifT rfl (fin _ s1 (vJ ?_))) (fun c1 => ?_)⟩
    · have c1 : XB d = false := by simpa using c1
      cases d <;> first | rfl | cases c1
    have c1 : XB d = true := by simpa using c1
    obtain ⟨ds,rfl⟩ : ∃ ds,d = .tup ds := by cases d <;> first | exact ⟨_,rfl⟩ | cases c1
    obtain ⟨T,xs,rfl,hT,rx⟩ := rd
    have lx := rx.len
    refine ⟨_,rfl,T,xs,rfl,.inr (s1.sqT hT),rfl,_,rfl,qb (fun c2 => fin _ s1 (vJ (decide_eq_false fun z => ?_))) (fun c2 => ?_)⟩
    · have c2 : (!decide (V.int (xs.length : Int) = V.int 2)) = true := c2
      rw [lx,z] at c2
      exact absurd c2 (by decide)
    have el : ds.length = 2 := by
      by_cases z : ds.length = 2
      · exact z
      · refine absurd ?_ c2
        show (!decide (V.int (xs.length : Int) = V.int 2)) = true
        rw [decide_eq_false]
        · rfl
        · intro y
          have : (xs.length : Int) = 2 := by injection y
          omega
    obtain ⟨d1,d2,e⟩ := Wi (d := .tup ds) (decide_eq_true el)
    cases e
    obtain ⟨x1,r1,rfl,rd1,x2,r2,rfl,rd2,e⟩ := rx
    cases e
    have hb1 : d1.blk <= 1000000 /\ d2.blk <= 1000000 := by
      have : d1.blk + 1 + (d2.blk + 1 + 0) <= 1000000 := hb
      omega
    refine ⟨_,rfl,T,_,_,x1,rfl,rfl,s1.sqT hT,rfl,_,rfl,a,zc,rfl,.inl (SqL.of (s1 _ _ hz1)),x1,d1,n,by rw [hz2];rfl,rd1.same s1,hb1.1,fun H2 s2 => ?_⟩
    have s2 := s1.trans s2
    refine ⟨_,rfl,qb (fun c3 => ifT rfl (fin _ s2 ?_)) (fun c3 => ?_)⟩
    · show (z6 n d1 && (z6 m d2 && _)) = false
      rw [show z6 n d1 = false by simpa using c3];rfl
    have c3 : z6 n d1 = true := by simpa using c3
    refine ⟨_,rfl,T,_,_,x2,rfl,rfl,s2.sqT hT,rfl,_,rfl,x2,d2,m,rfl,rd2.same s2,hb1.2,fun H3 s3 => ?_⟩
    have s3 := s2.trans s3
    refine ⟨_,rfl,qb (fun c4 => fin _ s3 ?_) (fun c4 => ?_)⟩
    · show (z6 n d1 && (z6 m d2 && _)) = false
      rw [show z6 m d2 = false by simpa using c4,Bool.false_and,Bool.and_false]
    have c4 : z6 m d2 = true := by simpa using c4
    have ek : xn c n m (.tup [d1,d2]) = wn c n m (z7 d1) (z7 d2) := by
      show (z6 n d1 && (z6 m d2 && _)) = _
      rw [c3,c4];rfl
    rw [ek] at k fin
    obtain ⟨l1,rfl,q1,e1⟩ := qU c3 rd1
    obtain ⟨l2,rfl,q2,e2⟩ := qU c4 rd2
    generalize z7 d1 = us at q1 e1 k fin
    generalize z7 d2 = vs at q2 e2 k fin
    have lv : (vs.map V.int).length = m := by rw [List.length_map];exact e2
    have lu : (us.map V.int).length = n := by rw [List.length_map];exact e1
    refine ⟨_,rfl,a,rfl,⟨_,SqL.of (s3 _ _ hz1)⟩,?_⟩
    refine vR (K := K) (a := a) (xs := zc) (QO a T m H c us vs) ⟨_,_,rfl,s3,rfl⟩ (fun i σ H4 _ ⟨_,_,_,s4,_⟩ => SqL.of (s4 _ _ hz1)) ?_ ?_
    · rintro i x σ H4 T4 hx ⟨v3,v4,rfl,s4,ha⟩ hT4
      have hi : i < n := by have := (List.getElem?_eq_some_iff.mp hx).1;omega
      obtain ⟨A1,a1,a2⟩ := hz3 i hi
      rw [a1] at hx
      cases hx
      have s5 := s4.trans (zf (o := .tup [.int (i : Int),.ref A1]) hT4)
      refine ⟨T4,_,rfl,SqT.of zi,rfl,_,_,rfl,_,_,rfl,rfl,?_⟩
      generalize upd H4 T4 (.tup [.int (i : Int),.ref A1]) = H5 at s5
      have lm : ((List.range m).map fun j => V.int (c i j)).length = m := by rw [List.length_map,List.length_range]
      refine ⟨_,rfl,A1,rfl,⟨_,SqL.of (s5 _ _ a2)⟩,jI (K := K) (a := A1) (xs := (List.range m).map fun j => V.int (c i j)) (fun j zs H6 => Same H H6 /\ zs = ((List.range j).map fun j => decide (us.getD i 0 + vs.getD j 0 <= c i j)).map V.bl) ⟨s5,rfl⟩ (fun j zs H6 ⟨s6,_⟩ => SqL.of (s6 _ _ a2)) ?_ ?_⟩
      · rintro j x zs H6 T6 hx ⟨s6,rfl⟩ hT6
        have hj : j < m := by have := (List.getElem?_eq_some_iff.mp hx).1;omega
        rw [List.getElem?_map,List.getElem?_range hj] at hx
        cases hx
        have s7 := s6.trans (zf (o := .tup [.int (j : Int),.int (c i j)]) hT6)
        refine ⟨T6,_,rfl,SqT.of zi,rfl,_,_,rfl,_,_,rfl,rfl,rfl,?_⟩
        generalize upd H6 T6 (.tup [.int (j : Int),.int (c i j)]) = H7 at s7
        refine ⟨_,rfl,T,_,_,_,rfl,rfl,s7.sqT hT,rfl,_,rfl,l1,_,_,.int (us.getD i 0),rfl,rfl,s7.seq q1,zR (xo (by omega)),_,rfl,T,_,_,_,rfl,rfl,s7.sqT hT,rfl,_,rfl,l2,_,_,.int (vs.getD j 0),rfl,rfl,s7.seq q2,zR (xo (by omega)),_,_,rfl,rfl,_,rfl,_,_,rfl,rfl,?_,s7,?_⟩
        · rw [List.length_map,List.length_map,List.length_range];omega
        · rw [List.range_succ,List.map_append,List.map_append];rfl
      · rintro zs H6 ⟨s6,rfl⟩
        rw [lm]
        refine ⟨by rw [List.length_map,List.length_map,List.length_range];omega,fun D1 hD1 => ⟨D1,_,rfl,SqL.of zi,_,rfl,?_⟩⟩
        have s7 := s6.trans (zf (o := .lst (((List.range m).map fun j => decide (us.getD i 0 + vs.getD j 0 <= c i j)).map V.bl)) hD1)
        rw [show ((List.range m).map fun j => decide (us.getD i 0 + vs.getD j 0 <= c i j)).all id = J8 c m us vs i by rw [List.all_map];rfl]
        refine qb (fun c5 => fin _ s7 ?_) (fun c5 => ⟨_,_,rfl,s7,X2 ha (by simpa using c5)⟩)
        unfold wn
        rw [VQ (p := J8 c m us vs) hi (by simpa using c5),Bool.and_false]
    · rintro σ H4 ⟨v3,v4,rfl,s4,ha⟩
      rw [hz2] at ha
      refine ⟨_,rfl,T,_,_,_,rfl,rfl,s4.sqT hT,rfl,l2,rfl,⟨_,s4.seq q2⟩,jd (K := K) (a := l2) (xs := vs.map V.int) (fun i zs H3 => zs = ((vs.take i).map fun z => decide (z <= 0)).map V.bl /\ Same H H3) ⟨rfl,s4⟩ (fun i zs H3 ⟨_,s3⟩ => s3.seq q2) ?_ ?_⟩
      · rintro i x zs H3 hx ⟨rfl,s3⟩
        obtain ⟨rfl,hi⟩ := xq hx
        have ev : vs[i]? = some (vs.getD i 0) := by rw [List.getD_eq_getElem?_getD,List.getElem?_eq_getElem hi];rfl
        refine ⟨rfl,_,rfl,_,_,rfl,rfl,?_,?_,s3⟩
        · rw [List.length_map,List.length_map,List.length_take];omega
        · rw [jO ev,List.map_append,List.map_append];rfl
      · rintro zs H3 ⟨rfl,s3⟩
        rw [lv,<- e2,List.take_length]
        refine ⟨by rw [List.length_map,List.length_map];omega,fun D1 hD1 => ⟨D1,vs.map fun z => decide (z <= 0),rfl,SqL.of zi,?_⟩⟩
        have := k _ (s3.trans (zf (o := .lst ((vs.map fun z => decide (z <= 0)).map V.bl)) hD1))
        rw [show wn c n m us vs = (vs.map fun z => decide (z <= 0)).all id by
          unfold wn
          rw [ha,Bool.and_true,List.all_map];rfl] at this
        exact this
end
end L2
set_option Elab.async false
set_option linter.all false
set_option maxRecDepth 100000
set_option maxHeartbeats 4000000
namespace L2
open PySem PySem.Spec PyProof.Rows
def c00 : Nat -> Nat -> Int := fun _ _ => 0
theorem Y8 {m j : Nat} (hj : j < m) : tot (qm c00 0 m) j = 0 := by
  unfold tot qm
  rw [List.getD_eq_getElem?_getD,List.getElem?_map,List.getElem?_range hj]
  rfl
theorem Pot.paper {c : Nat -> Nat -> Int} {n m : Nat} {f : Nat -> Nat} {u v : Nat -> Int} (P : Pot c n m f u v) {hs : List (Nat × Nat)} (hold : Hold hs n f) {es : List (Int × List Nat)} (s : Settle c m hs (qm c00 0 m) es) :
    Pot c n m f (fun x => c x (f x) - tot es (f x)) (tot es) := by
  obtain ⟨h1,h2⟩ := hold.mem
  have hv0 : ∀ j,j < m -> v j <= c00 0 j := fun j hj => P.neg j hj
  obtain ⟨g,st⟩ := s.ok P hv0 h1 h2 (WgA.first c n m f (c00 0))
  have neg : ∀ j,j < m -> tot es j <= 0 := fun j hj => by
    have := s.le j (by unfold qm;rw [List.length_map,List.length_range];exact Nat.le_refl _)
    rw [Y8 hj] at this
    exact this
  refine ⟨P.inj,P.rng,fun x hx j hj => ?_,fun x hx => by show c x (f x) - tot es (f x) + tot es (f x) = c x (f x);omega,neg,fun j hj hf => ?_⟩
  · have := st x hx j hj
    show c x (f x) - tot es (f x) + tot es j <= c x j
    omega
  · have l := Wg.low P hv0 (g.2 j hj)
    have := P.free j hj hf
    have := neg j hj
    omega
def PpAt (H : Hp) (p l1 l2 : Addr) (n m : Nat) (u v : Nat -> Int) : Prop := H p = some (.tup [.ref l1,.ref l2]) /\ H l1 = some (.lst ((List.range n).map fun x => V.int (u x))) /\ H l2 = some (.lst ((List.range m).map fun j => V.int (v j)))
section
variable {P : Program} {w : World} {K : PySem.W.Frag} {mg : Str -> Option Value} {base : Heap}
inductive JP (vs : List V) (H : Hp) (Q : VK) : Prop
  | mk (a : Addr) (c : Nat -> Nat -> Int) (n m : Nat) (_ : vs = [.ref a]) (_ : CsAt H a c n m) (_ : n <= m) (_ : (n = 0 -> m = 0)) (_ : m <= 63) (_ : (∀ x,x < n -> ∀ j,j < m -> 0 <= c x j)) (_ : ∀ hs f es p l1 l2 H',AH c m n hs -> Hold hs n f -> Settle c m hs (qm c00 0 m) es -> Pot c n m f (fun x => c x (f x) - tot es (f x)) (tot es) -> Same H H' -> H p = none -> H l1 = none -> H l2 = none -> l1 ≠ l2 -> PpAt H' p l1 l2 n m (fun x => c x (f x) - tot es (f x)) (tot es) -> Q (.ref p) H') : JP  vs H Q
def Wq : Sp := fun vs H Q _ => JP  vs H Q
theorem Ym : zH ["costs", "holders", "walks", "numbers", "rows"] ["costs"] (zo (zp 13)) := ⟨rfl,rfl,rfl,by decide +kernel,rfl,by decide +kernel,by decide +kernel⟩
theorem YJ {f : Addr} {fd : FuncData} (F : Fun K "paper_for" "paper_for" (zp 13) f fd) (B : Blt mg) (Dall_holders : Dfn P w K mg base "all_holders" 3 ["costs"] Vc) (Dsettled : Dfn P w K mg base "settled" 1 ["costs", "holders", "walks"] Qa) (Dwidth_of : Dfn P w K mg base "width_of" 1 ["costs"] JM) (Dcolumns_by : Dfn P w K mg base "columns_by" 1 ["holders"] Vb) :
    FnOk P w K mg base CX0 4 f fd ["costs"] Wq := by
  have nd := Ym.nd
  refine F.ok Ym (fun vs H Q E h => ?_) (fun cdv A outer s H vs Q E hr h => ?_)
  · obtain ⟨a,c,n,m,rfl,_⟩ := h
    rfl
  · obtain ⟨a,c,n,m,rfl,hcs,hnm,h0,hm,hc0,k⟩ := h
    have sz : sizeLine = 16777216 := sizeLine_eq
    have e62 : (2 ^ 62 : Int) = 4611686018427387904 := by decide
    refine ⟨_,(zn (zL (i := 1) nd rfl (Or.inl rfl) (zv Dall_holders (hr.mono (by first | decide | exact Nat.le_refl _ | omega)) rfl (ze (pv 0) zg)))
      (zn (zL (i := 2) nd rfl (Or.inl rfl) (zv Dsettled (hr.mono (by first | decide | exact Nat.le_refl _ | omega)) rfl (ze (pv 0) (ze (pv 1) (ze (jv [] [] rfl rfl (by kernel_rfl) (qG rfl B.range (ze (zv Dwidth_of (hr.mono (by first | decide | exact Nat.le_refl _ | omega)) rfl (ze (pv 0) zg)) zg)) (fun C0 s0 H0 ex0 => qk) (fun C0 s0 H0 ex0 => (qp (ze zj (ze (qp (ze (pv 0) zg)) zg))))) zg)))))
      (zn (zL (i := 3) nd rfl (Or.inr rfl) (ju [] [] rfl rfl (by kernel_rfl) (qT (pv 2)) (fun C0 s0 H0 ex0 => qk) (fun C0 s0 H0 ex0 => (pv 0))))
      (zn (Wx ["numbers", "costs"] [3,0] rfl rfl (by kernel_rfl) (jc rfl B.enumerate (ze (zv Dcolumns_by (hr.mono (by first | decide | exact Nat.le_refl _ | omega)) rfl (ze (pv 1) zg)) zg)) (fun C0 s0 H0 ex0 => qk) (fun C0 s0 H0 ex0 => (zE jG (zJ (qK (K := K) rfl) (zJ (qK (K := K) rfl) (pv 3) (pv 0) (fun _ _ => rfl)) (pv 1) (fun _ _ => rfl)) (zJ (qK (K := K) rfl) (pv 2) (pv 1) (fun _ _ => rfl)))) (zV (i := 4) nd rfl (Or.inl rfl)))
      (zu (zA (qp (ze (pv 4) (ze (pv 3) zg))))))))),?_⟩
    refine ⟨_,rfl,a,c,n,m,rfl,hcs,hnm,hm,hc0,fun hs d o H1 ah s1 hd hd1 => ?_⟩
    obtain ⟨f,u,v,pot,hold⟩ := ah.ok hnm hc0 (Nat.le_refl _)
    refine ⟨_,rfl,_,rfl,_,rfl,a,c,n,m,rfl,hcs.same s1,h0,_,rfl,by rw [e62];omega,by rw [e62];omega,?_⟩
    refine xp (N := m) (lo := 0) (fun i zs H2 => Same H1 H2 /\ WkR H2 zs ((qm c00 0 i).map enW)) ⟨Same.refl _,WkR.nil⟩ ?_ ?_
    · rintro i zs H2 hi ⟨s2,w2⟩
      rw [Int.zero_add]
      refine ⟨rfl,_,rfl,(by show 1 <= _;omega),fun q1 hq1 => ⟨(by show 2 <= _;omega),fun q2 hq2 => ⟨?_,?_,?_⟩⟩⟩
      · have := w2.1;rw [List.length_map] at this;unfold qm at this;rw [List.length_map,List.length_range] at this;omega
      · exact s2.trans ((zf hq1).trans (zf hq2))
      · rw [xT,List.map_append]
        refine WkR.snoc (U := q1) ((w2.same (zf hq1)).same (zf hq2)) zi ?_
        exact zf hq2 _ _ zi
    rintro zs H2 ⟨s2,w2⟩
    have zl := w2.1
    have fl : (qm c00 0 m).length = m := by unfold qm;rw [List.length_map,List.length_range]
    rw [List.length_map,fl] at zl
    refine ⟨by omega,fun wl hwl => ?_⟩
    have s3 := s2.trans (zf (o := .lst zs) hwl)
    have w3 := w2.same (zf (o := .lst zs) hwl)
    have hw3 : upd H2 wl (.lst zs) wl = some (.lst zs) := zi
    generalize upd H2 wl (.lst zs) = H3 at s3 w3 hw3
    have hv0 : ∀ j,j < m -> v j <= c00 0 j := fun j hj => pot.neg j hj
    refine ⟨a,d,wl,o,zs,c,n,m,n,f,u,v,c00 0,hs,qm c00 0 m,rfl,(hcs.same s1).same s3,s3 _ _ hd1,hw3,w3,pot,Nat.le_refl _,hold,hv0,WgA.first c n m f (c00 0),by omega,fun es p ys H4 st s4 hp hp4 wk4 => ?_⟩
    have s4' := s4
    have s4 := s1.trans (s3.trans s4)
    obtain ⟨hm1,hm2⟩ := hold.mem
    obtain ⟨g,still⟩ := st.ok pot hv0 hm1 hm2 (WgA.first c n m f (c00 0))
    have el := g.1
    have yl := wk4.1
    rw [List.length_map,el] at yl
    have pp := pot.paper hold st
    refine ⟨_,rfl,p,rfl,⟨_,SqL.of hp4⟩,jd (K := K) (a := p) (xs := ys) (fun i zs H5 => Same H4 H5 /\ zs = (List.range i).map fun j => V.int (tot es j)) ⟨Same.refl _,rfl⟩ (fun i zs H5 ⟨s5,_⟩ => SqL.of (s5 _ _ hp4)) ?_ ?_⟩
    · rintro i x zs H5 hx ⟨s5,rfl⟩
      have him : i < m := by have := (List.getElem?_eq_some_iff.mp hx).1;omega
      obtain ⟨U,U',b1,b2,b3⟩ := JF wk4 (k := i) (by omega)
      rw [b1] at hx
      cases hx
      refine ⟨U,_,rfl,SqT.of (s5 _ _ b2),rfl,_,_,rfl,_,_,rfl,rfl,rfl,_,rfl,?_,s5,?_⟩
      · rw [List.length_map,List.length_range];omega
      · rw [List.range_succ,List.map_append];rfl
    rintro zs H5 ⟨s5,rfl⟩
    rw [yl]
    refine ⟨by rw [List.length_map,List.length_range];omega,fun l2 hl2 => ?_⟩
    have s6 := s4.trans (s5.trans (zf (o := .lst ((List.range m).map fun j => V.int (tot es j))) hl2))
    have hl2' : H l2 = none := Same.free (s4.trans s5) hl2
    have hd6 : upd H5 l2 (.lst ((List.range m).map fun j => V.int (tot es j))) d = some (.frz o (.dK (hsV hs))) := zf hl2 _ _ (s5 _ _ (s4' _ _ (s3 _ _ hd1)))
    have h26 : upd H5 l2 (.lst ((List.range m).map fun j => V.int (tot es j))) l2 = some (.lst ((List.range m).map fun j => V.int (tot es j))) := zi
    generalize upd H5 l2 (.lst ((List.range m).map fun j => V.int (tot es j))) = H6 at s6 hd6 h26
    refine ⟨_,rfl,d,o,n,m,f,hs,rfl,hd6,hold,pot.rng,hm,fun lc H7 s7 hlc hlc7 => ?_⟩
    have s7' := s6.trans s7
    have ln : ((List.range n).map fun (x : Nat) => V.int (f x : Int)).length = n := by rw [List.length_map,List.length_range]
    obtain ⟨zc,hz1,hz2,hz3⟩ := id hcs
    have h27 := s7 _ _ h26
    refine ⟨lc,rfl,⟨_,SqL.of hlc7⟩,jI (K := K) (a := lc) (xs := (List.range n).map fun (x : Nat) => V.int (f x : Int)) (fun i zs H8 => Same H7 H8 /\ zs = (List.range i).map fun x => V.int (c x (f x) - tot es (f x))) ⟨Same.refl _,rfl⟩ (fun i zs H8 ⟨s8,_⟩ => SqL.of (s8 _ _ hlc7)) ?_ ?_⟩
    · rintro i x zs H8 T hx ⟨s8,rfl⟩ hT
      have hi : i < n := by have := (List.getElem?_eq_some_iff.mp hx).1;omega
      rw [List.getElem?_map,List.getElem?_range hi] at hx
      cases hx
      obtain ⟨A1,a1,a2⟩ := hz3 i hi
      have s9 := s8.trans (zf (o := .tup [.int (i : Int),.int (f i : Int)]) hT)
      refine ⟨T,_,rfl,SqT.of zi,rfl,_,_,rfl,_,_,rfl,rfl,rfl,?_⟩
      generalize upd H8 T (.tup [.int (i : Int),.int (f i : Int)]) = H9 at s9
      have fi := pot.rng i hi
      have s9' := s7'.trans s9
      refine ⟨_,rfl,_,rfl,a,_,_,.ref A1,rfl,rfl,SqL.of (s9' _ _ hz1),zR a1,_,rfl,A1,_,_,.int (c i (f i)),rfl,rfl,SqL.of (s9' _ _ a2),zR (by rw [List.getElem?_map,List.getElem?_range fi];rfl),_,rfl,_,rfl,l2,_,_,.int (tot es (f i)),rfl,rfl,SqL.of (s9 _ _ h27),zR (by rw [List.getElem?_map,List.getElem?_range fi];rfl),_,_,rfl,rfl,?_,s9,?_⟩
      · rw [List.length_map,List.length_range];omega
      · rw [List.range_succ,List.map_append];rfl
    · rintro zs H8 ⟨s8,rfl⟩
      rw [ln]
      refine ⟨by rw [List.length_map,List.length_range];omega,fun l1 hl1 => ?_⟩
      have s8' := s7'.trans s8
      have h28 := s8 _ _ h27
      have n12 : l1 ≠ l2 := (zr h28 hl1).symm
      have s9 := s8'.trans (zf (o := .lst ((List.range n).map fun x => V.int (c x (f x) - tot es (f x)))) hl1)
      have h29 : upd H8 l1 (.lst ((List.range n).map fun x => V.int (c x (f x) - tot es (f x)))) l2 = some (.lst ((List.range m).map fun j => V.int (tot es j))) := zf hl1 _ _ h28
      have h19 : upd H8 l1 (.lst ((List.range n).map fun x => V.int (c x (f x) - tot es (f x)))) l1 = some (.lst ((List.range n).map fun x => V.int (c x (f x) - tot es (f x)))) := zi
      generalize upd H8 l1 (.lst ((List.range n).map fun x => V.int (c x (f x) - tot es (f x)))) = H9 at s9 h29 h19
      refine ⟨_,rfl,_,rfl,(by show 2 <= _;omega),fun q hq => ?_⟩
      exact k hs f es q l1 l2 _ ah hold st pp (s9.trans (zf hq)) (Same.free s9 hq) (Same.free s8' hl1) hl2' n12 ⟨zi,zf hq _ _ h19,zf hq _ _ h29⟩
end
end L2
set_option Elab.async false
set_option linter.all false
set_option maxRecDepth 100000
set_option maxHeartbeats 4000000
namespace L2
open PySem PySem.Spec PyProof.Rows
theorem xC {α : Type} [DecidableEq α] : ∀ {js ks : List α},ks.Nodup -> (qR ks js).length <= ks.length + js.length /\ ((qR ks js).length = ks.length + js.length -> (ks ++ js).Nodup)
  | [],ks,h => ⟨Nat.le_refl _,fun _ => by rw [List.append_nil];exact h⟩
  | j :: js,ks,h => by
    have e : qR ks (j :: js) = qR (jB ks j) js := rfl
    rw [e]
    by_cases hj : j ∈ ks
    · have e2 : jB ks j = ks := if_pos hj
      rw [e2]
      obtain ⟨a,_⟩ := xC (js := js) h
      rw [List.length_cons]
      exact ⟨by omega,fun z => by omega⟩
    · have e2 : jB ks j = ks ++ [j] := if_neg hj
      rw [e2]
      have nk : (ks ++ [j]).Nodup := by
        rw [List.nodup_append]
        exact ⟨h,by simp,fun a ha b hb e => hj (by rw [<- List.mem_singleton.mp hb,<- e];exact ha)⟩
      obtain ⟨a,b⟩ := xC (js := js) nk
      rw [List.length_append,List.length_singleton] at a b
      rw [List.length_cons]
      refine ⟨by omega,fun z => ?_⟩
      have := b (by omega)
      rwa [List.append_assoc] at this
theorem xc {α : Type} [DecidableEq α] {js : List α} : (qR [] js).length = js.length ↔ js.Nodup := by
  constructor
  · intro h
    exact (xC (js := js) (ks := []) List.nodup_nil).2 (by rw [h];simp)
  · intro h
    rw [vp (by simpa using h)]
    rfl
def zY (lo hi : Int) : Dat -> Bool
  | .int i => decide (lo <= i) && decide (i <= hi)
  | _ => false
def jA (n m : Nat) : Dat -> Bool
  | .lst ds => decide (ds.length = n) && (ds.all (zY 0 ((m : Int) - 1)) && decide ((ds.map iD).Nodup))
  | _ => false
theorem j6 {lo hi : Int} {d : Dat} (h : zY lo hi d = true) : z9 d = true /\ lo <= iD d /\ iD d <= hi := by
  cases d with
  | int i =>
    obtain ⟨a,b⟩ := (Bool.and_eq_true _ _).mp h
    exact ⟨rfl,of_decide_eq_true a,of_decide_eq_true b⟩
  | _ => cases h
def xu (us : List Int) (x : Nat) : Nat := (us.getD x 0).toNat
theorem yp {n m : Nat} {d : Dat} (h : jA n m d = true) : z6 n d = true /\ (∀ x,x < n -> xu (z7 d) x < m) /\ (z7 d).map V.int = (List.range n).map (fun (x : Nat) => V.int (xu (z7 d) x : Int)) := by
  cases d with
  | lst ds =>
    obtain ⟨h1,h2⟩ := (Bool.and_eq_true _ _).mp h
    obtain ⟨h2,h3⟩ := (Bool.and_eq_true _ _).mp h2
    have h1 := of_decide_eq_true h1
    have al := List.all_eq_true.mp h2
    have bd : ∀ x (hx : x < ds.length),0 <= (ds.map iD).getD x 0 /\ (ds.map iD).getD x 0 <= (m : Int) - 1 := fun x hx => by
      rw [List.getD_eq_getElem?_getD,List.getElem?_map,List.getElem?_eq_getElem hx]
      exact (j6 (al _ (List.getElem_mem hx))).2
    refine ⟨?_,fun x hx => ?_,?_⟩
    · show (decide (ds.length = n) && ds.all z9) = true
      rw [decide_eq_true h1,List.all_eq_true.mpr fun d hd => (j6 (al d hd)).1]
      rfl
    · show ((ds.map iD).getD x 0).toNat < m
      have := bd x (by omega)
      omega
    · show (ds.map iD).map V.int = _
      refine List.ext_getElem? fun x => ?_
      rw [List.getElem?_map,List.getElem?_map,List.getElem?_map]
      by_cases hx : x < ds.length
      · rw [List.getElem?_eq_getElem hx,List.getElem?_range (by omega)]
        have := bd x hx
        show some (V.int (iD ds[x])) = some (V.int ((((ds.map iD).getD x 0).toNat : Nat) : Int))
        rw [show (((ds.map iD).getD x 0).toNat : Int) = (ds.map iD).getD x 0 by omega,List.getD_eq_getElem?_getD,List.getElem?_map,List.getElem?_eq_getElem hx]
        rfl
      · rw [List.getElem?_eq_none (by omega),List.getElem?_eq_none (by rw [List.length_range];omega)]
        rfl
  | _ => cases h
def wq (c : Nat -> Nat -> Int) (n m : Nat) (d : Dat) : Dat -> Bool
  | .tup [a,b] => jA n m d && (xn c n m (.tup [a,b]) && decide ((z7 a).sum + (z7 b).sum = qd n fun x => c x (xu (z7 d) x)))
  | _ => false
theorem yU {c : Nat -> Nat -> Int} {n m : Nat} {d : Dat} (h : xn c n m d = true) : ∃ a b,d = .tup [a,b] /\ z6 n a = true /\ z6 m b = true := by
  have : wV 2 d = true := by
    cases e : wV 2 d with
    | true => rfl
    | false => rw [vJ e] at h;cases h
  obtain ⟨a,b,rfl⟩ := Wi this
  obtain ⟨h1,h2⟩ := (Bool.and_eq_true _ _).mp (show (z6 n a && (z6 m b && _)) = true from h)
  exact ⟨a,b,rfl,h1,((Bool.and_eq_true _ _).mp h2).1⟩
theorem y8 {c : Nat -> Nat -> Int} {n m : Nat} {d e : Dat} (h : xn c n m e = false) : wq c n m d e = false := by
  unfold wq
  split
  · rename_i a b
    rw [h,Bool.false_and,Bool.and_false]
  · rfl
theorem jT {c : Nat -> Nat -> Int} {n m : Nat} {d e : Dat} (h : jA n m d = false) : wq c n m d e = false := by
  unfold wq
  split
  · rw [h,Bool.false_and]
  · rfl
section
variable {P : Program} {w : World} {K : PySem.W.Frag} {mg : Str -> Option Value} {base : Heap}
inductive yG (K : PySem.W.Frag) (vs : List V) (H : Hp) (Q : VK) : Prop
  | mk (v : V) (d : Dat) (lo hi : Int) (_ : vs = [v,.int lo,.int hi]) (_ : Rep K H d v) (_ : Q (.bl (zY lo hi d)) H) : yG K vs H Q
def ZE (K : PySem.W.Frag) : Sp := fun vs H Q _ => yG K vs H Q
theorem Yi : zH ["thing", "least", "most"] ["thing", "least", "most"] (zo (zp 2)) := ⟨rfl,rfl,rfl,by decide +kernel,rfl,by decide +kernel,by decide +kernel⟩
theorem YF {f : Addr} {fd : FuncData} (F : Fun K "is_number_within" "is_number_within" (zp 2) f fd) (B : Blt mg) (Dis_number : Dfn P w K mg base "is_number" 1 ["thing"] (xN K)) : FnOk P w K mg base CX0 2 f fd ["thing", "least", "most"] (ZE K) := by
  have nd := Yi.nd
  refine F.ok Yi (fun vs H Q E h => ?_) (fun cdv A outer s H vs Q E hr h => ?_)
  · obtain ⟨v,d,lo,hi,rfl,_⟩ := h
    rfl
  · obtain ⟨v,d,lo,hi,rfl,rd,k⟩ := h
    refine ⟨_,(zu (zA (qQ (zv Dis_number (hr.mono (by first | decide | exact Nat.le_refl _ | omega)) rfl (ze (pv 0) zg)) (jt (yT wD wD (pv 1) (pv 0) (pv 2)))))),?_⟩
    refine ⟨_,rfl,v,d,rfl,rd,_,rfl,qb (fun c1 => ?_) (fun c1 => ?_)⟩
    · obtain ⟨i,rfl⟩ : ∃ i,d = .int i := by cases d <;> first | exact ⟨_,rfl⟩ | cases c1
      cases (show v = .int i from rd)
      refine ⟨_,rfl,_,rfl,_,_,rfl,rfl,_,rfl,qb (fun c2 => ⟨_,rfl,_,_,rfl,rfl,?_⟩) (fun c2 => ?_)⟩
      · rw [show zY lo hi (.int i) = decide (i <= hi) by
          show (decide (lo <= i) && decide (i <= hi)) = _
          rw [c2];rfl] at k
        exact k
      · rw [show zY lo hi (.int i) = false by
          show (decide (lo <= i) && decide (i <= hi)) = _
          rw [(Bool.not_eq_true _).mp c2];rfl] at k
        exact k
    · rw [show zY lo hi d = false by cases d <;> first | rfl | exact absurd rfl c1] at k
      exact k
inductive yN (K : PySem.W.Frag) (vs : List V) (H : Hp) (Q : VK) : Prop
  | mk (a : Addr) (c : Nat -> Nat -> Int) (n m : Nat) (v : V) (d : Dat) (_ : vs = [.ref a,v]) (_ : CsAt H a c n m) (_ : (n = 0 -> m = 0)) (_ : n <= 63) (_ : Rep K H d v) (_ : d.blk <= 1000000) (_ : ∀ H',Same H H' -> Q (.bl (jA n m d)) H') : yN K vs H Q
def ZI (K : PySem.W.Frag) : Sp := fun vs H Q _ => yN K vs H Q
theorem J5 : zH ["costs", "thing"] ["costs", "thing"] (zo (zp 16)) := ⟨rfl,rfl,rfl,by decide +kernel,rfl,by decide +kernel,by decide +kernel⟩
theorem Vv {f : Addr} {fd : FuncData} (F : Fun K "are_columns" "are_columns" (zp 16) f fd) (B : Blt mg) (Dis_number_within : Dfn P w K mg base "is_number_within" 2 ["thing", "least", "most"] (ZE K)) (Dwidth_of : Dfn P w K mg base "width_of" 1 ["costs"] JM) : FnOk P w K mg base CX0 3 f fd ["costs", "thing"] (ZI K) := by
  have nd := J5.nd
  refine F.ok J5 (fun vs H Q E h => ?_) (fun cdv A outer s H vs Q E hr h => ?_)
  · obtain ⟨a,c,n,m,v,d,rfl,_⟩ := h
    rfl
  · obtain ⟨a,c,n,m,v,d,rfl,cs,h0,hn,rd,hb,k⟩ := h
    have sz : sizeLine = 16777216 := sizeLine_eq
    refine ⟨_,(zn (qg (PW.pt (jz (qv (zZ (zk zT rfl B.isinstance boot_isinstance (ze (pv 1) (ze (zN (v := .ty "list") rfl B.list zM rfl) zg))))) (qW (zQ yW (zk zx rfl B.len boot_len (ze (pv 1) zg)) (zk zx rfl B.len boot_len (ze (pv 0) zg)) (zI _)))))
      (zu (zA qJ))
      zU)
      (zn (qg (qv (zZ (zk (qD rfl) rfl B.all boot_all (ze (jv ["costs"] [0] rfl rfl (by kernel_rfl) (qT (pv 1)) (fun C0 s0 H0 ex0 => qk) (fun C0 s0 H0 ex0 => (zv Dis_number_within (hr.mono (by first | decide | exact Nat.le_refl _ | omega)) rfl (ze (pv 0) (ze zj (ze (zE jG (zv Dwidth_of (hr.mono (by first | decide | exact Nat.le_refl _ | omega)) rfl (ze (pv 1) zg)) zj) zg)))))) zg))))
      (zu (zA qJ))
      zU)
      (zu (zA (qh qB (zk wN rfl B.len boot_len (ze (zW (wM hr.hd) rfl B.set Zs (ze (pv 1) zg)) zg)) (zk zx rfl B.len boot_len (ze (pv 1) zg)) (zI _)))))),?_⟩
    obtain ⟨zc,hz1,hz2,hz3⟩ := id cs
    have fin : ∀ H',Same H H' -> jA n m d = false -> Q (.bl false) H' := fun H' s' e => by
      have := k H' s'
      rw [e] at this
      exact this
    refine ⟨_,rfl,v,d.tyN, "list",rfl,rd.ty,(by decide),?_⟩
    rw [vt]
    refine ⟨_,rfl,qb (fun c1 => ifT rfl (fin _ (Same.refl _) ?_)) (fun c1 => ?_)⟩
    · have c1 : XC d = false := by simpa using c1
      cases d <;> first | rfl | cases c1
    have c1 : XC d = true := by simpa using c1
    obtain ⟨ds,rfl⟩ : ∃ ds,d = .lst ds := by cases d <;> first | exact ⟨_,rfl⟩ | cases c1
    obtain ⟨l,xs,rfl,hq,rx⟩ := rd
    have lx := rx.len
    have lb : ds.length <= 1000000 := Nat.le_trans (vn ds) hb
    refine ⟨_,rfl,l,xs,rfl,.inl hq,_,rfl,a,zc,rfl,.inl (SqL.of hz1),rfl,_,rfl,?_⟩
    have en : (!decide (V.int (xs.length : Int) = V.int (zc.length : Int))) = !decide (ds.length = n) := by
      congr 1
      refine decide_eq_decide.mpr ⟨fun h => ?_,fun h => by rw [lx,hz2,h]⟩
      have : (xs.length : Int) = (zc.length : Int) := by injection h
      omega
    rw [en]
    refine qb (fun c2 => fin _ (Same.refl _) ?_) (fun c2 => ?_)
    · show (decide (ds.length = n) && _) = false
      rw [show decide (ds.length = n) = false by simpa using c2];rfl
    have c2 : ds.length = n := by simpa using c2
    refine ⟨_,rfl,l,rfl,⟨_,hq⟩,jd (K := K) (a := l) (xs := xs) (fun i zs H1 => zs = ((ds.take i).map (zY 0 ((m : Int) - 1))).map V.bl /\ Same H H1) ⟨rfl,Same.refl _⟩ (fun i zs H1 ⟨_,s1⟩ => s1.seq hq) ?_ ?_⟩
    · rintro i x zs H1 hx ⟨rfl,s1⟩
      obtain ⟨e,ed,re⟩ := (rx.same s1).get hx
      have hi : i < ds.length := (List.getElem?_eq_some_iff.mp ed).1
      refine ⟨rfl,_,rfl,_,rfl,a,c,n,m,rfl,cs.same s1,h0,_,_,rfl,rfl,x,e,0,(m : Int) - 1,rfl,re,?_,?_,s1⟩
      · rw [List.length_map,List.length_map,List.length_take];omega
      · rw [jO ed,List.map_append,List.map_append];rfl
    rintro zs H1 ⟨rfl,s1⟩
    rw [lx,List.take_length]
    refine ⟨by rw [List.length_map,List.length_map];omega,fun D1 hD1 => ⟨D1,ds.map (zY 0 ((m : Int) - 1)),rfl,SqL.of zi,_,rfl,?_⟩⟩
    have s2 := s1.trans (zf (o := .lst ((ds.map (zY 0 ((m : Int) - 1))).map V.bl)) hD1)
    generalize upd H1 D1 (.lst ((ds.map (zY 0 ((m : Int) - 1))).map V.bl)) = H2 at s2
    rw [show (ds.map (zY 0 ((m : Int) - 1))).all id = ds.all (zY 0 ((m : Int) - 1)) by rw [List.all_map];rfl]
    refine qb (fun c3 => fin _ s2 ?_) (fun c3 => ?_)
    · show (decide (ds.length = n) && (ds.all (zY 0 ((m : Int) - 1)) && _)) = false
      rw [show ds.all (zY 0 ((m : Int) - 1)) = false by simpa using c3,Bool.false_and,Bool.and_false]
    have c3 : ds.all (zY 0 ((m : Int) - 1)) = true := by simpa using c3
    have al := List.all_eq_true.mp c3
    have an : ds.all z9 = true := List.all_eq_true.mpr fun d hd => (j6 (al d hd)).1
    rw [xG an] at rx
    have ex : xs = (ds.map iD).map V.int := jR rx
    have ex2 : xs = ((ds.map iD).map (fun i => (Sum.inl i : Key))).map kV := by rw [ex,List.map_map (g := kV)];rfl
    rw [ex2] at hq
    refine ⟨_,rfl,l,(ds.map iD).map (fun i => (Sum.inl i : Key)),rfl,s2.seq hq,by rw [List.length_map,List.length_map];omega,fun sp hsp => ⟨sp,_,rfl,zi,_,rfl,l,_,rfl,.inl ((s2.trans (zf hsp)).seq hq),?_⟩⟩
    have := k _ (s2.trans (zf (o := Q8 P w sp (qR [] ((ds.map iD).map (fun i => (Sum.inl i : Key))))) hsp))
    rw [show jA n m (.lst ds) = decide (V.int ((qR [] ((ds.map iD).map (fun i => (Sum.inl i : Key)))).length : Int) = V.int ((((ds.map iD).map (fun i => (Sum.inl i : Key))).map kV).length : Int)) by
      show (decide (ds.length = n) && (ds.all (zY 0 ((m : Int) - 1)) && _)) = _
      rw [c3,decide_eq_true c2,Bool.true_and,Bool.true_and]
      refine decide_eq_decide.mpr ⟨fun h => ?_,fun h => ?_⟩
      · rw [xc.mpr,List.length_map (f := kV)]
        rw [List.Nodup,List.pairwise_map]
        exact h.imp fun ne e => ne (by injection e)
      · have h : (((qR [] ((ds.map iD).map (fun i => (Sum.inl i : Key)))).length : Nat) : Int) = ((((ds.map iD).map (fun i => (Sum.inl i : Key))).map kV).length : Nat) := by injection h
        rw [List.length_map (f := kV)] at h
        have := xc.mp (show (qR [] ((ds.map iD).map (fun i => (Sum.inl i : Key)))).length = ((ds.map iD).map (fun i => (Sum.inl i : Key))).length by omega)
        rw [List.Nodup,List.pairwise_map] at this
        exact this.imp fun ne e => ne (by rw [e])] at this
    exact ⟨rfl,this⟩
end
end L2
set_option Elab.async false
set_option linter.all false
set_option maxRecDepth 100000
set_option maxHeartbeats 4000000
namespace L2
open PySem PySem.Spec PyProof.Rows
theorem yO : ∀ {ds : List Dat},Dat.shws ds = true -> ∀ d ∈ ds,d.shw = true
  | [],_,d,h => nomatch h
  | e :: ds,h,d,hd => by
    obtain ⟨h1,h2⟩ := (Bool.and_eq_true _ _).mp (show (e.shw && Dat.shws ds) = true from h)
    rcases List.mem_cons.mp hd with z | z
    · rw [z];exact h1
    · exact yO h2 d z
theorem xh {d : Dat} (h : d.shw = true) : ∀ z ∈ z7 d,-1000000000000 <= z /\ z <= 1000000000000 := by
  cases d with
  | lst ds =>
    intro z hz
    obtain ⟨e,he,rfl⟩ := List.mem_map.mp (show z ∈ ds.map iD from hz)
    have := yO (show Dat.shws ds = true from h) e he
    cases e with
    | int i =>
      have : i.natAbs < 1000000000000 := of_decide_eq_true this
      show -1000000000000 <= i /\ i <= 1000000000000
      omega
    | _ =>
      show (-1000000000000 : Int) <= 0 /\ (0 : Int) <= 1000000000000
      exact ⟨by decide,by decide⟩
  | _ => intro z hz;cases hz
section
variable {P : Program} {w : World} {K : PySem.W.Frag} {mg : Str -> Option Value} {base : Heap}
inductive Z8 (K : PySem.W.Frag) (vs : List V) (H : Hp) (Q : VK) : Prop
  | mk (a : Addr) (c : Nat -> Nat -> Int) (n m : Nat) (v1 v2 : V) (d e : Dat) (_ : vs = [.ref a,v1,v2]) (_ : CsAt H a c n m) (_ : (n = 0 -> m = 0)) (_ : n <= 63) (_ : m <= 63) (_ : (∀ x,x < n -> ∀ j,j < m -> 0 <= c x j /\ c x j <= 1000000)) (_ : Rep K H d v1) (_ : Rep K H e v2) (_ : d.blk <= 1000000) (_ : e.blk <= 1000000) (_ : e.shw = true) (_ : ∀ H',Same H H' -> Q (.bl (wq c n m d e)) H') : Z8 K vs H Q
def wA (K : PySem.W.Frag) : Sp := fun vs H Q _ => Z8 K vs H Q
theorem VX : zH ["costs", "columns", "thing", "rows", "numbers"] ["costs", "columns", "thing"] (zo (zp 17)) := ⟨rfl,rfl,rfl,by decide +kernel,rfl,by decide +kernel,by decide +kernel⟩
theorem WH {f : Addr} {fd : FuncData} (F : Fun K "shows_matched" "shows_matched" (zp 17) f fd) (B : Blt mg) (Dare_columns : Dfn P w K mg base "are_columns" 3 ["costs", "thing"] (ZI K)) (Dshows_paper : Dfn P w K mg base "shows_paper" 3 ["costs", "thing"] (wz K)) (Dsum_at : Dfn P w K mg base "sum_at" 1 ["costs", "columns"] (Z6 K)) : FnOk P w K mg base CX0 4 f fd ["costs", "columns", "thing"] (wA K) := by
  have nd := VX.nd
  refine F.ok VX (fun vs H Q E h => ?_) (fun cdv A outer s H vs Q E hr h => ?_)
  · obtain ⟨a,c,n,m,v1,v2,d,e,rfl,_⟩ := h
    rfl
  · obtain ⟨a,c,n,m,v1,v2,d,e,rfl,cs,h0,hn,hm,hc,rd,re,hb1,hb2,hw,k⟩ := h
    have sz : sizeLine = 16777216 := sizeLine_eq
    refine ⟨_,(zn (qg (PW.pt (jz (qv (zZ (zv Dare_columns (hr.mono (by first | decide | exact Nat.le_refl _ | omega)) rfl (ze (pv 0) (ze (pv 1) zg))))) (qW (qv (zZ (zv Dshows_paper (hr.mono (by first | decide | exact Nat.le_refl _ | omega)) rfl (ze (pv 0) (ze (pv 2) zg))))))))
      (zu (zA qJ))
      zU)
      (zn (qX (pv 2) (qN rfl (zK (zV (i := 3) nd rfl (Or.inl rfl)) (zK (zV (i := 4) nd rfl (Or.inl rfl)) qC))))
      (zu (zA (qh qB (zE z0 (zk (jp rfl) rfl B.sum boot_sum (ze (pv 3) zg)) (zk (jp rfl) rfl B.sum boot_sum (ze (pv 4) zg))) (zv Dsum_at (hr.mono (by first | decide | exact Nat.le_refl _ | omega)) rfl (ze (pv 0) (ze (pv 1) zg))) (zI _)))))),?_⟩
    have fin : ∀ H',Same H H' -> wq c n m d e = false -> Q (.bl false) H' := fun H' s' z => by
      have := k H' s'
      rw [z] at this
      exact this
    refine ⟨_,rfl,_,rfl,a,c,n,m,v1,d,rfl,cs,h0,hn,rd,hb1,fun H1 s1 => ⟨_,rfl,qb (fun c1 => ifT rfl (fin _ s1 (jT (by simpa using c1)))) (fun c1 => ?_)⟩⟩
    have c1 : jA n m d = true := by simpa using c1
    refine ⟨_,rfl,_,rfl,a,c,n,m,v2,e,rfl,cs.same s1,h0,hn,hm,re.same s1,hb2,fun H2 s2 => ⟨_,rfl,qb (fun c2 => fin _ (s1.trans s2) (y8 (by simpa using c2))) (fun c2 => ?_)⟩⟩
    have s2 := s1.trans s2
    have c2 : xn c n m e = true := by simpa using c2
    obtain ⟨e1,e2,rfl,n1,n2⟩ := yU c2
    obtain ⟨T,xs,rfl,hT,x1,r1,rfl,rd1,x2,r2,rfl,rd2,z⟩ := re
    cases z
    obtain ⟨l1,rfl,q1,y1⟩ := qU n1 rd1
    obtain ⟨l2,rfl,q2,y2⟩ := qU n2 rd2
    obtain ⟨w1,w2⟩ := (Bool.and_eq_true _ _).mp (show (e1.shw && (e2.shw && true)) = true from hw)
    have w2 := ((Bool.and_eq_true _ _).mp w2).1
    obtain ⟨g1,g2,g3⟩ := yp c1
    obtain ⟨lc,rfl,q3,y3⟩ := qU g1 rd
    rw [g3] at q3
    refine ⟨_,rfl,T,_,rfl,s2.sqT hT,rfl,_,_,rfl,_,_,rfl,rfl,?_⟩
    refine ⟨_,rfl,l1,_,rfl,s2.seq q1,xh w1,by omega,_,rfl,l2,_,rfl,s2.seq q2,xh w2,by omega,_,_,rfl,rfl,?_⟩
    refine ⟨_,rfl,_,rfl,a,lc,c,n,m,xu (z7 d),rfl,cs.same s2,s2.seq q3,g2,hn,hc,fun H3 s3 => ⟨rfl,?_⟩⟩
    have := k _ (s2.trans s3)
    rw [show wq c n m d (.tup [e1,e2]) = decide (V.int ((z7 e1).sum + (z7 e2).sum) = V.int (qd n fun x => c x (xu (z7 d) x))) by
      show (jA n m d && (xn c n m (.tup [e1,e2]) && decide _)) = _
      rw [c1,c2,Bool.true_and,Bool.true_and]
      exact decide_eq_decide.mpr ⟨fun h => by rw [h],fun h => by injection h⟩] at this
    exact this
end
end L2
set_option Elab.async false
set_option linter.all false
set_option maxRecDepth 100000
set_option maxHeartbeats 4000000
namespace L2
open PySem PySem.Spec PyProof.Rows
theorem Wg.floor {c : Nat -> Nat -> Int} {r m : Nat} {f : Nat -> Nat} {t0 T : Nat -> Int} (hf : ∀ x,x < r -> f x < m) (hc : ∀ x,x < r -> ∀ j,j < m -> 0 <= c x j /\ c x j <= 1000000) (h0 : ∀ j,j < m -> 0 <= t0 j) : ∀ {p : List Nat} {j : Nat} {t : Int},Wg c r m f t0 T p j t -> -(1000000 * (p.length : Int)) <= t
  | _,_,_,.one hj _ => by
    have := h0 _ hj
    rw [List.length_singleton]
    omega
  | _,_,_,.step g hx hb _ _ => by
    have ih := Wg.floor hf hc h0 g
    have h1 := hc _ hx _ hb
    have h2 := hc _ hx _ (hf _ hx)
    rw [List.length_append,List.length_singleton]
    omega
theorem Jh {c : Nat -> Nat -> Int} {n m : Nat} {hs : List (Nat × Nat)} {f : Nat -> Nat} {es : List (Int × List Nat)} (ah : AH c m n hs) (hnm : n <= m) (hm : m <= 63) (hc : ∀ x,x < n -> ∀ j,j < m -> 0 <= c x j /\ c x j <= 1000000) (hold : Hold hs n f) (st : Settle c m hs (qm c00 0 m) es) :
    (∀ j,j < m -> -63000000 <= tot es j /\ tot es j <= 0) /\ ∀ x,x < n -> 0 <= c x (f x) - tot es (f x) /\ c x (f x) - tot es (f x) <= 64000000 := by
  obtain ⟨f',u,v,P,hold'⟩ := ah.ok hnm (fun x hx j hj => (hc x hx j hj).1) (Nat.le_refl _)
  obtain ⟨h1,h2⟩ := hold'.mem
  have hv0 : ∀ j,j < m -> v j <= c00 0 j := fun j hj => P.neg j hj
  obtain ⟨g,_⟩ := st.ok P hv0 h1 h2 (WgA.first c n m f' (c00 0))
  have pp := P.paper hold' st
  have ef := hold.eq hold'
  have a : ∀ j,j < m -> -63000000 <= tot es j /\ tot es j <= 0 := fun j hj => by
    have w := (g.2 j hj).floor P.rng hc fun _ _ => Int.le_refl _
    have l := (ZY g hj).2
    exact ⟨by omega,pp.neg j hj⟩
  refine ⟨a,fun x hx => ?_⟩
  rw [ef x hx]
  have := a _ (P.rng x hx)
  have := hc x hx _ (P.rng x hx)
  omega
end L2
set_option Elab.async false
set_option linter.all false
set_option maxRecDepth 100000
set_option maxHeartbeats 4000000
namespace L2
open PySem PySem.Spec PyProof.Rows
theorem qL : [V.ty "list",V.ty "tuple"].length <= sizeLine := by rw [sizeLine_eq];exact (by decide : 2 <= 16777216)
section
variable {P : Program} {w : World} {K : PySem.W.Frag} {mg : Str -> Option Value} {base : Heap}
def spS (K : PySem.W.Frag) : Nat -> Sp
  | 0 => fun _ _ _ _ => False
  | n + 1 => fun vs H Q _ => ∃ d f v,vs = [f,v] /\ Rep K H d f /\ Rep K H d v /\ Dat.ok n d /\ ∀ H',Same H H' -> Q (.bl true) H'
theorem JZ : zH ["_law_found", "_law_due"] ["_law_found", "_law_due"] (zo (zp 22)) := ⟨rfl,rfl,rfl,by decide +kernel,rfl,by decide +kernel,by decide +kernel⟩
theorem Qq {f : Addr} {fd : FuncData} (F : Fun K "_law_same" "_law_same" (zp 22) f fd) (B : Blt mg) (hm : mg "_law_same" = some (.ref f)) (hb : Binds K fd ["_law_found", "_law_due"] []) :
    ∀ n : Nat,FnOk P w K mg base CX0 n f fd ["_law_found", "_law_due"] (spS K n)
  | 0 => ⟨fun _ _ _ _ h => h.elim,fun _ _ _ _ _ _ _ _ _ _ _ _ _ h => h.elim⟩
  | n + 1 => by
    have D_same : Dfn P w K mg base "_law_same" n ["_law_found", "_law_due"] (spS K n) := ⟨f,fd,Qq F B hm hb n,hm,F.kp,hb⟩
    have nd := JZ.nd
    refine F.ok JZ (fun vs H Q E h => ?_) (fun cdv A outer s H vs Q E hr h => ?_)
    · obtain ⟨d,g,v,rfl,_⟩ := h
      rfl
    · obtain ⟨d,g,v,rfl,rg,rv,ok,k⟩ := h
      refine ⟨_,(zn (qg (zZ (zk jY rfl B.isinstance boot_isinstance (ze (pv 1) (ze (qp (ze (zN (v := .ty "list") rfl B.list zM rfl) (ze (zN (v := .ty "tuple") rfl B.tuple qt rfl) zg))) zg))))
      (zn (qg (PW.pt (jz (qv (zZ (zk jY rfl B.isinstance boot_isinstance (ze (pv 0) (ze (qp (ze (zN (v := .ty "list") rfl B.list zM rfl) (ze (zN (v := .ty "tuple") rfl B.tuple qt rfl) zg))) zg))))) (qW (zQ yW (zk zT rfl B.isinstance boot_isinstance (ze (pv 0) (ze (zN (v := .ty "list") rfl B.list zM rfl) zg))) (zk zT rfl B.isinstance boot_isinstance (ze (pv 1) (ze (zN (v := .ty "list") rfl B.list zM rfl) zg))) (zI _)))))
        (zu (zA qJ))
        zU)
        (zu (zA (qQ (qh qB (zk zx rfl B.len boot_len (ze (pv 0) zg)) (zk zx rfl B.len boot_len (ze (pv 1) zg)) (zI _)) (jt (zk (qD rfl) rfl B.all boot_all (ze (ju [] [] rfl rfl (by kernel_rfl) (ye rfl B.zip (ze (pv 0) (ze (pv 1) zg))) (fun C0 s0 H0 ex0 => qk) (fun C0 s0 H0 ex0 => (zv D_same (hr.mono (by first | decide | exact Nat.le_refl _ | omega)) rfl (ze (pv 0) (ze (pv 1) zg))))) zg)))))))
      zU)
      (zn (qg (PW.pt (jz (zQ WE (pv 1) Xg (zI _)) (qW (zZ (zk zT rfl B.isinstance boot_isinstance (ze (pv 1) (ze (zN (v := .ty "str") rfl B.str xx rfl) zg)))))))
      (zu (zA (qQ (qh qB (pv 0) (pv 1) (zI _)) (jt (qh qB (zk zT rfl B.isinstance boot_isinstance (ze (pv 0) (ze (zN (v := .ty "str") rfl B.str xx rfl) zg))) (zk zT rfl B.isinstance boot_isinstance (ze (pv 1) (ze (zN (v := .ty "str") rfl B.str xx rfl) zg))) (zI _))))))
      zU)
      (zu (zA (qQ (zk zT rfl B.isinstance boot_isinstance (ze (pv 0) (ze (zN (v := .ty "int") rfl B.int xy rfl) zg))) (qQ (qh qB (zk zT rfl B.isinstance boot_isinstance (ze (pv 0) (ze (zN (v := .ty "bool") rfl B.bool jZ rfl) zg))) (zk zT rfl B.isinstance boot_isinstance (ze (pv 1) (ze (zN (v := .ty "bool") rfl B.bool jZ rfl) zg))) (zI _)) (jt (qh qB (pv 0) (pv 1) (zI _))))))))),?_⟩
      refine ⟨_,rfl,qL,fun p hp => ⟨v,d.tyN,p,["list", "tuple"],rfl,(rv.same (zf hp)).ty,zi,(by decide),_,rfl,?_⟩⟩
      have s1 : Same H (upd H p (.tup [V.ty "list",V.ty "tuple"])) := zf hp
      have rg1 := rg.same s1
      have rv1 := rv.same s1
      generalize upd H p (.tup [V.ty "list",V.ty "tuple"]) = H1 at s1 rg1 rv1
      cases d with
      | non =>
        cases (show g = _ from rg);cases (show v = _ from rv)
        refine ifF rfl ⟨_,rfl,rfl,_,rfl,ifT (by simp) (ifT rfl ?_)⟩
        refine ⟨_,rfl,_,rfl,rfl,_,rfl,ifT (by simp) ⟨_,rfl,_, "NoneType", "str",rfl,rg1.ty,(by decide),_,rfl,_, "NoneType", "str",rfl,rv1.ty,(by decide),rfl,?_⟩⟩
        have := k H1 s1
        simpa using this
      | str x =>
        cases (show g = _ from rg);cases (show v = _ from rv)
        refine ifF rfl ⟨_,rfl,rfl,_,rfl,ifF (by simp) ⟨_,rfl,_, "str", "str",rfl,rv1.ty,(by decide),_,rfl,ifT (by decide) ?_⟩⟩
        refine ⟨_,rfl,_,rfl,rfl,_,rfl,ifT (by simp) ⟨_,rfl,_, "str", "str",rfl,rg1.ty,(by decide),_,rfl,_, "str", "str",rfl,rv1.ty,(by decide),rfl,?_⟩⟩
        have := k H1 s1
        simpa using this
      | bl b =>
        cases (show g = _ from rg);cases (show v = _ from rv)
        refine ifF rfl ⟨_,rfl,rfl,_,rfl,ifF (by simp) ⟨_,rfl,_, "bool", "str",rfl,rv1.ty,(by decide),_,rfl,ifF (by decide) ?_⟩⟩
        refine ⟨_,rfl,_, "bool", "int",rfl,rg1.ty,(by decide),_,rfl,ifT (by decide) ⟨_,rfl,_, "bool", "bool",rfl,rg1.ty,(by decide),_,rfl,_, "bool", "bool",rfl,rv1.ty,(by decide),rfl,_,rfl,ifT (by simp) ⟨_,rfl,_,rfl,rfl,?_⟩⟩⟩
        have := k H1 s1
        simpa using this
      | int b =>
        cases (show g = _ from rg);cases (show v = _ from rv)
        refine ifF rfl ⟨_,rfl,rfl,_,rfl,ifF (by simp) ⟨_,rfl,_, "int", "str",rfl,rv1.ty,(by decide),_,rfl,ifF (by decide) ?_⟩⟩
        refine ⟨_,rfl,_, "int", "int",rfl,rg1.ty,(by decide),_,rfl,ifT (by decide) ⟨_,rfl,_, "int", "bool",rfl,rg1.ty,(by decide),_,rfl,_, "int", "bool",rfl,rv1.ty,(by decide),rfl,_,rfl,ifT (by simp) ⟨_,rfl,_,rfl,rfl,?_⟩⟩⟩
        have := k H1 s1
        simpa using this
      | lst ds =>
        obtain ⟨a,xs,rfl,hx,rx⟩ := rg1
        obtain ⟨b,ys,rfl,hy,ry⟩ := rv1
        cases n with
        | zero => exact (show False from ok).elim
        | succ n =>
          obtain ⟨hlen,hall⟩ : ds.length <= 1000000 /\ ∀ d ∈ ds,Dat.ok n d := ok
          have lx := rx.len
          have ly := ry.len
          have hbig : 1000000 < sizeLine := by rw [sizeLine_eq];decide
          refine ifT rfl ?_
          refine ⟨_,rfl,qL,fun p2 hp2 => ⟨.ref a, "list",p2,["list", "tuple"],rfl,(.inl ⟨rfl,xs,(zf hp2).seq hx⟩),zi,(by decide),_,rfl,ifF rfl ?_⟩⟩
          have s2 : Same H1 (upd H1 p2 (.tup [V.ty "list",V.ty "tuple"])) := zf hp2
          have hx2 := s2.seq hx
          have hy2 := s2.seq hy
          have rx2 := rx.same s2
          have ry2 := ry.same s2
          have s3 := s1.trans s2
          generalize upd H1 p2 (.tup [V.ty "list",V.ty "tuple"]) = H2 at s2 s3 hx2 hy2 rx2 ry2
          refine ⟨_,rfl,.ref a, "list", "list",rfl,(.inl ⟨rfl,xs,hx2⟩),(by decide),_,rfl,.ref b, "list", "list",rfl,(.inl ⟨rfl,ys,hy2⟩),(by decide),rfl,_,rfl,ifF (by decide) ?_⟩
          refine ⟨_,rfl,a,xs,rfl,(.inl hx2),_,rfl,b,ys,rfl,(.inl hy2),rfl,_,rfl,ifT (by simp [lx,ly]) ?_⟩
          refine ⟨_,rfl,_,rfl,true,true,a,b,rfl,⟨xs,hx2⟩,⟨ys,hy2⟩,?_⟩
          refine ZQ (K := K) (k1 := true) (k2 := true) (xs := xs) (ys := ys) (fun i zs H3 => zs = List.replicate i (V.bl true) /\ Same H2 H3) ⟨rfl,Same.refl _⟩ (fun i zs H3 ⟨_,sm⟩ => ⟨sm.seq hx2,sm.seq hy2⟩) ?_ ?_
          · rintro i x y zs H3 T e1 e2 ⟨rfl,sm⟩ hT
            have hi : i < ds.length := by have := (List.getElem?_eq_some_iff.mp e1).1;omega
            obtain ⟨d1,q1,r1⟩ := rx2.get e1
            obtain ⟨d2,q2,r2⟩ := ry2.get e2
            rw [q1] at q2;cases q2
            have s4 := sm.trans (zf (o := .tup [x,y]) hT)
            refine ⟨T,_,rfl,SqT.of zi,rfl,_,_,rfl,_,_,rfl,rfl,rfl,?_⟩
            refine ⟨_,rfl,_,rfl,d1,x,y,rfl,r1.same s4,r2.same s4,hall d1 (List.mem_of_getElem? q1),fun H5 s5 => ⟨?_,?_,s4.trans s5⟩⟩
            · rw [List.length_replicate];omega
            · rw [List.replicate_succ']
          · rintro zs H3 ⟨rfl,sm⟩
            refine ⟨by rw [List.length_replicate];omega,fun D hD => ⟨D,List.replicate (min xs.length ys.length) true,rfl,?_,?_⟩⟩
            · refine SqL.of ?_
              rw [zi,List.map_replicate]
            · have := k _ (s3.trans (sm.trans (zf (o := .lst (List.replicate (min xs.length ys.length) (V.bl true))) hD)))
              simpa using this
      | tup ds =>
        obtain ⟨a,xs,rfl,hx,rx⟩ := rg1
        obtain ⟨b,ys,rfl,hy,ry⟩ := rv1
        cases n with
        | zero => exact (show False from ok).elim
        | succ n =>
          obtain ⟨hlen,hall⟩ : ds.length <= 1000000 /\ ∀ d ∈ ds,Dat.ok n d := ok
          have lx := rx.len
          have ly := ry.len
          have hbig : 1000000 < sizeLine := by rw [sizeLine_eq];decide
          refine ifT rfl ?_
          refine ⟨_,rfl,qL,fun p2 hp2 => ⟨.ref a, "tuple",p2,["list", "tuple"],rfl,(.inr ⟨rfl,xs,(zf hp2).sqT hx⟩),zi,(by decide),_,rfl,ifF rfl ?_⟩⟩
          have s2 : Same H1 (upd H1 p2 (.tup [V.ty "list",V.ty "tuple"])) := zf hp2
          have hx2 := s2.sqT hx
          have hy2 := s2.sqT hy
          have rx2 := rx.same s2
          have ry2 := ry.same s2
          have s3 := s1.trans s2
          generalize upd H1 p2 (.tup [V.ty "list",V.ty "tuple"]) = H2 at s2 s3 hx2 hy2 rx2 ry2
          refine ⟨_,rfl,.ref a, "tuple", "list",rfl,(.inr ⟨rfl,xs,hx2⟩),(by decide),_,rfl,.ref b, "tuple", "list",rfl,(.inr ⟨rfl,ys,hy2⟩),(by decide),rfl,_,rfl,ifF (by decide) ?_⟩
          refine ⟨_,rfl,a,xs,rfl,(.inr hx2),_,rfl,b,ys,rfl,(.inr hy2),rfl,_,rfl,ifT (by simp [lx,ly]) ?_⟩
          refine ⟨_,rfl,_,rfl,false,false,a,b,rfl,⟨xs,hx2⟩,⟨ys,hy2⟩,?_⟩
          refine ZQ (K := K) (k1 := false) (k2 := false) (xs := xs) (ys := ys) (fun i zs H3 => zs = List.replicate i (V.bl true) /\ Same H2 H3) ⟨rfl,Same.refl _⟩ (fun i zs H3 ⟨_,sm⟩ => ⟨sm.sqT hx2,sm.sqT hy2⟩) ?_ ?_
          · rintro i x y zs H3 T e1 e2 ⟨rfl,sm⟩ hT
            have hi : i < ds.length := by have := (List.getElem?_eq_some_iff.mp e1).1;omega
            obtain ⟨d1,q1,r1⟩ := rx2.get e1
            obtain ⟨d2,q2,r2⟩ := ry2.get e2
            rw [q1] at q2;cases q2
            have s4 := sm.trans (zf (o := .tup [x,y]) hT)
            refine ⟨T,_,rfl,SqT.of zi,rfl,_,_,rfl,_,_,rfl,rfl,rfl,?_⟩
            refine ⟨_,rfl,_,rfl,d1,x,y,rfl,r1.same s4,r2.same s4,hall d1 (List.mem_of_getElem? q1),fun H5 s5 => ⟨?_,?_,s4.trans s5⟩⟩
            · rw [List.length_replicate];omega
            · rw [List.replicate_succ']
          · rintro zs H3 ⟨rfl,sm⟩
            refine ⟨by rw [List.length_replicate];omega,fun D hD => ⟨D,List.replicate (min xs.length ys.length) true,rfl,?_,?_⟩⟩
            · refine SqL.of ?_
              rw [zi,List.map_replicate]
            · have := k _ (s3.trans (sm.trans (zf (o := .lst (List.replicate (min xs.length ys.length) (V.bl true))) hD)))
              simpa using this
end
end L2
set_option Elab.async false
set_option linter.all false
set_option maxRecDepth 100000
set_option maxHeartbeats 4000000
namespace L2
open PySem PySem.Spec PyProof.Rows
theorem le0 : ([] : List V).length <= sizeLine := Nat.zero_le _
theorem le2 {x y : V} : [x,y].length <= sizeLine := by rw [sizeLine_eq];exact (by decide : 2 <= 16777216)
theorem le1 {x : V} : [x].length <= sizeLine := by rw [sizeLine_eq];exact (by decide : 1 <= 16777216)
theorem leN {xs : List V} (h : xs.length <= 1000) : xs.length <= sizeLine := by rw [sizeLine_eq];omega
theorem X1 {α : Type} {xs : List α} {i : Int} (h : 0 <= i) (h' : i < xs.length) : ∃ v,atI xs i = some v /\ xs[i.toNat]? = some v := by
  have hl : i.toNat < xs.length := by omega
  refine ⟨xs[i.toNat],?_,by simp [hl]⟩
  have := zR (xs := xs) (j := i.toNat) (v := xs[i.toNat]) (by simp [hl])
  rwa [show ((i.toNat : Nat) : Int) = i by omega] at this
theorem YA {α : V -> Prop} {xs : List V} {r : Int} (h0 : 0 <= r) (h1 : r < xs.length) (all : ∀ x ∈ xs,α x) : ∃ v,atI xs r = some v /\ α v := by
  obtain ⟨v,e,e'⟩ := X1 h0 h1
  exact ⟨v,e,all v (List.mem_of_getElem? e')⟩
theorem fm0 {α : V -> Prop} : ∀ y ∈ ([] : List V),α y := fun y h => nomatch h
theorem fm {α : V -> Prop} {x : V} {xs : List V} (h : α x) (hs : ∀ y ∈ xs,α y) : ∀ y ∈ x :: xs,α y := fun y hy => (List.mem_cons.mp hy).elim (fun e => e ▸ h) (hs y)
theorem Wa {α : V -> Prop} {H : Hp} {p : Addr} {xs : List V} {r : Int} (_ : H p = some (.lst xs)) (h0 : 0 <= r) (h1 : r < xs.length) (all : ∀ x ∈ xs,α x) : ∃ v,atI xs r = some v /\ α v := YA h0 h1 all
def SameT (H H' : Hp) : Prop := ∀ a u,H a = some u -> (∀ xs,u ≠ .lst xs) -> H' a = some u
theorem SameT.refl (H : Hp) : SameT H H := fun _ _ e _ => e
theorem SameT.trans {H H1 H2 : Hp} (a : SameT H H1) (b : SameT H1 H2) : SameT H H2 := fun c u e h => b c u (a c u e h) h
theorem SameT.of {H H' : Hp} (s : Same H H') : SameT H H' := fun a u e _ => s a u e
theorem SameT.draw {H H' : Hp} {b : Addr} {n : Int} (B : BoxAt H b n) (s : SameB b H H') : SameT H H' := fun a u e h => by
  obtain ⟨b0,b1,b2,eb,_⟩ := B
  exact s a u e (fun z => by rw [z,eb] at e;cases e;exact h _ rfl)
theorem SameT.put {H : Hp} {l : Addr} {xs ys : List V} (h : H l = some (.lst xs)) : SameT H (upd H l (.lst ys)) := fun a u e hu => by
  rw [zw (fun z => by rw [z,h] at e;cases e;exact hu _ rfl)];exact e
mutual
def Dat.imm : Dat -> Bool
  | .lst _ => false
  | .tup ds => Dat.imms ds
  | _ => true
def Dat.imms : List Dat -> Bool
  | [] => true
  | d :: ds => d.imm && Dat.imms ds
end
section
variable {P : Program} {w : World} {K : PySem.W.Frag} {mg : Str -> Option Value} {base : Heap}
theorem SqT.keep {H H' : Hp} {a : Addr} {xs : List V} (q : SqT K H a xs) (s : SameT H H') : SqT K H' a xs := by
  rcases q with (q | ⟨o,q⟩) | q
  · exact .inl (.inl (s a _ q (fun z h => nomatch h)))
  · exact .inl (.inr ⟨o,s a _ q (fun z h => nomatch h)⟩)
  · exact .inr q
mutual
theorem Rep.keep {H H' : Hp} (s : SameT H H') : ∀ {d : Dat} {v : V},d.imm = true -> Rep K H d v -> Rep K H' d v
  | .non,_,_,h => h
  | .bl _,_,_,h => h
  | .int _,_,_,h => h
  | .str _,_,_,h => h
  | .lst _,_,i,_ => by cases i
  | .tup ds,_,i,h => by
    obtain ⟨a,xs,e,q,r⟩ := h
    exact ⟨a,xs,e,q.keep s,Reps.keep s (ds := ds) i r⟩
theorem Reps.keep {H H' : Hp} (s : SameT H H') : ∀ {ds : List Dat} {xs : List V},Dat.imms ds = true -> Reps K H ds xs -> Reps K H' ds xs
  | [],_,_,h => h
  | d :: ds,_,i,h => by
    obtain ⟨x,r,e,h1,h2⟩ := h
    have i' : (d.imm && Dat.imms ds) = true := i
    rw [Bool.and_eq_true] at i'
    exact ⟨x,r,e,Rep.keep s i'.1 h1,Reps.keep s i'.2 h2⟩
end
theorem Reps.snoc {H : Hp} {d : Dat} {v : V} (h : Rep K H d v) : ∀ {ds : List Dat} {xs : List V},Reps K H ds xs -> Reps K H (ds ++ [d]) (xs ++ [v])
  | [],_,e => by rw [show _ = _ from e];exact ⟨v,[],rfl,h,rfl⟩
  | _ :: _,_,e => by
    obtain ⟨x,r,e1,h1,h2⟩ := e
    subst e1
    exact ⟨x,r ++ [v],rfl,h1,Reps.snoc h h2⟩
theorem Reps.take {H : Hp} : ∀ (n : Nat) {ds : List Dat} {xs : List V},Reps K H ds xs -> Reps K H (ds.take n) (xs.take n)
  | 0,_,_,_ => rfl
  | n + 1,[],_,h => by rw [show _ = _ from h];exact rfl
  | n + 1,d :: ds,_,h => by
    obtain ⟨x,r,e,h1,h2⟩ := h
    subst e
    exact ⟨x,r.take n,rfl,h1,Reps.take n h2⟩
theorem Reps.app {H : Hp} : ∀ {ds es : List Dat} {xs ys : List V},Reps K H ds xs -> Reps K H es ys -> Reps K H (ds ++ es) (xs ++ ys)
  | [],_,_,_,h,h' => by rw [show _ = _ from h];exact h'
  | d :: ds,_,_,_,h,h' => by
    obtain ⟨x,r,e,h1,h2⟩ := h
    subst e
    exact ⟨x,r ++ _,rfl,h1,Reps.app h2 h'⟩
end
mutual
def Dat.gd (k : Nat) : Dat -> Bool
  | .int i => decide (i.natAbs <= 10000000000 + k)
  | .str x => x.cps.toList.all fun c => decide (c < 1000000)
  | .lst ds => Dat.gds k ds
  | .tup ds => Dat.gds k ds
  | _ => true
def Dat.gds (k : Nat) : List Dat -> Bool
  | [] => true
  | d :: ds => d.gd k && Dat.gds k ds
end
mutual
theorem Dat.gd_up {k m : Nat} (h : k <= m) : ∀ {d : Dat},d.gd k = true -> d.gd m = true
  | .int i,e => decide_eq_true (by have := of_decide_eq_true (p := i.natAbs <= 10000000000 + k) e;omega)
  | .str _,e => e
  | .lst ds,e => Dat.gds_up h (ds := ds) e
  | .tup ds,e => Dat.gds_up h (ds := ds) e
  | .non,_ => rfl
  | .bl _,_ => rfl
theorem Dat.gds_up {k m : Nat} (h : k <= m) : ∀ {ds : List Dat},Dat.gds k ds = true -> Dat.gds m ds = true
  | [],_ => rfl
  | d :: ds,e => by
    have e' : (d.gd k && Dat.gds k ds) = true := e
    rw [Bool.and_eq_true] at e'
    show (d.gd m && Dat.gds m ds) = true
    rw [Dat.gd_up h e'.1,Dat.gds_up h e'.2];rfl
end
mutual
theorem Dat.gd_shw {k : Nat} (h : k <= 1000) : ∀ {d : Dat},d.gd k = true -> d.shw = true
  | .int i,e => decide_eq_true (by have := of_decide_eq_true (p := i.natAbs <= 10000000000 + k) e;omega)
  | .str _,e => e
  | .lst ds,e => Dat.gds_shw h (ds := ds) e
  | .tup ds,e => Dat.gds_shw h (ds := ds) e
  | .non,_ => rfl
  | .bl _,_ => rfl
theorem Dat.gds_shw {k : Nat} (h : k <= 1000) : ∀ {ds : List Dat},Dat.gds k ds = true -> Dat.shws ds = true
  | [],_ => rfl
  | d :: ds,e => by
    have e' : (d.gd k && Dat.gds k ds) = true := e
    rw [Bool.and_eq_true] at e'
    show (d.shw && Dat.shws ds) = true
    rw [Dat.gd_shw h e'.1,Dat.gds_shw h e'.2];rfl
end
structure GdD (k z D : Nat) (d : Dat) : Prop where
  g : d.gd k = true
  b : d.blk <= z
  p : d.py.depth <= D
theorem GdD.up {k z D k' z' D' : Nat} {d : Dat} (h : GdD k z D d) (h1 : k <= k') (h2 : z <= z') (h3 : D <= D') : GdD k' z' D' d := ⟨Dat.gd_up h1 h.g,Nat.le_trans h.b h2,Nat.le_trans h.p h3⟩
section
variable {P : Program} {w : World} {K : PySem.W.Frag} {mg : Str -> Option Value} {base : Heap}
def DS (K : PySem.W.Frag) (F : Hp) (k z D : Nat) (v : V) : Prop := ∃ d,Rep K F d v /\ GdD k z D d
theorem DS.up {F F' : Hp} {k z D k' z' D' : Nat} {v : V} (h : DS K F k z D v) (s : Same F F') (h1 : k <= k') (h2 : z <= z') (h3 : D <= D') : DS K F' k' z' D' v := let ⟨d,r,g⟩ := h;⟨d,r.same s,g.up h1 h2 h3⟩
theorem xk {F : Hp} {k z D : Nat} : ∀ {xs : List V},(∀ x ∈ xs,DS K F k z D x) -> ∃ ds,Reps K F ds xs /\ Dat.gds k ds = true /\ Dat.blks ds <= (z + 1) * xs.length /\ PyData.depthAll (Dat.pys ds) <= D
  | [],_ => ⟨[],rfl,rfl,Nat.zero_le _,Nat.zero_le _⟩
  | x :: xs,h => by
    obtain ⟨d,r,g⟩ := h x (by simp)
    obtain ⟨ds,r',g',b',p'⟩ := xk (xs := xs) fun y hy => h y (List.mem_cons_of_mem _ hy)
    refine ⟨d :: ds,⟨x,xs,rfl,r,r'⟩,?_,?_,?_⟩
    · show (d.gd k && Dat.gds k ds) = true
      rw [g.g,g'];rfl
    · show d.blk + 1 + Dat.blks ds <= _
      have := g.b
      rw [List.length_cons,Nat.mul_succ]
      omega
    · show max d.py.depth (PyData.depthAll (Dat.pys ds)) <= D
      have := g.p
      omega
theorem DS.lst {F : Hp} {k z D z' : Nat} {a : Addr} {xs : List V} (h : SqL K F a xs) (all : ∀ x ∈ xs,DS K F k z D x) (hz : (z + 1) * xs.length <= z') : DS K F k z' (D + 1) (.ref a) := by
  obtain ⟨ds,r,g,b,p⟩ := xk all
  refine ⟨.lst ds,⟨a,xs,rfl,h,r⟩,g,Nat.le_trans b hz,?_⟩
  show PyData.depth (.list (Dat.pys ds)) <= _
  simp only [PyData.depth]
  omega
theorem DS.tup {F : Hp} {k z D z' : Nat} {a : Addr} {xs : List V} (h : SqT K F a xs) (all : ∀ x ∈ xs,DS K F k z D x) (hz : (z + 1) * xs.length <= z') : DS K F k z' (D + 1) (.ref a) := by
  obtain ⟨ds,r,g,b,p⟩ := xk all
  refine ⟨.tup ds,⟨a,xs,rfl,h,r⟩,g,Nat.le_trans b hz,?_⟩
  show PyData.depth (.tuple (Dat.pys ds)) <= _
  simp only [PyData.depth]
  omega
theorem xL {F : Hp} {k z D : Nat} : ∀ {ds : List Dat} {xs : List V},Reps K F ds xs -> Dat.gds k ds = true -> Dat.blks ds <= z -> PyData.depthAll (Dat.pys ds) <= D -> xs.length <= z /\ ∀ x ∈ xs,DS K F k (z - 1) D x
  | [],_,h,_,_,_ => by rw [show _ = _ from h];exact ⟨Nat.zero_le _,fun x hx => nomatch hx⟩
  | d :: ds,_,h,g,b,p => by
    obtain ⟨v,r,e,h1,h2⟩ := h
    subst e
    have g' : (d.gd k && Dat.gds k ds) = true := g
    rw [Bool.and_eq_true] at g'
    have b' : d.blk + 1 + Dat.blks ds <= z := b
    have p' : max d.py.depth (PyData.depthAll (Dat.pys ds)) <= D := p
    obtain ⟨l,al⟩ := xL (z := z - 1) (k := k) (D := D) h2 g'.2 (by omega) (by omega)
    refine ⟨by rw [List.length_cons];omega,fun x hx => ?_⟩
    rcases List.mem_cons.mp hx with q | q
    · rw [q];exact ⟨d,h1,g'.1,by omega,by omega⟩
    · exact (al x q).up (Same.refl _) (Nat.le_refl _) (by omega) (Nat.le_refl _)
theorem SqQ.same {H H' : Hp} {t : Bool} {a : Addr} {xs : List V} (h : SqQ K H t a xs) (s : Same H H') : SqQ K H' t a xs := by
  cases t with
  | true => exact s.sqT h
  | false => exact s.seq h
theorem SqQ.or {H : Hp} {t : Bool} {a : Addr} {xs : List V} (h : SqQ K H t a xs) : SqL K H a xs \/ SqT K H a xs := by
  cases t with
  | true => exact .inr h
  | false => exact .inl h
def tyQ (t : Bool) : String := if t = true then "tuple" else "list"
theorem SqQ.ty {H : Hp} {t : Bool} {a : Addr} {xs : List V} (h : SqQ K H t a xs) : TyN K H (.ref a) (tyQ t) := by
  cases t with
  | true => exact .inr ⟨rfl,xs,h⟩
  | false => exact .inl ⟨rfl,xs,h⟩
theorem DS.split {F : Hp} {k z D : Nat} {v : V} (h : DS K F k z D v) : v = .non \/ (∃ c,v = .bl c) \/ (∃ i : Int,v = .int i /\ i.natAbs <= 10000000000 + k) \/ (∃ x : Str,v = .str x) \/ ∃ (a : Addr) (t : Bool) (xs : List V),v = .ref a /\ SqQ K F t a xs /\ xs.length <= z /\ 1 <= D /\ ∀ x ∈ xs,DS K F k (z - 1) (D - 1) x := by
  obtain ⟨d,r,g,b,p⟩ := h
  cases d with
  | non => exact .inl r
  | bl c => exact .inr (.inl ⟨c,r⟩)
  | int i => exact .inr (.inr (.inl ⟨i,r,of_decide_eq_true g⟩))
  | str x => exact .inr (.inr (.inr (.inl ⟨x,r⟩)))
  | lst ds =>
    obtain ⟨a,xs,e,q,rs⟩ := r
    have p' : PyData.depth (.list (Dat.pys ds)) <= D := p
    simp only [PyData.depth] at p'
    obtain ⟨l,al⟩ := xL (z := z) (D := D - 1) rs g b (by omega)
    exact .inr (.inr (.inr (.inr ⟨a,false,xs,e,q,l,by omega,al⟩)))
  | tup ds =>
    obtain ⟨a,xs,e,q,rs⟩ := r
    have p' : PyData.depth (.tuple (Dat.pys ds)) <= D := p
    simp only [PyData.depth] at p'
    obtain ⟨l,al⟩ := xL (z := z) (D := D - 1) rs g b (by omega)
    exact .inr (.inr (.inr (.inr ⟨a,true,xs,e,q,l,by omega,al⟩)))
theorem WZ {k : Nat} {i : Int} (h : i.natAbs <= 10000000000 + k) (z D : Nat) : GdD k z D (.int i) := ⟨decide_eq_true h,Nat.zero_le _,by show PyData.depth (.int i) <= _;simp [PyData.depth]⟩
theorem DS.non {F : Hp} {k z D : Nat} : DS K F k z D .non := ⟨.non,rfl,rfl,Nat.zero_le _,by show PyData.depth .none <= _;simp [PyData.depth]⟩
theorem DS.bl {F : Hp} {k z D : Nat} (b : Bool) : DS K F k z D (.bl b) := ⟨.bl b,rfl,rfl,Nat.zero_le _,by show PyData.depth (.bool b) <= _;simp [PyData.depth]⟩
theorem DS.int {F : Hp} {k z D : Nat} {i : Int} (h : i.natAbs <= 10000000000 + k) : DS K F k z D (.int i) := ⟨.int i,rfl,WZ h z D⟩
theorem DS.str {F : Hp} {k z D : Nat} {x : Str} (h : x.length <= z) (hc : ∀ c ∈ x.cps.toList,c < 1000000) : DS K F k z D (.str x) := ⟨.str x,rfl,List.all_eq_true.mpr fun c hc' => decide_eq_true (hc c hc'),h,by show PyData.depth (.str x) <= _;simp [PyData.depth]⟩
theorem DS.istr {F : Hp} {k z D : Nat} {i : Int} (h : i.natAbs < 1000000000000) (hz : 13 <= z) : DS K F k z D (.str (toString i)) := by
  refine DS.str (Nat.le_trans (ZS h) hz) fun c hc => ?_
  have e : (Str.ofString (toString i)).cps.toList = (toString i).toList.map Char.toNat := by rw [Str.ofString_eq_toList]
  have hc' : c ∈ (Str.ofString (toString i)).cps.toList := hc
  rw [e] at hc'
  obtain ⟨ch,h1,rfl⟩ := List.mem_map.mp hc'
  have := int_ascii i ch h1
  omega
theorem XU (xs : List V) (b : Nat) : (qx xs none (some (b : Int))).length <= b := by
  unfold qx
  rw [HT.sIx_nat,HT.sIx_none]
  rw [List.length_take]
  omega
theorem XT (xs : List V) (a : Nat) : (qx xs (some (a : Int)) none).length <= xs.length - a := by
  unfold qx
  rw [HT.sIx_nat,HT.sIx_none]
  rw [List.length_take,List.length_drop]
  omega
theorem We (xs : List V) (a b : Nat) : (qx xs (some (a : Int)) (some (b : Int))).length <= b - a /\ (qx xs (some (a : Int)) (some (b : Int))).length <= xs.length - a := by
  unfold qx
  rw [HT.sIx_nat,HT.sIx_nat]
  rw [List.length_take,List.length_drop]
  exact ⟨Nat.le_trans (Nat.min_le_left _ _) (by omega),Nat.le_trans (Nat.min_le_right _ _) (by omega)⟩
end
structure Ex (H : Hp) (b : Addr) (ex : List Addr) : Prop where
  mem : b ∈ ex
  al : ∀ e ∈ ex,∃ o,H e = some o
theorem Ex.next {H H' : Hp} {b : Addr} {ex : List Addr} {m : Int} (h : Ex H b ex) (s : SameB b H H') (B : BoxAt H' b m) : Ex H' b ex := ⟨h.mem,fun e he => by
  by_cases z : e = b
  · rw [z];exact B.some
  · obtain ⟨o,q⟩ := h.al e he
    exact ⟨o,s e o q z⟩⟩
theorem Ex.same {H H' : Hp} {b : Addr} {ex : List Addr} (h : Ex H b ex) (s : Same H H') : Ex H' b ex := ⟨h.mem,fun e he => let ⟨o,q⟩ := h.al e he;⟨o,s e o q⟩⟩
theorem Ex.out {H : Hp} {b p : Addr} {ex : List Addr} (h : Ex H b ex) (hp : H p = none) : p ∉ ex := fun z => by
  obtain ⟨o,q⟩ := h.al p z
  rw [hp] at q;cases q
theorem Ex.cons {H : Hp} {b m : Addr} {o : HO} {ex : List Addr} (h : Ex H b ex) (hm : H m = some o) : Ex H b (m :: ex) := ⟨List.mem_cons_of_mem _ h.mem,fun e he => (List.mem_cons.mp he).elim (fun z => ⟨o,by rw [z];exact hm⟩) (h.al e)⟩
theorem Ex.put {H : Hp} {b m : Addr} {o : HO} {ex : List Addr} (h : Ex H b ex) : Ex (upd H m o) b ex := ⟨h.mem,fun e he => by
  by_cases z : e = m
  · rw [z];exact ⟨o,zi⟩
  · rw [zw z];exact h.al e he⟩
theorem WX.draw {ex : List Addr} {H H' : Hp} {b : Addr} (h : b ∈ ex) (s : SameB b H H') : Same (WX ex H) (WX ex H') := fun c u e => by
  unfold WX at e ⊢
  split at e
  · cases e
  · rename_i hc
    rw [if_neg hc]
    exact s c u e (fun z => hc (by rw [z];exact h))
section
variable {P : Program} {w : World} {K : PySem.W.Frag} {mg : Str -> Option Value} {base : Heap}
theorem Wo {x : Str} {k z D : Nat} {F : Hp} (h : decide (x.length <= 6) = true) (hc : (x.cps.toList.all fun c => decide (c < 1000000)) = true) (hz : 6 <= z) : DS K F k z D (.str x) := DS.str (Nat.le_trans (of_decide_eq_true h) hz) fun c h' => of_decide_eq_true (List.all_eq_true.mp hc c h')
inductive Qb (K : PySem.W.Frag) (vs : List V) (H : Hp) (Q : VK) : Prop
  | mk (b : Addr) (n : Int) (ex : List Addr) (_ : vs = [.ref b]) (_ : BoxAt H b n) (_ : n < 1099511627000) (_ : Ex H b ex) (_ : ∀ v H',SameB b H H' -> BoxAt H' b (n + 1) -> DS K (WX ex H') 0 10 3 v -> Q v H') : Qb K vs H Q
def yJ (K : PySem.W.Frag) : Sp := fun vs H Q _ => Qb K vs H Q
theorem VZ : zH ["_law_box_here", "_law_some"] ["_law_box_here"] (zo (zp 28)) := ⟨rfl,rfl,rfl,by decide +kernel,rfl,by decide +kernel,by decide +kernel⟩
theorem WJ {f : Addr} {fd : FuncData} (F : Fun K "_law_odd" "_law_odd" (zp 28) f fd) (B : Blt mg) (D_take : Dfn P w K mg base "_law_take" 1 ["_law_box_here", "_law_size"] je) : FnOk P w K mg base CX0 2 f fd ["_law_box_here"] (yJ K) := by
  have nd := VZ.nd
  refine F.ok VZ (fun vs H Q E h => ?_) (fun cdv A outer s H vs Q E hr h => ?_)
  · obtain ⟨b,n,ex,rfl,_⟩ := h
    rfl
  · obtain ⟨b,n,ex,rfl,B0,hn,E0,k⟩ := h
    refine ⟨_,(zn (zL (i := 1) nd rfl (Or.inl rfl) (qF (zal Xg qJ qJ zj (Xe ZA zj) zj (zE ZM zj zj) yf yf yf (qp zg) (qF zg) (qp (ze zj zg)) (qF (ze zj zg)) (qp (ze zj (ze zj zg))) (qF (ze (qF zg) zg)) (qp (ze yf (ze zj zg))))))
      (zu (zA (zJ zG (pv 1) (zv D_take (hr.mono (by first | decide | exact Nat.le_refl _ | omega)) rfl (ze (pv 0) (ze zj zg))) (fun _ _ => rfl))))),?_⟩
    refine ⟨_,rfl,_,_,rfl,rfl,⟨by decide,by decide,by decide⟩,le0,fun p1 h1 => ⟨le0,fun p2 h2 => ⟨le1,fun p3 h3 => ⟨le1,fun p4 h4 => ⟨le2,fun p5 h5 => ⟨le0,fun p6 h6 => ⟨le1,fun p7 h7 => ⟨le2,fun p8 h8 => ⟨leN (by show 17 <= 1000;decide),fun l hl => ?_⟩⟩⟩⟩⟩⟩⟩⟩⟩
    have s1 := zf (o := .tup []) h1
    have s2 := zf (o := .lst []) h2
    have s3 := zf (o := .tup [.int 0]) h3
    have s4 := zf (o := .lst [.int 0]) h4
    have s5 := zf (o := .tup [.int 0,.int 1]) h5
    have s6 := zf (o := .lst []) h6
    have s7 := zf (o := .lst [.ref p6]) h7
    have s8 := zf (o := .tup [.str "laid",.int 0]) h8
    have E1 := E0.same s1
    have E2 := E1.same s2
    have E3 := E2.same s3
    have E4 := E3.same s4
    have E5 := E4.same s5
    have E6 := E5.same s6
    have E7 := E6.same s7
    have E8 := E7.same s8
    have sl := zf (o := .lst [.non,.bl true,.bl false,.int 0,.int (-1),.int 1,.int (10 ^ (9 : Int).toNat),.str "",.str "a",.str "0",.ref p1,.ref p2,.ref p3,.ref p4,.ref p5,.ref p7,.ref p8]) hl
    have f1 := (s2.trans (s3.trans (s4.trans (s5.trans (s6.trans (s7.trans (s8.trans sl))))))) p1 _ zi
    have f2 := (s3.trans (s4.trans (s5.trans (s6.trans (s7.trans (s8.trans sl)))))) p2 _ zi
    have f3 := (s4.trans (s5.trans (s6.trans (s7.trans (s8.trans sl))))) p3 _ zi
    have f4 := (s5.trans (s6.trans (s7.trans (s8.trans sl)))) p4 _ zi
    have f5 := (s6.trans (s7.trans (s8.trans sl))) p5 _ zi
    have f6 := (s7.trans (s8.trans sl)) p6 _ zi
    have f7 := (s8.trans sl) p7 _ zi
    have f8 := sl p8 _ zi
    have st := s1.trans (s2.trans (s3.trans (s4.trans (s5.trans (s6.trans (s7.trans (s8.trans sl)))))))
    have n1 := E0.out h1
    have n2 := E1.out h2
    have n3 := E2.out h3
    have n4 := E3.out h4
    have n5 := E4.out h5
    have n6 := E5.out h6
    have n7 := E6.out h7
    have n8 := E7.out h8
    have nl := E8.out hl
    have B8 := B0.same st
    have fl := zi (H := upd (upd (upd (upd (upd (upd (upd (upd H p1 (.tup [])) p2 (.lst [])) p3 (.tup [.int 0])) p4 (.lst [.int 0])) p5 (.tup [.int 0,.int 1])) p6 (.lst [])) p7 (.lst [.ref p6])) p8 (.tup [.str "laid",.int 0])) (a := l) (o := .lst [.non,.bl true,.bl false,.int 0,.int (-1),.int 1,.int (10 ^ (9 : Int).toNat),.str "",.str "a",.str "0",.ref p1,.ref p2,.ref p3,.ref p4,.ref p5,.ref p7,.ref p8])
    clear s1 s2 s3 s4 s5 s6 s7 s8 E1 E2 E3 E4 E5 E6 E7 E8 sl h1 h2 h3 h4 h5 h6 h7 h8 hl B0
    refine ⟨_,rfl,_,rfl,b,17,n,rfl,B8,by omega,by decide,by decide,fun r H1 r0 r1 B1 S1 => ?_⟩
    have up : ∀ p o,p ∉ ex -> _ = some o -> WX ex H1 p = some o := fun p o hp e => WX.at hp (S1 p o e (fun z => hp (by rw [z];exact E0.mem)))
    have g1 := up p1 _ n1 f1
    have g2 := up p2 _ n2 f2
    have g3 := up p3 _ n3 f3
    have g4 := up p4 _ n4 f4
    have g5 := up p5 _ n5 f5
    have g6 := up p6 _ n6 f6
    have g7 := up p7 _ n7 f7
    have g8 := up p8 _ n8 f8
    have gl := S1 l _ fl (fun z => nl (by rw [z];exact E0.mem))
    have all : ∀ x ∈ [V.non,.bl true,.bl false,.int 0,.int (-1),.int 1,.int (10 ^ (9 : Int).toNat),.str "",.str "a",.str "0",.ref p1,.ref p2,.ref p3,.ref p4,.ref p5,.ref p7,.ref p8],DS K (WX ex H1) 0 10 3 x := by
      have i0 : ∀ i : Int,i.natAbs <= 10000000000 -> ∀ D,DS K (WX ex H1) 0 2 D (.int i) := fun i h D => DS.int (by omega)
      have t6 : DS K (WX ex H1) 0 2 1 (.ref p6) := DS.lst (z := 0) (D := 0) (SqL.of g6) fm0 (Nat.zero_le _)
      refine fm DS.non (fm (DS.bl _) (fm (DS.bl _) (fm (DS.int (by decide)) (fm (DS.int (by decide)) (fm (DS.int (by decide)) (fm (DS.int (by decide)) (fm (Wo (by decide) (by decide) (by decide)) (fm (Wo (by decide) (by decide) (by decide)) (fm (Wo (by decide) (by decide) (by decide)) ?_)))))))))
      refine fm ((DS.tup (k := 0) (z := 0) (D := 0) (z' := 0) (SqT.of g1) fm0 (Nat.zero_le _)).up (Same.refl _) (by decide) (by decide) (by decide)) (fm ((DS.lst (k := 0) (z := 0) (D := 0) (z' := 0) (SqL.of g2) fm0 (Nat.zero_le _)).up (Same.refl _) (by decide) (by decide) (by decide)) (fm (DS.tup (z := 2) (D := 2) (SqT.of g3) (fm (i0 0 (by decide) 2) fm0) (by decide)) (fm (DS.lst (z := 2) (D := 2) (SqL.of g4) (fm (i0 0 (by decide) 2) fm0) (by decide)) (fm (DS.tup (z := 2) (D := 2) (SqT.of g5) (fm (i0 0 (by decide) 2) (fm (i0 1 (by decide) 2) fm0)) (by decide)) (fm (DS.lst (z := 2) (D := 2) (SqL.of g7) (fm (t6.up (Same.refl _) (by decide) (by decide) (by decide)) fm0) (by show 3 * 1 <= 10;decide)) (fm ?_ fm0))))))
      refine DS.tup (z := 4) (D := 2) (SqT.of g8) (fm (DS.str (by decide) (fun c hc => of_decide_eq_true (List.all_eq_true.mp (by decide : (("laid" : Str).cps.toList.all fun c => decide (c < 1000000)) = true) c hc))) (fm (DS.int (by decide)) fm0)) (by decide)
    obtain ⟨v,ev,dv⟩ := Wa (α := fun x => DS K (WX ex H1) 0 10 3 x) gl r0 r1 all
    exact ⟨l,_,_,v,rfl,rfl,SqL.of gl,ev,k v H1 ((SameB.of st).trans S1) B1 dv⟩
end
theorem ZR {n : Nat} {i : Int} (h : 0 <= i) (h' : i < n) : ixN n i = some i.toNat := by
  unfold ixN
  rw [if_pos h,if_pos h']
section
variable {P : Program} {w : World} {K : PySem.W.Frag} {mg : Str -> Option Value} {base : Heap}
theorem DS.split2 {F : Hp} {k z D : Nat} {v : V} (h : DS K F k z D v) : v = .non \/ (∃ c,v = .bl c) \/ (∃ i : Int,v = .int i /\ i.natAbs <= 10000000000 + k) \/ (∃ x : Str,v = .str x) \/ ∃ (a : Addr) (t : Bool) (xs : List V) (ds : List Dat),v = .ref a /\ SqQ K F t a xs /\ Reps K F ds xs /\ Dat.gds k ds = true /\ Dat.blks ds <= z /\ PyData.depthAll (Dat.pys ds) + 1 <= D := by
  obtain ⟨d,r,g,b,p⟩ := h
  cases d with
  | non => exact .inl r
  | bl c => exact .inr (.inl ⟨c,r⟩)
  | int i => exact .inr (.inr (.inl ⟨i,r,of_decide_eq_true g⟩))
  | str x => exact .inr (.inr (.inr (.inl ⟨x,r⟩)))
  | lst ds =>
    obtain ⟨a,xs,e,q,rs⟩ := r
    exact .inr (.inr (.inr (.inr ⟨a,false,xs,ds,e,q,rs,g,b,p⟩)))
  | tup ds =>
    obtain ⟨a,xs,e,q,rs⟩ := r
    exact .inr (.inr (.inr (.inr ⟨a,true,xs,ds,e,q,rs,g,b,p⟩)))
end
theorem Qy {k : Nat} : ∀ {ds : List Dat} {i : Nat} {d : Dat},Dat.gds k ds = true -> d.gd k = true -> Dat.gds k (ds.set i d) = true
  | [],_,_,h,_ => h
  | a :: ds,0,d,h,h' => by
    have e : (a.gd k && Dat.gds k ds) = true := h
    rw [Bool.and_eq_true] at e
    show (d.gd k && Dat.gds k ds) = true
    rw [h',e.2];rfl
  | a :: ds,i + 1,d,h,h' => by
    have e : (a.gd k && Dat.gds k ds) = true := h
    rw [Bool.and_eq_true] at e
    show (a.gd k && Dat.gds k (ds.set i d)) = true
    rw [e.1,Qy e.2 h'];rfl
theorem Zw : ∀ {ds : List Dat} {i : Nat} {d : Dat},Dat.blks (ds.set i d) <= Dat.blks ds + d.blk
  | [],_,_ => Nat.zero_le _
  | a :: ds,0,d => by
    show d.blk + 1 + Dat.blks ds <= a.blk + 1 + Dat.blks ds + d.blk
    omega
  | a :: ds,i + 1,d => by
    show a.blk + 1 + Dat.blks (ds.set i d) <= a.blk + 1 + Dat.blks ds + d.blk
    have := Zw (ds := ds) (i := i) (d := d)
    omega
theorem Zj : ∀ {ds : List Dat} {i : Nat} {d : Dat},PyData.depthAll (Dat.pys (ds.set i d)) <= max (PyData.depthAll (Dat.pys ds)) d.py.depth
  | [],_,_ => Nat.zero_le _
  | a :: ds,0,d => Nat.max_le.mpr ⟨Nat.le_max_right _ _,Nat.le_trans (Nat.le_max_right _ _) (Nat.le_max_left _ _)⟩
  | a :: ds,i + 1,d => Nat.max_le.mpr ⟨Nat.le_trans (Nat.le_max_left _ _) (Nat.le_max_left _ _),Nat.le_trans (Zj (ds := ds) (i := i) (d := d)) (Nat.max_le.mpr ⟨Nat.le_trans (Nat.le_max_right _ _) (Nat.le_max_left _ _),Nat.le_max_right _ _⟩)⟩
section
variable {P : Program} {w : World} {K : PySem.W.Frag} {mg : Str -> Option Value} {base : Heap}
theorem Reps.set {H : Hp} : ∀ {ds : List Dat} {xs : List V} {i : Nat} {d : Dat} {v : V},Reps K H ds xs -> Rep K H d v -> Reps K H (ds.set i d) (xs.set i v)
  | [],_,_,_,_,h,_ => by rw [show _ = _ from h];exact rfl
  | a :: ds,_,0,d,v,h,h' => by
    obtain ⟨x,r,e,_,h2⟩ := h
    subst e
    exact ⟨v,r,rfl,h',h2⟩
  | a :: ds,_,i + 1,d,v,h,h' => by
    obtain ⟨x,r,e,h1,h2⟩ := h
    subst e
    exact ⟨x,r.set i v,rfl,h1,Reps.set h2 h'⟩
end
theorem vV : ∀ a b : List Dat,Dat.blks (a ++ b) = Dat.blks a + Dat.blks b
  | [],b => by show Dat.blks b = 0 + Dat.blks b;omega
  | d :: a,b => by
    have := vV a b
    show d.blk + 1 + Dat.blks (a ++ b) = d.blk + 1 + Dat.blks a + Dat.blks b
    omega
theorem Qz {k : Nat} : ∀ {a b : List Dat},Dat.gds k a = true -> Dat.gds k b = true -> Dat.gds k (a ++ b) = true
  | [],_,_,h => h
  | d :: a,b,h,h' => by
    have e : (d.gd k && Dat.gds k a) = true := h
    rw [Bool.and_eq_true] at e
    show (d.gd k && Dat.gds k (a ++ b)) = true
    rw [e.1,Qz e.2 h'];rfl
theorem wI {k : Nat} : ∀ {a b : List Dat},Dat.gds k (a ++ b) = true -> Dat.gds k a = true /\ Dat.gds k b = true
  | [],_,h => ⟨rfl,h⟩
  | d :: a,b,h => by
    have e : (d.gd k && Dat.gds k (a ++ b)) = true := h
    rw [Bool.and_eq_true] at e
    obtain ⟨h1,h2⟩ := wI e.2
    refine ⟨?_,h2⟩
    show (d.gd k && Dat.gds k a) = true
    rw [e.1,h1];rfl
theorem vS : ∀ a b : List Dat,PyData.depthAll (Dat.pys (a ++ b)) = max (PyData.depthAll (Dat.pys a)) (PyData.depthAll (Dat.pys b))
  | [],b => (Nat.zero_max _).symm
  | d :: a,b => by
    show max d.py.depth (PyData.depthAll (Dat.pys (a ++ b))) = max (max d.py.depth (PyData.depthAll (Dat.pys a))) (PyData.depthAll (Dat.pys b))
    rw [vS a b,Nat.max_assoc]
section
variable {P : Program} {w : World} {K : PySem.W.Frag} {mg : Str -> Option Value} {base : Heap}
def GL (K : PySem.W.Frag) (F : Hp) (k z D : Nat) (xs : List V) : Prop := ∃ ds,Reps K F ds xs /\ Dat.gds k ds = true /\ Dat.blks ds <= z /\ PyData.depthAll (Dat.pys ds) <= D
theorem GL.up {F F' : Hp} {k z D k' z' D' : Nat} {xs : List V} (h : GL K F k z D xs) (s : Same F F') (h1 : k <= k') (h2 : z <= z') (h3 : D <= D') : GL K F' k' z' D' xs := let ⟨ds,r,g,b,p⟩ := h;⟨ds,r.same s,Dat.gds_up h1 g,Nat.le_trans b h2,Nat.le_trans p h3⟩
theorem Reps.parts {H : Hp} : ∀ {ds : List Dat} {xs ys : List V},Reps K H ds (xs ++ ys) -> ∃ d1 d2,ds = d1 ++ d2 /\ Reps K H d1 xs /\ Reps K H d2 ys
  | ds,[],ys,h => ⟨[],ds,rfl,rfl,h⟩
  | [],x :: xs,ys,h => by cases (show x :: (xs ++ ys) = [] from h)
  | d :: ds,x :: xs,ys,h => by
    obtain ⟨v,r,e,h1,h2⟩ := h
    cases e
    obtain ⟨d1,d2,rfl,r1,r2⟩ := Reps.parts (xs := xs) (ys := ys) h2
    exact ⟨d :: d1,d2,rfl,⟨_,_,rfl,h1,r1⟩,r2⟩
theorem GL.parts {F : Hp} {k z D : Nat} {xs ys : List V} (h : GL K F k z D (xs ++ ys)) : ∃ z1 z2,z1 + z2 = z /\ GL K F k z1 D xs /\ GL K F k z2 D ys := by
  obtain ⟨ds,r,g,b,p⟩ := h
  obtain ⟨d1,d2,rfl,r1,r2⟩ := Reps.parts r
  obtain ⟨g1,g2⟩ := wI g
  rw [vV] at b
  rw [vS] at p
  exact ⟨Dat.blks d1,z - Dat.blks d1,by omega,⟨d1,r1,g1,Nat.le_refl _,by omega⟩,⟨d2,r2,g2,by omega,by omega⟩⟩
theorem GL.app {F : Hp} {k z1 z2 D : Nat} {xs ys : List V} (h : GL K F k z1 D xs) (h' : GL K F k z2 D ys) : GL K F k (z1 + z2) D (xs ++ ys) := by
  obtain ⟨d1,r1,g1,b1,p1⟩ := h
  obtain ⟨d2,r2,g2,b2,p2⟩ := h'
  exact ⟨d1 ++ d2,Reps.app r1 r2,Qz g1 g2,by rw [vV];omega,by rw [vS];omega⟩
theorem GL.one {F : Hp} {k z D : Nat} {v : V} (h : DS K F k z D v) : GL K F k (z + 1) D [v] := by
  obtain ⟨d,r,g,b,p⟩ := h
  refine ⟨[d],⟨v,[],rfl,r,rfl⟩,?_,?_,?_⟩
  · show (d.gd k && true) = true
    rw [g];rfl
  · show d.blk + 1 + 0 <= _
    omega
  · show max d.py.depth 0 <= D
    omega
theorem GL.nil {F : Hp} {k z D : Nat} : GL K F k z D [] := ⟨[],rfl,rfl,Nat.zero_le _,Nat.zero_le _⟩
theorem GL.take {F : Hp} {k z D : Nat} {xs : List V} (n : Nat) (h : GL K F k z D xs) : GL K F k z D (xs.take n) := by
  rw [<- List.take_append_drop n xs] at h
  obtain ⟨z1,z2,e,h1,_⟩ := h.parts
  exact h1.up (Same.refl _) (Nat.le_refl _) (by omega) (Nat.le_refl _)
theorem GL.drop {F : Hp} {k z D : Nat} {xs : List V} (n : Nat) (h : GL K F k z D xs) : GL K F k z D (xs.drop n) := by
  rw [<- List.take_append_drop n xs] at h
  obtain ⟨z1,z2,e,_,h2⟩ := h.parts
  exact h2.up (Same.refl _) (Nat.le_refl _) (by omega) (Nat.le_refl _)
theorem GL.cut {F : Hp} {k z D : Nat} {xs : List V} (lo hi : Option Int) (h : GL K F k z D xs) : GL K F k z D (qx xs lo hi) := by
  unfold qx
  first | exact (h.drop _).take _ | exact (h.take _).drop _
theorem GL.lst {F : Hp} {k z D : Nat} {a : Addr} {xs : List V} (q : SqL K F a xs) (h : GL K F k z D xs) : DS K F k z (D + 1) (.ref a) := by
  obtain ⟨ds,r,g,b,p⟩ := h
  refine ⟨.lst ds,⟨a,xs,rfl,q,r⟩,g,b,?_⟩
  show PyData.depth (.list (Dat.pys ds)) <= _
  simp only [PyData.depth]
  omega
theorem GL.tup {F : Hp} {k z D : Nat} {a : Addr} {xs : List V} (q : SqT K F a xs) (h : GL K F k z D xs) : DS K F k z (D + 1) (.ref a) := by
  obtain ⟨ds,r,g,b,p⟩ := h
  refine ⟨.tup ds,⟨a,xs,rfl,q,r⟩,g,b,?_⟩
  show PyData.depth (.tuple (Dat.pys ds)) <= _
  simp only [PyData.depth]
  omega
theorem GL.all {F : Hp} {k z D : Nat} {xs : List V} (h : GL K F k z D xs) : xs.length <= z /\ ∀ x ∈ xs,DS K F k z D x := by
  obtain ⟨ds,r,g,b,p⟩ := h
  obtain ⟨l,al⟩ := xL r g b p
  exact ⟨l,fun x hx => (al x hx).up (Same.refl _) (Nat.le_refl _) (by omega) (Nat.le_refl _)⟩
theorem GL.some {F : Hp} {k z D : Nat} {xs zs : List V} (h : GL K F k z D xs) (m : ∀ y ∈ zs,y ∈ xs) : GL K F k ((z + 1) * zs.length) D zs := xk fun y hy => h.all.2 y (m y hy)
theorem GL.rev {F : Hp} {k z D : Nat} : ∀ {xs : List V},GL K F k z D xs -> GL K F k z D xs.reverse := by
  intro xs
  induction xs generalizing z with
  | nil => exact id
  | cons x xs ih =>
    intro h
    obtain ⟨z1,z2,e,h1,h2⟩ := GL.parts (xs := [x]) (ys := xs) h
    rw [List.reverse_cons]
    exact ((ih h2).app h1).up (Same.refl _) (Nat.le_refl _) (by omega) (Nat.le_refl _)
end
end L2
set_option Elab.async false
set_option linter.all false
set_option maxRecDepth 100000
set_option maxHeartbeats 4000000
namespace L2
open PySem PySem.Spec PyProof.Rows
theorem yR {K : PySem.W.Frag} {H : Hp} {d : Dat} {a : Addr} (r : Rep K H d (.ref a)) : z9 d = false := by
  cases d with
  | int i => cases (show V.ref a = V.int i from r)
  | _ => rfl
section
variable {P : Program} {w : World} {K : PySem.W.Frag} {mg : Str -> Option Value} {base : Heap}
inductive wB (K : PySem.W.Frag) (vs : List V) (H : Hp) (Q : VK) : Prop
  | mk (b a : Addr) (t : Bool) (xs : List V) (n : Int) (k z D : Nat) (ex : List Addr) (_ : vs = [.ref b,.ref a]) (_ : BoxAt H b n) (_ : n < 1099511000000) (_ : Ex H b ex) (_ : SqQ K (WX ex H) t a xs) (_ : GL K (WX ex H) k z D xs) (_ : z <= 50000) (_ : 3 <= D) (_ : ∀ v H',SameB b H H' -> BoxAt H' b (n + 3) -> DS K (WX ex H') k (4 * z + 20) (D + 1) v -> Q v H') : wB K vs H Q
def wW (K : PySem.W.Frag) : Sp := fun vs H Q _ => wB K vs H Q
theorem Qg : zH ["_law_box_here", "_law_thing", "_law_draw", "_law_at", "_law_some"] ["_law_box_here", "_law_thing"] (zo (zp 29)) := ⟨rfl,rfl,rfl,by decide +kernel,rfl,by decide +kernel,by decide +kernel⟩
def QN (b : _) (a : _) (way : _) (q : _) (H : _) (n : _) (ex : _) (K : _) (k' : _) (z : _) (D : _) := fun (σ' : St) (H' : Hp) => (Ex2 fun (p : Addr) (ys : List V) => An6 (σ' = [some (.ref b),some (.ref a),some (.int way),some (.int q),some (.ref p)]) (SameB b H H') (BoxAt H' b (n + 3)) (p ∉ ex) (H' p = some (.lst ys)) (GL K (WX ex H') k' (4 * z + 20) D ys) : Prop)
theorem Xo {f : Addr} {fd : FuncData} (F : Fun K "_law_other_row" "_law_other_row" (zp 29) f fd) (B : Blt mg) (D_take : Dfn P w K mg base "_law_take" 1 ["_law_box_here", "_law_size"] je) (D_odd : Dfn P w K mg base "_law_odd" 2 ["_law_box_here"] (yJ K)) : FnOk P w K mg base CX0 3 f fd ["_law_box_here", "_law_thing"] (wW K) := by
  have nd := Qg.nd
  refine F.ok Qg (fun vs H Q E h => ?_) (fun cdv A outer s H vs Q E hr h => ?_)
  · obtain ⟨b,a,t,xs,n,k,z,D,ex,rfl,_⟩ := h
    rfl
  · obtain ⟨b,a,t,xs,n,k',z,D,ex,rfl,B0,hn,E0,hq,gl0,hz1,hD,k⟩ := h
    have hxl := gl0.all.1
    have hbig : 100000 < sizeLine := by rw [sizeLine_eq];decide
    have e62 : (2 : Int) ^ 62 = 4611686018427387904 := by decide
    have sq : ∀ H',SameB b H H' -> SqQ K H' t a xs := fun H' s => hq.same ((WX.draw E0.mem s).trans WX.le)
    have old : ∀ H',SameB b H H' -> GL K (WX ex H') k' z D xs := fun H' s => gl0.up (WX.draw E0.mem s) (Nat.le_refl _) (Nat.le_refl _) (Nat.le_refl _)
    have grow : ∀ {F : Hp} {m : Nat} {ys : List V},GL K F k' m D ys -> m <= 4 * z + 20 -> GL K F k' (4 * z + 20) D ys := fun h l => h.up (Same.refl _) (Nat.le_refl _) l (Nat.le_refl _)
    refine ⟨_,(zn (ZK (i := 2) (j := 3) rfl nd rfl rfl (by decide) rfl rfl (ze (zv D_take (hr.mono (by first | decide | exact Nat.le_refl _ | omega)) rfl (ze (pv 0) (ze zj zg))) (ze (zv D_take (hr.mono (by first | decide | exact Nat.le_refl _ | omega)) rfl (ze (pv 0) (ze (zE z0 (zk zx rfl B.len boot_len (ze (pv 1) zg)) zj) zg))) zg)) (by rfl))
      (zn (zL (i := 4) nd rfl (Or.inl rfl) (zW qr rfl B.list zM (ze (pv 1) zg)))
      (zn (yb (qg (zQ qB (pv 2) zj (zI _))
      (zu (zL (i := 4) nd rfl (Or.inl rfl) (zE vM (qA qH (pv 4) jb (qo (pv 3))) (qA qH (pv 4) (qo (zE z0 (pv 3) zj)) jb))))
      (zu (qg (zQ qB (pv 2) zj (zI _))
        (zu (zL (i := 4) nd rfl (Or.inl rfl) (zE vM (zE vM (qA qH (pv 4) jb (qo (pv 3))) (qA qH (pv 4) (qo (pv 3)) (qo (zE z0 (pv 3) zj)))) (qA qH (pv 4) (qo (pv 3)) jb))))
        (zu (qg (zQ qB (pv 2) zj (zI _))
          (zu (yc (Wc PySem.F.plainAttrs_list PySem.F.slot_list_insert PySem.F.type_list_insert wH (pv 4) (ze (pv 3) (ze (zv D_odd (hr.mono (by first | decide | exact Nat.le_refl _ | omega)) rfl (ze (pv 0) zg)) zg)))))
          (zu (qg (zQ qB (pv 2) zj (zI _))
            (zu (zL (i := 4) nd rfl (Or.inl rfl) (zE vM (zE vM (qA qH (pv 4) jb (qo (pv 3))) (Jf (qA qH (pv 4) (qo (pv 3)) (qo (zE z0 (pv 3) zj))) (qo (Xe ZA zj)))) (qA qH (pv 4) (qo (zE z0 (pv 3) zj)) jb))))
            (zu (qg (zQ qB (pv 2) zj (zI _))
              (zu (yc (WD PySem.F.plainAttrs_list PySem.F.slot_list_reverse PySem.F.type_list_reverse ZN (pv 4))))
              (zu (zA (jn (zZ (zk zT rfl B.isinstance boot_isinstance (ze (pv 1) (ze (zN (v := .ty "list") rfl B.list zM rfl) zg)))) (zW jk rfl B.tuple qt (ze (pv 1) zg)) (pv 4))))))))))))))
      (zu (zA (jn (zZ (zk zT rfl B.isinstance boot_isinstance (ze (pv 1) (ze (zN (v := .ty "list") rfl B.list zM rfl) zg)))) (pv 4) (zW jk rfl B.tuple qt (ze (pv 4) zg)))))))),?_⟩
    refine ⟨_,rfl,b,6,n,rfl,B0,by omega,by decide,by decide,fun way H1 w0 w1 B1 S1 => ⟨_,rfl,_,rfl,a,xs,rfl,(sq _ S1).or,_,_,rfl,rfl,b,_,n + 1,rfl,B1,by omega,by omega,by omega,fun q H2 q0 q1 B2 S2 => ⟨_,_,rfl,?_⟩⟩⟩
    have S2' := S1.trans S2
    obtain ⟨q,rfl⟩ : ∃ q' : Nat,q = (q' : Int) := ⟨q.toNat,by omega⟩
    refine ⟨_,rfl,a,xs,rfl,(sq _ S2').or,fun m hm => ?_⟩
    have E2 := E0.next S2' B2
    have mH : H m = none := S2'.none hm (B2.nne hm)
    have mb := B2.nne hm
    have mx := E2.out hm
    have S3 := S2'.new (o := .lst xs) hm
    have B3 := B2.new (o := .lst xs) hm
    have E3 := E2.same (zf (o := .lst xs) hm)
    have f3 : upd H2 m (.lst xs) m = some (.lst xs) := zi
    generalize upd H2 m (.lst xs) = H3 at S3 B3 E3 f3
    clear S1 S2 B1 B2 E2 hm
    refine ⟨QN b a way q H n ex K k' z D,?_,?_⟩
    · have mem : ∀ {lo hi : Option Int} {y : V},y ∈ qx xs lo hi -> y ∈ xs := fun h => Zl h
      refine ⟨_,rfl,rfl,_,rfl,qb (fun c0 => ?_) (fun c0 => ⟨_,rfl,rfl,_,rfl,qb (fun c1 => ?_) (fun c1 => ⟨_,rfl,rfl,_,rfl,qb (fun c2 => ?_) (fun c2 => ⟨_,rfl,rfl,_,rfl,qb (fun c3 => ?_) (fun c3 => ⟨_,rfl,rfl,_,rfl,qb (fun c4 => ?_) (fun c4 => ?_)⟩)⟩)⟩)⟩)⟩
      · refine ⟨_,rfl,_,rfl,_,rfl,m,xs,rfl,SqL.of f3,fun p1 h1 => ?_⟩
        refine ⟨_,rfl,_,rfl,_,_,rfl,rfl,_,rfl,m,xs,rfl,SqL.of ((zf h1) _ _ f3),fun p2 h2 => ?_⟩
        have l1 := XU xs q
        have l2 : (qx xs (some ((q : Int) + 1)) none).length <= xs.length - (q + 1) := XT xs (q + 1)
        refine ⟨p1,p2,_,_,rfl,rfl,(zf h2) _ _ zi,zi,by omega,fun p3 h3 => ?_⟩
        refine ⟨p3,_,rfl,((S3.new h1).new h2).new h3,(((B3.new h1).new h2).new h3).mono (by omega),((E3.same (zf h1)).same (zf h2)).out h3,zi,grow (((old _ (((S3.new h1).new h2).new h3)).cut _ _).app ((old _ (((S3.new h1).new h2).new h3)).cut _ _)) (by omega)⟩
      · refine ⟨_,rfl,_,rfl,_,rfl,m,xs,rfl,SqL.of f3,fun p1 h1 => ?_⟩
        refine ⟨_,rfl,_,rfl,_,rfl,_,rfl,_,_,rfl,rfl,_,rfl,m,xs,rfl,SqL.of ((zf h1) _ _ f3),fun p2 h2 => ?_⟩
        have l1 := XU xs q
        have l2 : (qx xs (some (q : Int)) (some ((q : Int) + 1))).length <= (q + 1) - q := (We xs q (q + 1)).1
        have l3 := XT xs q
        refine ⟨p1,p2,_,_,rfl,rfl,(zf h2) _ _ zi,zi,by omega,fun p3 h3 => ?_⟩
        refine ⟨_,rfl,_,rfl,_,rfl,m,xs,rfl,SqL.of ((((zf h1).trans (zf h2)).trans (zf h3)) _ _ f3),fun p4 h4 => ?_⟩
        refine ⟨p3,p4,_,_,rfl,rfl,(zf h4) _ _ zi,zi,by rw [List.length_append];omega,fun p5 h5 => ?_⟩
        refine ⟨p5,_,rfl,((((S3.new h1).new h2).new h3).new h4).new h5,(((((B3.new h1).new h2).new h3).new h4).new h5).mono (by omega),((((E3.same (zf h1)).same (zf h2)).same (zf h3)).same (zf h4)).out h5,zi,grow ((((old _ (((((S3.new h1).new h2).new h3).new h4).new h5)).cut _ _).app ((old _ (((((S3.new h1).new h2).new h3).new h4).new h5)).cut _ _)).app ((old _ (((((S3.new h1).new h2).new h3).new h4).new h5)).cut _ _)) (by omega)⟩
      · refine ⟨_,rfl,.inl ⟨rfl,_,SqL.of f3⟩,_,rfl,_,rfl,b,n + 1 + 1,m :: ex,rfl,B3,by omega,E3.cons f3,fun v H4 S4 B4 dv => ?_⟩
        have f4 := S4 m _ f3 mb
        refine ⟨m,xs,q,v,rfl,rfl,f4,q0,by rw [e62];omega,by omega,?_⟩
        have S5 := (S3.trans S4).put (o := .lst (xs.take (q : Int).toNat ++ v :: xs.drop (q : Int).toNat)) mH
        refine ⟨m,_,rfl,S5,(B4.other mb).mono (by omega),mx,zi,grow (((old _ S5).take _).app ((GL.one (dv.up ((WX.put List.mem_cons_self).trans WX.cons) (Nat.zero_le _) (Nat.le_refl 10) hD)).app ((old _ S5).drop _))) (by omega)⟩
      · refine ⟨_,rfl,_,rfl,_,rfl,m,xs,rfl,SqL.of f3,fun p1 h1 => ?_⟩
        refine ⟨_,rfl,_,rfl,_,rfl,_,rfl,_,_,rfl,rfl,_,rfl,m,xs,rfl,SqL.of ((zf h1) _ _ f3),fun p2 h2 => ?_⟩
        have l1 := XU xs q
        have l2 : (qx xs (some (q : Int)) (some ((q : Int) + 2))).length <= (q + 2) - q /\ (qx xs (some (q : Int)) (some ((q : Int) + 2))).length <= xs.length - q := We xs q (q + 2)
        have l3 : (qx xs (some ((q : Int) + 2)) none).length <= xs.length - (q + 2) := XT xs (q + 2)
        refine ⟨_,rfl,_,rfl,p2,_,rfl,(by decide),SqL.of zi,fun zs p3 zm zl h3 => ?_⟩
        refine ⟨p1,p3,_,_,rfl,rfl,((zf h2).trans (zf h3)) _ _ zi,zi,by omega,fun p4 h4 => ?_⟩
        refine ⟨_,rfl,_,rfl,_,_,rfl,rfl,_,rfl,m,xs,rfl,SqL.of (((((zf h1).trans (zf h2)).trans (zf h3)).trans (zf h4)) _ _ f3),fun p5 h5 => ?_⟩
        refine ⟨p4,p5,_,_,rfl,rfl,(zf h5) _ _ zi,zi,by rw [List.length_append];omega,fun p6 h6 => ?_⟩
        refine ⟨p6,_,rfl,(((((S3.new h1).new h2).new h3).new h4).new h5).new h6,((((((B3.new h1).new h2).new h3).new h4).new h5).new h6).mono (by omega),(((((E3.same (zf h1)).same (zf h2)).same (zf h3)).same (zf h4)).same (zf h5)).out h6,zi,grow ((((old _ ((((((S3.new h1).new h2).new h3).new h4).new h5).new h6)).cut _ _).app ((((old _ ((((((S3.new h1).new h2).new h3).new h4).new h5).new h6)).cut _ _).some zm).up (Same.refl _) (Nat.le_refl _) (show (z + 1) * zs.length <= 2 * z + 2 from Nat.le_trans (Nat.mul_le_mul (Nat.le_refl _) (show zs.length <= 2 by omega)) (by omega)) (Nat.le_refl _))).app ((old _ ((((((S3.new h1).new h2).new h3).new h4).new h5).new h6)).cut _ _)) (by omega)⟩
      · refine ⟨_,rfl,.inl ⟨rfl,_,SqL.of f3⟩,m,xs,rfl,rfl,f3,?_⟩
        have S4 := S3.put (o := .lst xs.reverse) mH
        exact ⟨m,_,rfl,S4,(B3.other mb).mono (by omega),mx,zi,grow (old _ S4).rev (by omega)⟩
      · refine ⟨_,rfl,_,tyQ t, "list",rfl,(sq _ S3).ty,(by decide),_,rfl,qb (fun d => ⟨_,rfl,a,xs,rfl,?_⟩) (fun d => ⟨_,rfl,?_⟩)⟩
        · cases t with
          | false => exact .inl ⟨sq _ S3,fun p hp => k _ _ (S3.new hp) ((B3.new hp).mono (by omega)) (GL.tup (SqT.of (WX.at (E3.out hp) zi)) (grow (old _ (S3.new hp)) (by omega)))⟩
          | true => exact .inr ⟨sq _ S3,k _ H3 S3 (B3.mono (by omega)) (GL.tup (hq.same (WX.draw E0.mem S3)) (grow (old _ S3) (by omega)))⟩
        · exact k _ H3 S3 (B3.mono (by omega)) (GL.lst (SqL.of (WX.at mx f3)) (grow (old _ S3) (by omega)))
    · rintro σ' H4 ⟨p,ys,rfl,S4,B4,px,f4,yd⟩
      refine ⟨_,rfl,_,tyQ t, "list",rfl,(sq _ S4).ty,(by decide),_,rfl,qb (fun d => ⟨_,rfl,?_⟩) (fun d => ⟨_,rfl,p,ys,rfl,.inl ⟨SqL.of f4,fun p' hp => ?_⟩⟩)⟩
      · exact k _ H4 S4 B4 (GL.lst (SqL.of (WX.at px f4)) yd)
      · have E4 := E0.next S4 B4
        exact k _ _ (S4.new hp) (B4.new hp) (GL.tup (SqT.of (WX.at (E4.out hp) zi)) (yd.up (WX.new hp) (Nat.le_refl _) (Nat.le_refl _) (Nat.le_refl _)))
end
section
variable {P : Program} {w : World} {K : PySem.W.Frag} {mg : Str -> Option Value} {base : Heap}
inductive wC (K : PySem.W.Frag) (vs : List V) (H : Hp) (Q : VK) : Prop
  | mk (b : Addr) (v : V) (n : Int) (k z D : Nat) (ex : List Addr) (_ : vs = [.ref b,v]) (_ : BoxAt H b n) (_ : n < 1099510900000) (_ : Ex H b ex) (_ : DS K (WX ex H) k z D v) (_ : z <= 50000) (_ : k <= 100) (_ : ∀ v' H',SameB b H H' -> BoxAt H' b (n + 4) -> DS K (WX ex H') (k + 1) (4 * z + 20) (D + 4) v' -> Q v' H') : wC K vs H Q
def vg (K : PySem.W.Frag) : Sp := fun vs H Q _ => wC K vs H Q
theorem Qh : zH ["_law_box_here", "_law_thing"] ["_law_box_here", "_law_thing"] (zo (zp 30)) := ⟨rfl,rfl,rfl,by decide +kernel,rfl,by decide +kernel,by decide +kernel⟩
theorem Xp {f : Addr} {fd : FuncData} (F : Fun K "_law_instead" "_law_instead" (zp 30) f fd) (B : Blt mg) (D_take : Dfn P w K mg base "_law_take" 1 ["_law_box_here", "_law_size"] je) (D_odd : Dfn P w K mg base "_law_odd" 2 ["_law_box_here"] (yJ K)) (D_other_row : Dfn P w K mg base "_law_other_row" 3 ["_law_box_here", "_law_thing"] (wW K)) (D_is_number : Dfn P w K mg base "_law_is_number" 1 ["_law_thing"] (xN K)) : FnOk P w K mg base CX0 4 f fd ["_law_box_here", "_law_thing"] (vg K) := by
  have nd := Qh.nd
  refine F.ok Qh (fun vs H Q E h => ?_) (fun cdv A outer s H vs Q E hr h => ?_)
  · obtain ⟨b,v,n,k,z,D,ex,rfl,_⟩ := h
    rfl
  · obtain ⟨b,v,n,k',z,D,ex,rfl,B0,hn,E0,dv,hz1,hk,k⟩ := h
    have hbig : 100000 < sizeLine := by rw [sizeLine_eq];decide
    refine ⟨_,(zn (qg (PW.pt (ya (zZ (zk jY rfl B.isinstance boot_isinstance (ze (pv 1) (ze (qp (ze (zN (v := .ty "list") rfl B.list zM rfl) (ze (zN (v := .ty "tuple") rfl B.tuple qt rfl) zg))) zg)))) (vh (zQ wE (zv D_take (hr.mono (by first | decide | exact Nat.le_refl _ | omega)) rfl (ze (pv 0) (ze zj zg))) zj (zI _)))))
      (zu (zA (zv D_other_row (hr.mono (by first | decide | exact Nat.le_refl _ | omega)) rfl (ze (pv 0) (ze (pv 1) zg)))))
      zU)
      (zn (qg (zZ (zv D_is_number (hr.mono (by first | decide | exact Nat.le_refl _ | omega)) rfl (ze (pv 1) zg)))
      (zu (zA (zJ zG (qF (pa6 (zE z0 (pv 1) zj) (zE jG (pv 1) zj) (zE jG zj (pv 1)) (qh qB (pv 1) zj (zI _)) (zW yt rfl B.str xx (ze (pv 1) zg)) (zv D_odd (hr.mono (by first | decide | exact Nat.le_refl _ | omega)) rfl (ze (pv 0) zg)))) (zv D_take (hr.mono (by first | decide | exact Nat.le_refl _ | omega)) rfl (ze (pv 0) (ze zj zg))) (fun _ _ => rfl))))
      zU)
      (zu (zA (zv D_odd (hr.mono (by first | decide | exact Nat.le_refl _ | omega)) rfl (ze (pv 0) zg)))))),?_⟩
    have odd : ∀ H1 (m : Int),SameB b H H1 -> BoxAt H1 b m -> m <= n + 1 -> yJ K [.ref b] H1 Q E := fun H1 m S1 B1 hm1 =>
      ⟨b,m,ex,rfl,B1,by omega,E0.next S1 B1,fun v' H' S' B' dv' => k v' H' (S1.trans S') (B'.mono (by omega)) (dv'.up (Same.refl _) (Nat.zero_le _) (by omega) (by omega))⟩
    have S0 := SameB.refl b H
    rcases dv.split2 with rfl | ⟨c,rfl⟩ | ⟨i,rfl,h⟩ | ⟨x,rfl⟩ | ⟨a,t,xs,ds,rfl,hq,rs,gs,bs,psd⟩
    · refine ⟨_,rfl,qL,fun p hp => ⟨_, "NoneType",p,["list", "tuple"],rfl,rfl,zi,(by decide),_,rfl,ifF (by decide) (ifF rfl ?_)⟩⟩
      exact ⟨_,rfl,_,.non,rfl,rfl,_,rfl,ifF rfl ⟨_,rfl,odd _ n (S0.new hp) (B0.new hp) (by omega)⟩⟩
    · refine ⟨_,rfl,qL,fun p hp => ⟨_, "bool",p,["list", "tuple"],rfl,rfl,zi,(by decide),_,rfl,ifF (by decide) (ifF rfl ?_)⟩⟩
      exact ⟨_,rfl,_,.bl c,rfl,rfl,_,rfl,ifF rfl ⟨_,rfl,odd _ n (S0.new hp) (B0.new hp) (by omega)⟩⟩
    · refine ⟨_,rfl,qL,fun p hp => ⟨_, "int",p,["list", "tuple"],rfl,rfl,zi,(by decide),_,rfl,ifF (by decide) (ifF rfl ?_)⟩⟩
      refine ⟨_,rfl,_,.int i,rfl,rfl,_,rfl,ifT rfl ?_⟩
      have hs : i.natAbs < 1000000000000 := by omega
      refine ⟨_,rfl,_,_,rfl,rfl,_,rfl,_,_,rfl,rfl,_,rfl,_,_,rfl,rfl,_,rfl,rfl,_,rfl,i,rfl,yh hs,?_⟩
      refine ⟨_,rfl,b,n,ex,rfl,B0.new hp,by omega,E0.same (zf hp),fun v' H1 S1 B1 dv1 => ⟨leN (by show 6 <= 1000;decide),fun l hl => ?_⟩⟩
      refine ⟨_,rfl,b,6,_,rfl,B1.new hl,by omega,by decide,by decide,fun r H2 r0 r1 B2 S2 => ?_⟩
      have nl := B1.nne hl
      have gl := S2 l _ zi nl
      have S3 := (((S0.new (o := .tup [V.ty "list",V.ty "tuple"]) hp).trans S1).new (o := .lst [.int (i + 1),.int (i - 1),.int (0 - i),.bl (decide (V.int i = V.int 1)),.str (toString i),v']) hl).trans S2
      have w2 := (WX.new (ex := ex) (H := H1) (o := .lst [.int (i + 1),.int (i - 1),.int (0 - i),.bl (decide (V.int i = V.int 1)),.str (toString i),v']) hl).trans (WX.draw E0.mem S2)
      obtain ⟨u,eu,du⟩ := Wa (α := fun x => DS K (WX ex H2) (k' + 1) (4 * z + 20) (D + 4) x) gl r0 r1 (fm (DS.int (by omega)) (fm (DS.int (by omega)) (fm (DS.int (by omega)) (fm (DS.bl _) (fm (DS.istr hs (by omega)) (fm (dv1.up w2 (Nat.zero_le _) (by omega) (by omega)) fm0))))))
      exact ⟨l,_,_,u,rfl,rfl,SqL.of gl,eu,k u H2 S3 (B2.mono (by omega)) du⟩
    · refine ⟨_,rfl,qL,fun p hp => ⟨_, "str",p,["list", "tuple"],rfl,rfl,zi,(by decide),_,rfl,ifF (by decide) (ifF rfl ?_)⟩⟩
      exact ⟨_,rfl,_,.str x,rfl,rfl,_,rfl,ifF rfl ⟨_,rfl,odd _ n (S0.new hp) (B0.new hp) (by omega)⟩⟩
    · have sq : ∀ H',SameB b H H' -> SqQ K H' t a xs := fun H' s => hq.same ((WX.draw E0.mem s).trans WX.le)
      obtain ⟨lx,al⟩ := xL (z := z) (D := D) rs gs bs (by omega)
      have ny : (["list", "tuple"].any fun C => qy (tyQ t) C) = true := by cases t <;> decide
      refine ⟨_,rfl,qL,fun p hp => ⟨_,tyQ t,p,["list", "tuple"],rfl,(sq _ (S0.new hp)).ty,zi,(by decide),_,rfl,ifT ny ?_⟩⟩
      have S1 := S0.new (o := .tup [V.ty "list",V.ty "tuple"]) hp
      have B1 := B0.new (o := .tup [V.ty "list",V.ty "tuple"]) hp
      generalize upd H p (.tup [V.ty "list",V.ty "tuple"]) = H1 at S1 B1
      refine ⟨_,rfl,b,8,n,rfl,B1,by omega,by decide,by decide,fun r H2 r0 r1 B2 S2 => ⟨_,_,rfl,rfl,_,rfl,qb (fun c => ?_) (fun c => ?_)⟩⟩
      · have S2' := S1.trans S2
        refine ⟨_,rfl,_,rfl,b,a,t,xs,n + 1,k',z,D + 3,ex,rfl,B2,by omega,E0.next S2' B2,hq.same (WX.draw E0.mem S2'),⟨ds,rs.same (WX.draw E0.mem S2'),gs,bs,by omega⟩,hz1,by omega,fun v' H' S' B' dv' => k v' H' (S2'.trans S') (B'.mono (by omega)) (dv'.up (Same.refl _) (by omega) (Nat.le_refl _) (by omega))⟩
      · have S2' := S1.trans S2
        obtain ⟨d0,rd0,_⟩ := dv.up ((WX.draw E0.mem S2').trans WX.le) (Nat.le_refl _) (Nat.le_refl _) (Nat.le_refl _)
        refine ⟨_,rfl,_,d0,rfl,rd0,_,rfl,ifF (yR rd0) ⟨_,rfl,odd _ _ S2' B2 (by omega)⟩⟩
def jE (K : PySem.W.Frag) : Nat -> Sp
  | 0 => fun _ _ _ _ => False
  | j + 1 => fun vs H Q _ => ∃ (b : Addr) (v : V) (n : Int) (k z D : Nat) (ex : List Addr),vs = [.ref b,v] /\ BoxAt H b n /\ n + 10 * (j + 1) < 1099510000000 /\ Ex H b ex /\ DS K (WX ex H) k z D v /\ z <= 50000 /\ k <= 100 /\ D <= j /\ j <= 20 /\
    ∀ v' H',SameB b H H' -> BoxAt H' b (n + 8 * (j + 1)) -> DS K (WX ex H') (k + 1) ((4 * z + 20) + (j + 1) * (z + 2)) (D + 4) v' -> Q v' H'
theorem yP : zH ["_law_box_here", "_law_thing", "_law_at", "_law_some"] ["_law_box_here", "_law_thing"] (zo (zp 31)) := ⟨rfl,rfl,rfl,by decide +kernel,rfl,by decide +kernel,by decide +kernel⟩
def QM (b : _) (a : _) (H : _) (n : _) (xs : List V) := fun (σ' : St) (H' : Hp) => (Ex1 fun (q : Int) => An5 (σ' = [some (.ref b),some (.ref a),some (.int q),none]) (SameB b H H') (BoxAt H' b (n + 3)) (0 <= q) (q < xs.length) : Prop)
theorem wF {f : Addr} {fd : FuncData} (F : Fun K "_law_spoilt" "_law_spoilt" (zp 31) f fd) (B : Blt mg) (hm : mg "_law_spoilt" = some (.ref f)) (hb : Binds K fd ["_law_box_here", "_law_thing"] [])
    (D_take : Dfn P w K mg base "_law_take" 1 ["_law_box_here", "_law_size"] je) (D_instead : Dfn P w K mg base "_law_instead" 4 ["_law_box_here", "_law_thing"] (vg K)) :
    ∀ j : Nat,FnOk P w K mg base CX0 (j + 5) f fd ["_law_box_here", "_law_thing"] (jE K j)
  | 0 => ⟨fun _ _ _ _ h => h.elim,fun _ _ _ _ _ _ _ _ _ _ _ _ _ h => h.elim⟩
  | j + 1 => by
    have D_spoilt : Dfn P w K mg base "_law_spoilt" (j + 5) ["_law_box_here", "_law_thing"] (jE K j) := ⟨f,fd,wF F B hm hb D_take D_instead j,hm,F.kp,hb⟩
    have nd := yP.nd
    refine F.ok yP (fun vs H Q E h => ?_) (fun cdv A outer s H vs Q E hr h => ?_)
    · obtain ⟨b,v,n,k,z,D,ex,rfl,_⟩ := h
      rfl
    · obtain ⟨b,v,n,k',z,D,ex,rfl,B0,hn,E0,dv,hz1,hk,hD,hj,k⟩ := h
      have hbig : 100000 < sizeLine := by rw [sizeLine_eq];decide
      refine ⟨_,(zn (qg (PW.pt (jz (qv (zZ (zk jY rfl B.isinstance boot_isinstance (ze (pv 1) (ze (qp (ze (zN (v := .ty "list") rfl B.list zM rfl) (ze (zN (v := .ty "tuple") rfl B.tuple qt rfl) zg))) zg))))) (jz (zQ qB (zk zx rfl B.len boot_len (ze (pv 1) zg)) zj (zI _)) (qW (zQ qB (zv D_take (hr.mono (by first | decide | exact Nat.le_refl _ | omega)) rfl (ze (pv 0) (ze zj zg))) zj (zI _))))))
      (zu (zA (zv D_instead (hr.mono (by first | decide | exact Nat.le_refl _ | omega)) rfl (ze (pv 0) (ze (pv 1) zg)))))
      zU)
      (zn (yb (zL (i := 2) nd rfl (Or.inl rfl) (jn (zQ qB (zv D_take (hr.mono (by first | decide | exact Nat.le_refl _ | omega)) rfl (ze (pv 0) (ze zj zg))) zj (zI _)) (zE jG (zk zx rfl B.len boot_len (ze (pv 1) zg)) zj) (zv D_take (hr.mono (by first | decide | exact Nat.le_refl _ | omega)) rfl (ze (pv 0) (ze (zk zx rfl B.len boot_len (ze (pv 1) zg)) zg))))))
      (zn (zL (i := 3) nd rfl (Or.inl rfl) (zW qr rfl B.list zM (ze (pv 1) zg)))
      (zn (qX (zv D_spoilt (hr.mono (by first | decide | exact Nat.le_refl _ | omega)) rfl (ze (pv 0) (ze (zJ WY (pv 1) (pv 2) (fun _ _ => rfl)) zg))) (jr (pv 3) (pv 2) qI))
      (zu (zA (jn (zZ (zk zT rfl B.isinstance boot_isinstance (ze (pv 1) (ze (zN (v := .ty "list") rfl B.list zM rfl) zg)))) (pv 3) (zW jk rfl B.tuple qt (ze (pv 3) zg))))))))),?_⟩
      have S0 := SameB.refl b H
      have inst : ∀ H1 (m : Int),SameB b H H1 -> BoxAt H1 b m -> m <= n + 1 -> vg K [.ref b,v] H1 Q E := fun H1 m S1 B1 hm1 =>
        ⟨b,v,m,k',z,D,ex,rfl,B1,by omega,E0.next S1 B1,dv.up (WX.draw E0.mem S1) (Nat.le_refl _) (Nat.le_refl _) (Nat.le_refl _),hz1,hk,fun v' H' S' B' dv' => k v' H' (S1.trans S') (B'.mono (by omega)) (dv'.up (Same.refl _) (Nat.le_refl _) (Nat.le_add_right _ _) (Nat.le_refl _))⟩
      rcases dv.split2 with rfl | ⟨c,rfl⟩ | ⟨i,rfl,h⟩ | ⟨x,rfl⟩ | ⟨a,t,xs,ds,rfl,hq,rs,gs,bs,psd⟩
      · exact ⟨_,rfl,qL,fun p hp => ⟨_, "NoneType",p,["list", "tuple"],rfl,rfl,zi,(by decide),_,rfl,ifT (by decide) (ifT rfl ⟨_,rfl,_,rfl,inst _ n (S0.new hp) (B0.new hp) (by omega)⟩)⟩⟩
      · exact ⟨_,rfl,qL,fun p hp => ⟨_, "bool",p,["list", "tuple"],rfl,rfl,zi,(by decide),_,rfl,ifT (by decide) (ifT rfl ⟨_,rfl,_,rfl,inst _ n (S0.new hp) (B0.new hp) (by omega)⟩)⟩⟩
      · exact ⟨_,rfl,qL,fun p hp => ⟨_, "int",p,["list", "tuple"],rfl,rfl,zi,(by decide),_,rfl,ifT (by decide) (ifT rfl ⟨_,rfl,_,rfl,inst _ n (S0.new hp) (B0.new hp) (by omega)⟩)⟩⟩
      · exact ⟨_,rfl,qL,fun p hp => ⟨_, "str",p,["list", "tuple"],rfl,rfl,zi,(by decide),_,rfl,ifT (by decide) (ifT rfl ⟨_,rfl,_,rfl,inst _ n (S0.new hp) (B0.new hp) (by omega)⟩)⟩⟩
      have sq : ∀ H',SameB b H H' -> SqQ K H' t a xs := fun H' s => hq.same ((WX.draw E0.mem s).trans WX.le)
      obtain ⟨lx,al⟩ := xL (z := z) (D := D - 1) rs gs bs (by omega)
      have ny : (!(["list", "tuple"].any fun C => qy (tyQ t) C)) = false := by cases t <;> decide
      refine ⟨_,rfl,qL,fun p hp => ⟨_,tyQ t,p,["list", "tuple"],rfl,(sq _ (S0.new hp)).ty,zi,(by decide),_,rfl,ifF ny ?_⟩⟩
      have S1 := S0.new (o := .tup [V.ty "list",V.ty "tuple"]) hp
      have B1 := B0.new (o := .tup [V.ty "list",V.ty "tuple"]) hp
      generalize upd H p (.tup [V.ty "list",V.ty "tuple"]) = H1 at S1 B1
      refine ⟨_,rfl,a,xs,rfl,(sq _ S1).or,rfl,_,rfl,qb (fun c2 => ifT rfl ⟨_,rfl,_,rfl,inst H1 n S1 B1 (by omega)⟩) (fun c2 => ⟨_,rfl,b,4,n,rfl,B1,by omega,by decide,by decide,fun r H2 r0 r1 B2 S2 => ⟨rfl,_,rfl,qb (fun c3 => ⟨_,rfl,_,rfl,inst H2 _ (S1.trans S2) B2 (by omega)⟩) (fun c3 => ?_)⟩⟩)⟩
      have S2' := S1.trans S2
      have x0 : xs.length ≠ 0 := fun z => c2 (by rw [z];exact decide_eq_true rfl)
      clear S1 S2 B1
      refine ⟨QM b a H n xs,?_,?_⟩
      · refine ⟨_,rfl,b,3,n + 1,rfl,B2,by omega,by decide,by decide,fun r2 H3 r20 r21 B3 S3 => ⟨rfl,_,rfl,qb (fun e => ?_) (fun e => ?_)⟩⟩
        · exact ⟨_,rfl,a,xs,rfl,(sq _ (S2'.trans S3)).or,_,_,rfl,rfl,_,rfl,S2'.trans S3,B3.mono (by omega),by omega,by omega⟩
        · exact ⟨_,rfl,_,rfl,a,xs,rfl,(sq _ (S2'.trans S3)).or,b,_,n + 1 + 1,rfl,B3,by omega,by omega,by omega,fun q H4 q0 q1 B4 S4 => ⟨q,rfl,(S2'.trans S3).trans S4,B4.mono (by omega),q0,q1⟩⟩
      rintro σ' H3 ⟨q,rfl,S3,B3,q0,q1⟩
      clear S2' B2
      refine ⟨_,rfl,a,xs,rfl,(sq _ S3).or,fun m hm => ?_⟩
      have E3 := E0.next S3 B3
      have mH : H m = none := S3.none hm (B3.nne hm)
      have mb := B3.nne hm
      have mx := E3.out hm
      have S4 := S3.new (o := .lst xs) hm
      have B4 := B3.new (o := .lst xs) hm
      have E4 := E3.same (zf (o := .lst xs) hm)
      have w4 := (WX.draw E0.mem S3).trans (WX.fresh hm (.lst xs))
      have f4 : upd H3 m (.lst xs) m = some (.lst xs) := zi
      generalize upd H3 m (.lst xs) = H4 at S4 B4 E4 f4 w4
      obtain ⟨x,ex1,ex2⟩ := X1 (xs := xs) q0 q1
      have dx := (al x (List.mem_of_getElem? ex2)).up w4 (Nat.le_refl _) (by omega : z - 1 <= z) (Nat.le_refl _)
      obtain ⟨j',rfl⟩ : ∃ j',j = j' + 1 := ⟨j - 1,by omega⟩
      have ty := fun H' s => (sq H' s).ty
      have D1 : 1 <= D := by omega
      cases t
      all_goals
        refine ⟨_,rfl,_,rfl,_,rfl,?_⟩
        first
          | refine .inl ⟨a,xs,_,x,rfl,rfl,sq _ S4,ex1,?_⟩
          | refine .inr (.inl ⟨a,xs,_,x,rfl,rfl,sq _ S4,ex1,?_⟩)
        refine ⟨b,x,n + 3,k',z,D - 1,m :: ex,rfl,B4,by omega,E4.cons f4,dx,hz1,hk,by omega,by omega,fun v' H5 S5 B5 dv5 => ?_⟩
        have f5 := S5 m _ f4 mb
        refine ⟨_,rfl,_,rfl,m,xs,q,q.toNat,rfl,rfl,f5,ZR q0 q1,?_⟩
        have S6 := (S4.trans S5).put (o := .lst (xs.set q.toNat v')) mH
        have B6 := B5.other (o := .lst (xs.set q.toNat v')) mb
        have f6 : upd H5 m (.lst (xs.set q.toNat v')) m = some (.lst (xs.set q.toNat v')) := zi
        have dv6 := dv5.up ((WX.put (H := H5) (o := .lst (xs.set q.toNat v')) List.mem_cons_self).trans WX.cons) (Nat.le_refl _) (Nat.le_refl _) (Nat.le_refl _)
        generalize upd H5 m (.lst (xs.set q.toNat v')) = H6 at S6 B6 f6 dv6
        have E6 := E0.next S6 B6
        obtain ⟨d',rd,gd⟩ := dv6
        have rs6 := Reps.set (i := q.toNat) (rs.same (WX.draw E0.mem S6)) rd
        have g6 := Qy (i := q.toNat) (d := d') (Dat.gds_up (by omega : k' <= k' + 1) gs) gd.g
        have b6 := Zw (ds := ds) (i := q.toNat) (d := d')
        have p6 := Zj (ds := ds) (i := q.toNat) (d := d')
        have gb := gd.b
        have gp := gd.p
        have em : (j' + 1 + 1) * (z + 2) = (j' + 1) * (z + 2) + (z + 2) := Nat.succ_mul _ _
        have hb6 : Dat.blks (ds.set q.toNat d') <= (4 * z + 20) + (j' + 1 + 1) * (z + 2) := by
          rw [em]
          omega
        have hp6 : PyData.depthAll (Dat.pys (ds.set q.toNat d')) + 1 <= D + 4 := by omega
        refine ⟨_,rfl,_,_, "list",rfl,ty _ S6,(by decide),_,rfl,qb (fun e => ⟨_,rfl,?_⟩) (fun e => ⟨_,rfl,m,_,rfl,.inl ⟨SqL.of f6,fun p' hp' => ?_⟩⟩)⟩
        · exact k _ H6 S6 (B6.mono (by omega)) ⟨.lst (ds.set q.toNat d'),⟨m,_,rfl,SqL.of (WX.at mx f6),rs6⟩,g6,hb6,hp6⟩
        · exact k _ _ (S6.new hp') ((B6.new hp').mono (by omega)) ⟨.tup (ds.set q.toNat d'),⟨p',_,rfl,SqT.of (WX.at (E6.out hp') zi),rs6.same (WX.new hp')⟩,g6,hb6,hp6⟩
end
end L2
set_option Elab.async false
set_option linter.all false
set_option maxRecDepth 100000
set_option maxHeartbeats 4000000
namespace L2
open PySem PySem.Spec PyProof.Rows
theorem Zz {ds : List Dat} (h : ds.all z9 = true) (m : Nat) : (ds.map fun d => decide (0 <= iD d) && decide (iD d < (m : Int))).all id = ds.all (zY 0 ((m : Int) - 1)) := by
  rw [List.all_map]
  induction ds with
  | nil => rfl
  | cons d ds ih =>
    rw [List.all_cons,Bool.and_eq_true] at h
    rw [List.all_cons,List.all_cons,ih h.2]
    congr 1
    cases d with
    | int i =>
      show (decide ((0 : Int) <= i) && decide (i < (m : Int))) = (decide ((0 : Int) <= i) && decide (i <= (m : Int) - 1))
      congr 1
      exact decide_eq_decide.mpr ⟨fun h => by omega,fun h => by omega⟩
    | _ => cases h.1
section
variable {P : Program} {w : World} {K : PySem.W.Frag} {mg : Str -> Option Value} {base : Heap}
inductive yI (K : PySem.W.Frag) (vs : List V) (H : Hp) (Q : VK) : Prop
  | mk (b a : Addr) (n : Int) (xs : List V) (_ : vs = [.ref b,.ref a]) (_ : BoxAt H b n) (_ : n < 1000000) (_ : a ≠ b) (_ : H a = some (.lst xs)) (_ : xs.length <= 1000) (_ : ∀ (l : Addr) (ys : List V) H',SameB b H H' -> BoxAt H' b (n + xs.length) -> l ≠ b -> H l = none -> H' l = some (.lst ys) -> ys.Perm xs -> Q (.ref l) H') : yI K vs H Q
def ZF (K : PySem.W.Frag) : Sp := fun vs H Q _ => yI K vs H Q
theorem JY : zH ["_law_box_here", "_law_some", "_law_found", "_law_one"] ["_law_box_here", "_law_some"] (zo (zp 23)) := ⟨rfl,rfl,rfl,by decide +kernel,rfl,by decide +kernel,by decide +kernel⟩
def QL (b : _) (a : _) (l : _) (H : _) (n : _) (xs : List V) := fun (i : Nat) (σ : St) (H4 : Hp) => (Ex2 fun (ys : List V) (v3 : Option V) => An6 (σ = [some (.ref b),some (.ref a),some (.ref l),v3]) (SameB b H H4) (BoxAt H4 b (n + i)) (H4 a = some (.lst xs)) (H4 l = some (.lst ys)) (ys.Perm (xs.take i)) : Prop)
theorem Vs {f : Addr} {fd : FuncData} (F : Fun K "_law_shuffled" "_law_shuffled" (zp 23) f fd) (B : Blt mg) (D_take : Dfn P w K mg base "_law_take" 1 ["_law_box_here", "_law_size"] je) : FnOk P w K mg base CX0 2 f fd ["_law_box_here", "_law_some"] (ZF K) := by
  have nd := JY.nd
  refine F.ok JY (fun vs H Q E h => ?_) (fun cdv A outer s H vs Q E hr h => ?_)
  · obtain ⟨b,a,n,xs,rfl,_⟩ := h
    rfl
  · obtain ⟨b,a,n,xs,rfl,B0,hn,nab,ha,hxl,k⟩ := h
    have hbig : 100000 < sizeLine := by rw [sizeLine_eq];decide
    have e62 : (2 : Int) ^ 62 = 4611686018427387904 := by decide
    refine ⟨_,(zn (zL (i := 2) nd rfl (Or.inl rfl) (qF zg))
      (zn (jg PassesOwn.never rfl (qT (pv 1)) (zV (i := 3) nd rfl (Or.inl rfl))
      (zu (yc (Wc PySem.F.plainAttrs_list PySem.F.slot_list_insert PySem.F.type_list_insert wH (pv 2) (ze (zv D_take (hr.mono (by first | decide | exact Nat.le_refl _ | omega)) rfl (ze (pv 0) (ze (zE z0 (zk zx rfl B.len boot_len (ze (pv 2) zg)) zj) zg))) (ze (pv 3) zg))))))
      (zu (zA (pv 2))))),?_⟩
    refine ⟨le0,fun l hl => ?_⟩
    have nl := B0.nne hl
    have nal : a ≠ l := zr ha hl
    refine ⟨_,rfl,a,rfl,⟨_,SqL.of ((zf hl) _ _ ha)⟩,XL (K := K) (a := a) (xs := xs) (QL b a l H n xs)
      ⟨[],_,rfl,(SameB.refl b H).new hl,(B0.new hl).mono (by omega),(zf hl) _ _ ha,zi,.nil⟩ (fun i σ H4 _ ⟨_,_,_,_,_,h,_,_⟩ => SqL.of h) ?_ ?_⟩
    · rintro i x σ H4 hx ⟨ys,v3,rfl,S4,B4,A4,L4,pm⟩
      have hi := (List.getElem?_eq_some_iff.mp hx).1
      have yl : ys.length = i := by rw [pm.length_eq,List.length_take];omega
      refine ⟨_,rfl,.inl ⟨rfl,_,SqL.of L4⟩,_,rfl,_,rfl,l,_,rfl,.inl (SqL.of L4),_,_,rfl,rfl,b,_,_,rfl,B4,by omega,by omega,by omega,fun q H5 q0 q1 B5 S5 => ⟨_,rfl,?_⟩⟩
      refine ⟨l,ys,q,x,rfl,rfl,S5 l _ L4 nl,q0,by rw [e62];omega,by omega,?_⟩
      refine ⟨_,_,rfl,(S4.trans S5).put hl,(B5.other nl).mono (by omega),by rw [zw nal];exact S5 a _ A4 nab,zi,?_⟩
      have e1 : xs.take (i + 1) = xs.take i ++ [x] := by
        obtain ⟨h1,h2⟩ := List.getElem?_eq_some_iff.mp hx
        rw [<- h2,List.take_append_getElem]
      rw [e1]
      refine List.perm_middle.trans ?_
      rw [List.take_append_drop]
      exact ((List.Perm.cons x pm).trans (List.perm_append_singleton x _).symm)
    · rintro σ H4 ⟨ys,v3,rfl,S4,B4,A4,L4,pm⟩
      rw [List.take_length] at pm
      exact ⟨_,rfl,k l ys H4 S4 B4 nl hl L4 pm⟩
theorem V3 : zH ["_law_costs_here", "_law_columns_here", "_law_thing"] ["_law_costs_here", "_law_columns_here", "_law_thing"] (zo (zp 32)) := ⟨rfl,rfl,rfl,by decide +kernel,rfl,by decide +kernel,by decide +kernel⟩
theorem WN {f : Addr} {fd : FuncData} (F : Fun K "_law_is_matched" "_law_is_matched" (zp 32) f fd) (B : Blt mg) (D_are_numbers : Dfn P w K mg base "_law_are_numbers" 2 ["_law_thing", "_law_many"] (j7 K)) (D_is_paper : Dfn P w K mg base "_law_is_paper" 3 ["_law_costs_here", "_law_thing"] (wz K)) : FnOk P w K mg base CX0 4 f fd ["_law_costs_here", "_law_columns_here", "_law_thing"] (wA K) := by
  have nd := V3.nd
  refine F.ok V3 (fun vs H Q E h => ?_) (fun cdv A outer s H vs Q E hr h => ?_)
  · obtain ⟨a,c,n,m,v1,v2,d,e,rfl,_⟩ := h
    rfl
  · obtain ⟨a,c,n,m,v1,v2,d,e,rfl,cs,h0,hn,hm,hc,rd,re,hb1,hb2,hw,k⟩ := h
    have sz : sizeLine = 16777216 := sizeLine_eq
    refine ⟨_,(zn (qg (PW.pt (jz (qv (zZ (zv D_are_numbers (hr.mono (by first | decide | exact Nat.le_refl _ | omega)) rfl (ze (pv 1) (ze (zk zx rfl B.len boot_len (ze (pv 0) zg)) zg))))) (qW (qv (zZ (zv D_is_paper (hr.mono (by first | decide | exact Nat.le_refl _ | omega)) rfl (ze (pv 0) (ze (pv 2) zg))))))))
      (zu (zA qJ))
      zU)
      (zn (qg (PW.pt (jz (qv (zZ (zk (qD rfl) rfl B.all boot_all (ze (jv ["_law_costs_here"] [0] rfl rfl (by kernel_rfl) (qT (pv 1)) (fun C0 s0 H0 ex0 => qk) (fun C0 s0 H0 ex0 => (yT wD Xn zj (pv 0) (zk (wt (K := K) rfl) rfl B.len boot_len (ze (zJ (qK (K := K) rfl) (pv 1) zj (fun _ _ => rfl)) zg))))) zg)))) (qW (zQ yW (zk wN rfl B.len boot_len (ze (zW (wM hr.hd) rfl B.set Zs (ze (pv 1) zg)) zg)) (zk zx rfl B.len boot_len (ze (pv 1) zg)) (zI _)))))
      (zu (zA qJ))
      zU)
      (zu (zA (qh qB (zE z0 (zk (jp rfl) rfl B.sum boot_sum (ze (zJ qO (pv 2) zj (fun _ _ => rfl)) zg)) (zk (jp rfl) rfl B.sum boot_sum (ze (zJ qO (pv 2) zj (fun _ _ => rfl)) zg))) (zk (jp rfl) rfl B.sum boot_sum (ze (ju [] [] rfl rfl (by kernel_rfl) (ye rfl B.zip (ze (pv 0) (ze (pv 1) zg))) (fun C0 s0 H0 ex0 => qk) (fun C0 s0 H0 ex0 => (zJ (qK (K := K) rfl) (pv 0) (pv 1) (fun _ _ => rfl)))) zg)) (zI _)))))),?_⟩
    obtain ⟨zc,hz1,hz2,hz3⟩ := id cs
    have fin : ∀ H',Same H H' -> wq c n m d e = false -> Q (.bl false) H' := fun H' s' z => by
      have := k H' s'
      rw [z] at this
      exact this
    refine ⟨_,rfl,_,rfl,a,zc,rfl,.inl (SqL.of hz1),v1,d,n,by rw [hz2];rfl,rd,hb1,fun H1 s1 => ⟨_,rfl,qb (fun c1 => ifT rfl (fin _ s1 (jT ?_))) (fun c1 => ?_)⟩⟩
    · have c1 : z6 n d = false := by simpa using c1
      cases z : jA n m d with
      | false => rfl
      | true => rw [(yp z).1] at c1;cases c1
    have c1 : z6 n d = true := by simpa using c1
    refine ⟨_,rfl,_,rfl,a,c,n,m,v2,e,rfl,cs.same s1,h0,hn,hm,re.same s1,hb2,fun H2 s2 => ⟨_,rfl,qb (fun c2 => fin _ (s1.trans s2) (y8 (by simpa using c2))) (fun c2 => ?_)⟩⟩
    have s2 := s1.trans s2
    have c2 : xn c n m e = true := by simpa using c2
    obtain ⟨ds,rfl⟩ : ∃ ds,d = .lst ds := by cases d <;> first | exact ⟨_,rfl⟩ | cases c1
    obtain ⟨z1,an⟩ := (Bool.and_eq_true _ _).mp (show (decide (ds.length = n) && ds.all z9) = true from c1)
    have ln : ds.length = n := of_decide_eq_true z1
    obtain ⟨l,xs,rfl,hq,rx⟩ := rd
    rw [xG an] at rx
    have ex : xs = (ds.map iD).map V.int := jR rx
    subst ex
    have lx : ((ds.map iD).map V.int).length = n := by rw [List.length_map,List.length_map];exact ln
    refine ⟨_,rfl,l,rfl,⟨_,s2.seq hq⟩,jd (K := K) (a := l) (xs := (ds.map iD).map V.int) (fun i zs H3 => zs = ((ds.take i).map fun d => decide (0 <= iD d) && decide (iD d < (m : Int))).map V.bl /\ Same H H3) ⟨rfl,s2⟩ (fun i zs H3 ⟨_,s3⟩ => s3.seq hq) ?_ ?_⟩
    · rintro i x zs H3 hx ⟨rfl,s3⟩
      have hi : i < n := by have := (List.getElem?_eq_some_iff.mp hx).1;omega
      obtain ⟨A1,a1,a2⟩ := hz3 0 (by omega)
      have ed : ds[i]? = some ds[i] := List.getElem?_eq_getElem (by omega)
      rw [List.getElem?_map,List.getElem?_map,ed] at hx
      cases hx
      have lm : ((List.range m).map fun j => V.int (c 0 j)).length = m := by rw [List.length_map,List.length_range]
      have tk : (List.map (fun d => decide (0 <= iD d) && decide (iD d < (m : Int))) (ds.take (i + 1))).map V.bl = (List.map (fun d => decide (0 <= iD d) && decide (iD d < (m : Int))) (ds.take i)).map V.bl ++ [V.bl (decide (0 <= iD ds[i]) && decide (iD ds[i] < (m : Int)))] := by
        rw [jO ed,List.map_append,List.map_append];rfl
      have tl : ((List.map (fun d => decide (0 <= iD d) && decide (iD d < (m : Int))) (ds.take i)).map V.bl).length < sizeLine := by rw [List.length_map,List.length_map,List.length_take];omega
      refine ⟨rfl,_,rfl,_,_,rfl,rfl,_,rfl,qb (fun c3 => ?_) (fun c3 => ?_)⟩
      · refine ⟨_,rfl,a,_,_,.ref A1,rfl,rfl,SqL.of (s3 _ _ hz1),zR (j := 0) a1,A1,_,rfl,.inl (SqL.of (s3 _ _ a2)),_,_,rfl,rfl,tl,?_,s3⟩
        rw [tk,lm,show decide ((0 : Int) <= iD ds[i]) = true from c3];rfl
      · refine ⟨tl,?_,s3⟩
        rw [tk,show decide ((0 : Int) <= iD ds[i]) = false from (Bool.not_eq_true _).mp c3];rfl
    rintro zs H3 ⟨rfl,s3⟩
    rw [lx,<- ln,List.take_length]
    refine ⟨by rw [List.length_map,List.length_map];omega,fun D1 hD1 => ⟨D1,_,rfl,SqL.of zi,_,rfl,?_⟩⟩
    have s4 := s3.trans (zf (o := .lst ((ds.map fun d => decide (0 <= iD d) && decide (iD d < (m : Int))).map V.bl)) hD1)
    generalize upd H3 D1 (.lst ((ds.map fun d => decide (0 <= iD d) && decide (iD d < (m : Int))).map V.bl)) = H4 at s4
    rw [Zz an]
    refine qb (fun c3 => ifT rfl (fin _ s4 (jT ?_))) (fun c3 => ?_)
    · show (decide (ds.length = n) && (ds.all (zY 0 ((m : Int) - 1)) && _)) = false
      rw [show ds.all (zY 0 ((m : Int) - 1)) = false by simpa using c3,Bool.false_and,Bool.and_false]
    have c3 : ds.all (zY 0 ((m : Int) - 1)) = true := by simpa using c3
    have ex2 : (ds.map iD).map V.int = ((ds.map iD).map (fun i => (Sum.inl i : Key))).map kV := by rw [List.map_map (g := kV)];rfl
    have hq2 := hq
    rw [ex2] at hq2
    refine ⟨_,rfl,l,(ds.map iD).map (fun i => (Sum.inl i : Key)),rfl,s4.seq hq2,by rw [List.length_map,List.length_map];omega,fun sp hsp => ⟨sp,_,rfl,zi,_,rfl,l,_,rfl,.inl ((s4.trans (zf hsp)).seq hq),rfl,_,rfl,?_⟩⟩
    have s5 := s4.trans (zf (o := Q8 P w sp (qR [] ((ds.map iD).map (fun i => (Sum.inl i : Key))))) hsp)
    have nu : (!decide (V.int ((qR [] ((ds.map iD).map (fun i => (Sum.inl i : Key)))).length : Int) = V.int (((ds.map iD).map V.int).length : Int))) = !decide ((ds.map iD).Nodup) := by
      congr 1
      refine decide_eq_decide.mpr ⟨fun h => ?_,fun h => ?_⟩
      · have h : (((qR [] ((ds.map iD).map (fun i => (Sum.inl i : Key)))).length : Nat) : Int) = (((ds.map iD).map V.int).length : Nat) := by injection h
        rw [List.length_map (f := V.int)] at h
        have := xc.mp (show (qR [] ((ds.map iD).map (fun i => (Sum.inl i : Key)))).length = ((ds.map iD).map (fun i => (Sum.inl i : Key))).length by rw [List.length_map (f := fun i => (Sum.inl i : Key))];omega)
        rw [List.Nodup,List.pairwise_map] at this
        exact this.imp fun ne e => ne (by rw [e])
      · rw [xc.mpr,List.length_map (f := V.int),List.length_map (f := fun i => (Sum.inl i : Key))]
        rw [List.Nodup,List.pairwise_map]
        exact h.imp fun ne e => ne (by injection e)
    have cb : jA n m (.lst ds) = decide ((ds.map iD).Nodup) := by
      show (decide (ds.length = n) && (ds.all (zY 0 ((m : Int) - 1)) && _)) = _
      rw [c3,decide_eq_true ln,Bool.true_and,Bool.true_and]
    rw [<- cb] at nu
    rw [nu]
    refine qb (fun c4 => fin _ s5 (jT (by simpa using c4))) (fun c4 => ?_)
    have c4 : jA n m (.lst ds) = true := by simpa using c4
    obtain ⟨e1,e2,rfl,n1,n2⟩ := yU c2
    obtain ⟨T,xs,rfl,hT,x1,r1,rfl,rd1,x2,r2,rfl,rd2,z⟩ := re
    cases z
    obtain ⟨l1,rfl,q1,y1⟩ := qU n1 rd1
    obtain ⟨l2,rfl,q2,y2⟩ := qU n2 rd2
    obtain ⟨w1,w2⟩ := (Bool.and_eq_true _ _).mp (show (e1.shw && (e2.shw && true)) = true from hw)
    have w2 := ((Bool.and_eq_true _ _).mp w2).1
    obtain ⟨_,g2,g3⟩ := yp c4
    have g3 : (ds.map iD).map V.int = (List.range n).map (fun (x : Nat) => V.int (xu (z7 (.lst ds)) x : Int)) := g3
    rw [g3] at hq
    refine ⟨_,rfl,T,_,_,.ref l1,rfl,rfl,s5.sqT hT,rfl,l1,_,rfl,s5.seq q1,xh w1,by omega,_,rfl,T,_,_,.ref l2,rfl,rfl,s5.sqT hT,rfl,l2,_,rfl,s5.seq q2,xh w2,by omega,_,_,rfl,rfl,?_⟩
    refine ⟨_,rfl,_,rfl,true,true,a,l,rfl,⟨_,SqL.of (s5 _ _ hz1)⟩,⟨_,s5.seq hq⟩,?_⟩
    refine ZQ (K := K) (k1 := true) (k2 := true) (xs := zc) (ys := (List.range n).map (fun (x : Nat) => V.int (xu (z7 (.lst ds)) x : Int))) (fun i zs H6 => zs = ((List.range i).map fun x => c x (xu (z7 (.lst ds)) x)).map V.int /\ Same H H6) ⟨rfl,s5⟩ (fun i zs H6 ⟨_,s6⟩ => ⟨SqL.of (s6 _ _ hz1),s6.seq hq⟩) ?_ ?_
    · rintro j x y zs H6 T6 hx hy ⟨rfl,s6⟩ hT6
      have hj : j < n := by have := (List.getElem?_eq_some_iff.mp hx).1;omega
      rw [List.getElem?_map,List.getElem?_range hj] at hy
      cases hy
      obtain ⟨A1,a1,a2⟩ := hz3 j hj
      rw [a1] at hx
      cases hx
      have s7 := s6.trans (zf (o := .tup [.ref A1,.int (xu (z7 (.lst ds)) j : Int)]) hT6)
      refine ⟨T6,_,rfl,SqT.of zi,rfl,_,_,rfl,_,_,rfl,rfl,rfl,?_⟩
      generalize upd H6 T6 (.tup [.ref A1,.int (xu (z7 (.lst ds)) j : Int)]) = H7 at s7
      refine ⟨_,rfl,_,rfl,A1,_,_,.int (c j (xu (z7 (.lst ds)) j)),rfl,rfl,SqL.of (s7 _ _ a2),zR (by rw [List.getElem?_map,List.getElem?_range (g2 j hj)];rfl),?_,?_,s7⟩
      · rw [List.length_map,List.length_map,List.length_range];omega
      · rw [List.range_succ,List.map_append,List.map_append];rfl
    · rintro zs H6 ⟨rfl,s6⟩
      rw [show min zc.length ((List.range n).map (fun (x : Nat) => V.int (xu (z7 (.lst ds)) x : Int))).length = n by rw [hz2,List.length_map,List.length_range,Nat.min_self]]
      refine ⟨by rw [List.length_map,List.length_map,List.length_range];omega,fun D2 hD2 => ⟨D2,_,rfl,SqL.of zi,fun z hz => ?_,by rw [List.length_map,List.length_range];omega,rfl,?_⟩⟩
      · obtain ⟨x,hx,rfl⟩ := List.mem_map.mp hz
        have hx := List.mem_range.mp hx
        have := hc x hx _ (g2 x hx)
        omega
      have := k _ (s6.trans (zf (o := .lst (((List.range n).map fun x => c x (xu (z7 (.lst ds)) x)).map V.int)) hD2))
      rw [show wq c n m (.lst ds) (.tup [e1,e2]) = decide (V.int ((z7 e1).sum + (z7 e2).sum) = V.int ((List.range n).map fun x => c x (xu (z7 (.lst ds)) x)).sum) by
        show (jA n m (.lst ds) && (xn c n m (.tup [e1,e2]) && decide _)) = _
        rw [c4,c2,Bool.true_and,Bool.true_and]
        exact decide_eq_decide.mpr ⟨fun h => by rw [h];rfl,fun h => by injection h⟩] at this
      exact this
end
end L2
set_option Elab.async false
set_option linter.all false
set_option maxRecDepth 100000
set_option maxHeartbeats 4000000
namespace L2
open PySem PySem.Spec PyProof.Rows
theorem xt : ∀ {us : List Int},(∀ z ∈ us,-1000000000 <= z /\ z <= 1000000000) -> Dat.gds 0 (us.map Dat.int) = true
  | [],_ => rfl
  | u :: us,h => by
    show (decide (u.natAbs <= 10000000000 + 0) && Dat.gds 0 (us.map Dat.int)) = true
    rw [xt fun z hz => h z (List.mem_cons_of_mem _ hz),decide_eq_true]
    · rfl
    · have := h u (by simp)
      omega
theorem j3 : ∀ us : List Int,Dat.blks (us.map Dat.int) = us.length
  | [] => rfl
  | u :: us => by
    show 0 + 1 + Dat.blks (us.map Dat.int) = us.length + 1
    rw [j3 us];omega
theorem jX : ∀ us : List Int,PyData.depthAll (Dat.pys (us.map Dat.int)) <= 1
  | [] => Nat.zero_le _
  | u :: us => by
    have := jX us
    show max (PyData.depth (.int u)) (PyData.depthAll (Dat.pys (us.map Dat.int))) <= 1
    simp only [PyData.depth]
    omega
theorem qS {K : PySem.W.Frag} {H : Hp} : ∀ us : List Int,Reps K H (us.map Dat.int) (us.map V.int)
  | [] => rfl
  | u :: us => ⟨_,_,rfl,rfl,qS us⟩
theorem XM {K : PySem.W.Frag} {F : Hp} {q : Addr} {us : List Int} (h : F q = some (.lst (us.map V.int))) (l : us.length <= 63) (b : ∀ z ∈ us,-1000000000 <= z /\ z <= 1000000000) : DS K F 0 200 4 (.ref q) := by
  refine ⟨.lst (us.map Dat.int),⟨q,_,rfl,SqL.of h,qS us⟩,xt b,?_,?_⟩
  · show Dat.blks (us.map Dat.int) <= 200
    rw [j3];omega
  · have := jX us
    show PyData.depth (.list (Dat.pys (us.map Dat.int))) <= 4
    simp only [PyData.depth]
    omega
theorem Je {n : Nat} {ys : List V} (h : ys.Perm ((List.range n).map fun (k : Nat) => V.int (k : Int))) : ∃ us : List Int,ys = us.map V.int /\ us.length = n /\ ∀ z ∈ us,0 <= z /\ z < n := by
  refine ⟨ys.map fun v => match v with | .int i => i | _ => 0,?_,?_,fun z hz => ?_⟩
  · rw [List.map_map]
    refine (List.map_id _).symm.trans (List.map_congr_left fun v hv => ?_)
    obtain ⟨k,_,rfl⟩ := List.mem_map.mp (h.mem_iff.mp hv)
    rfl
  · rw [List.length_map,h.length_eq,List.length_map,List.length_range]
  · obtain ⟨v,hv,rfl⟩ := List.mem_map.mp hz
    obtain ⟨k,hk,rfl⟩ := List.mem_map.mp (h.mem_iff.mp hv)
    have := List.mem_range.mp hk
    show 0 <= (k : Int) /\ (k : Int) < n
    omega
section
variable {P : Program} {w : World} {K : PySem.W.Frag} {mg : Str -> Option Value} {base : Heap}
inductive yM (K : PySem.W.Frag) (vals : List V) (H : Hp) (Q : VK) : Prop
  | mk (b a : Addr) (c : Nat -> Nat -> Int) (n m : Nat) (n0 : Int) (_ : vals = [.ref b,.ref a]) (_ : BoxAt H b n0) (_ : n0 < 900000) (_ : CsAt (WX [b] H) a c n m) (_ : n <= m) (_ : m <= 63) (_ : (∀ x,x < n -> ∀ j,j < m -> 0 <= c x j /\ c x j <= 1000000)) (_ : ∀ v H',SameB b H H' -> BoxAt H' b (n0 + 70) -> DS K (WX [b] H') 0 200 4 v -> Q v H') : yM K vals H Q
def ZH (K : PySem.W.Frag) : Sp := fun vals H Q _ => yM K vals H Q
theorem J4 : zH ["_law_box_here", "_law_costs_here", "_law_found", "_law_many", "_law_draw", "_law_at"] ["_law_box_here", "_law_costs_here"] (zo (zp 33)) := ⟨rfl,rfl,rfl,by decide +kernel,rfl,by decide +kernel,by decide +kernel⟩
theorem Vu {f : Addr} {fd : FuncData} (F : Fun K "_law_columns" "_law_columns" (zp 33) f fd) (B : Blt mg) (D_take : Dfn P w K mg base "_law_take" 1 ["_law_box_here", "_law_size"] je) (Dmatched_slots : Dfn P w K mg base "matched_slots" 4 ["costs"] Wr) (D_shuffled : Dfn P w K mg base "_law_shuffled" 2 ["_law_box_here", "_law_some"] (ZF K)) : FnOk P w K mg base CX0 5 f fd ["_law_box_here", "_law_costs_here"] (ZH K) := by
  have nd := J4.nd
  refine F.ok J4 (fun vs H Q E h => ?_) (fun cdv A outer s H vs Q E hr h => ?_)
  · obtain ⟨b,a,c,n,m,n0,rfl,_⟩ := h
    rfl
  · obtain ⟨b,a,c,n,m,n0,rfl,B0,hn0,cs,hnm,hm,hc,k⟩ := h
    have sz : sizeLine = 16777216 := sizeLine_eq
    have e62 : (2 : Int) ^ 62 = 4611686018427387904 := by decide
    refine ⟨_,(zn (ZK (i := 2) (j := 3) rfl nd rfl rfl (by decide) rfl rfl (ze (zJ qO (zv Dmatched_slots (hr.mono (by first | decide | exact Nat.le_refl _ | omega)) rfl (ze (pv 1) zg)) zj (fun _ _ => rfl)) (ze (zk zx rfl B.len boot_len (ze (pv 1) zg)) zg)) (by rfl))
      (zn (zL (i := 4) nd rfl (Or.inl rfl) (zv D_take (hr.mono (by first | decide | exact Nat.le_refl _ | omega)) rfl (ze (pv 0) (ze zj zg))))
      (zn (qg (PW.pt (ya (zQ qB (pv 4) zj (zI _)) (vh (zQ wE (pv 3) zj (zI _)))))
      (zu (zA (qA qH (zv D_shuffled (hr.mono (by first | decide | exact Nat.le_refl _ | omega)) rfl (ze (pv 0) (ze (yg rfl rfl B.list rfl B.range zM (ze (zk zx rfl B.len boot_len (ze (zJ zG (pv 1) zj (fun _ _ => rfl)) zg)) zg)) zg))) jb (qo (pv 3)))))
      zU)
      (zn (qg (PW.pt (ya (zQ qB (pv 4) zj (zI _)) (vh (zQ wE (pv 3) zj (zI _)))))
      (zn (zL (i := 5) nd rfl (Or.inl rfl) (zv D_take (hr.mono (by first | decide | exact Nat.le_refl _ | omega)) rfl (ze (pv 0) (ze (zE jG (pv 3) zj) zg))))
        (zu (qX (qp (ze (zJ zG (pv 2) (zE z0 (pv 5) zj) (fun _ _ => rfl)) (ze (zJ zG (pv 2) (pv 5) (fun _ _ => rfl)) zg))) (qN rfl (zK (jr (pv 2) (pv 5) qI) (zK (jr (pv 2) (zE z0 (pv 5) zj) qI) qC))))))
      zU)
      (zu (zA (pv 2))))))),?_⟩
    have cs0 := cs.same WX.le
    refine ⟨_,rfl,a,c,n,m,rfl,cs0,hnm,hm,hc,fun hs f u v q l H1 ah hold pot s1 hq hl ms => ?_⟩
    obtain ⟨zc,hz1,hz2,hz3⟩ := cs0.same s1
    have nl := B0.nne hl
    refine ⟨q,_,_,.ref l,rfl,rfl,SqT.of ms.1,rfl,_,rfl,a,zc,rfl,.inl (SqL.of hz1),_,_,rfl,?_⟩
    rw [hz2]
    refine ⟨_,rfl,b,4,n0,rfl,B0.same s1,by omega,by decide,by decide,fun dr H2 d0 d1 B2 S2 => ?_⟩
    have l2 := S2 _ _ ms.2 nl
    have S2' := (SameB.of s1).trans S2
    have cs2 := cs.same (WX.draw (by simp) S2')
    have mi : ((List.range n).map fun (x : Nat) => V.int (f x : Int)) = ((List.range n).map fun (x : Nat) => (f x : Int)).map V.int := by rw [List.map_map];rfl
    rw [mi] at l2
    have fb : ∀ z ∈ (List.range n).map (fun (x : Nat) => (f x : Int)),-1000000000 <= z /\ z <= 1000000000 := fun z hz => by
      obtain ⟨x,hx,rfl⟩ := List.mem_map.mp hz
      have := pot.rng x (List.mem_range.mp hx)
      omega
    have fl : ((List.range n).map fun (x : Nat) => (f x : Int)).length = n := by rw [List.length_map,List.length_range]
    generalize (List.range n).map (fun (x : Nat) => (f x : Int)) = us at l2 fb fl
    have fin : ∀ H' (us' : List Int) (n1 : Int),SameB b H H' -> BoxAt H' b n1 -> n1 <= n0 + 70 -> H' l = some (.lst (us'.map V.int)) -> us'.length = n -> (∀ z ∈ us',-1000000000 <= z /\ z <= 1000000000) -> Q (.ref l) H' :=
      fun H' us' n1 S' B' hn1 g1 y1 z1 => k _ _ S' (B'.mono hn1) (XM (us := us') (WX.at (by simpa using nl) g1) (by omega) z1)
    have done : ∀ H',SameB b H2 H' -> BoxAt H' b (n0 + 1) -> Q (.ref l) H' := fun H' S' B' => fin H' us _ (S2'.trans S') B' (by omega) (S' _ _ l2 nl) fl fb
    refine ⟨_,rfl,rfl,_,rfl,qb (fun c1 => ?_) (fun c1 => ?_)⟩
    · have e0 : dr = 0 := by have := of_decide_eq_true c1;injection this
      subst e0
      refine ⟨_,rfl,_,_,rfl,rfl,_,rfl,qb (fun c2 => ?_) (fun c2 => ?_)⟩
      · have hn : 0 < n := by have := of_decide_eq_true c2;omega
        obtain ⟨zd,d1,d2,d3⟩ := cs2.same WX.le
        obtain ⟨A1,a1,a2⟩ := d3 0 hn
        have lm : ((List.range m).map fun j => V.int (c 0 j)).length = m := by rw [List.length_map,List.length_range]
        refine ⟨_,rfl,_,rfl,a,_,_,.ref A1,rfl,rfl,SqL.of d1,zR (j := 0) a1,A1,_,rfl,.inl (SqL.of a2),(m : Int),by rw [lm],by omega,by omega,fun k3 hk3 => ?_⟩
        rw [Int.toNat_natCast]
        have S3 := S2'.new (o := .lst ((List.range m).map fun (k : Nat) => V.int (k : Int))) hk3
        refine ⟨b,k3,_,_,rfl,B2.new hk3,by omega,B2.nne hk3,zi,by rw [List.length_map,List.length_range];omega,fun k4 ys H4 S4 B4 nk4 hk4 L4 pm => ?_⟩
        obtain ⟨us2,rfl,u1,u2⟩ := Je pm
        refine ⟨_,rfl,_,rfl,k4,us2.map V.int,rfl,SqL.of L4,fun k5 hk5 => ?_⟩
        have ec : qx (us2.map V.int) none (some (n : Int)) = ((us2.drop (HT.sIx (us2.map V.int).length 0 none)).take (HT.sIx (us2.map V.int).length (us2.map V.int).length (some (n : Int)) - HT.sIx (us2.map V.int).length 0 none)).map V.int := by
          unfold qx
          rw [List.map_take,List.map_drop]
        rw [ec]
        refine k _ _ ((S3.trans S4).new hk5) ((B4.new hk5).mono (by rw [List.length_map,List.length_range];omega)) (XM (WX.at (by simpa using B4.nne hk5) zi) ?_ fun z hz => ?_)
        · rw [List.length_take,List.length_drop];omega
        · have := u2 z (List.mem_of_mem_drop (List.mem_of_mem_take hz))
          omega
      · exact ⟨_,rfl,rfl,_,rfl,ifF rfl ⟨_,rfl,done H2 (SameB.refl _ _) B2⟩⟩
    refine ⟨_,rfl,rfl,_,rfl,qb (fun c2 => ?_) (fun c2 => ⟨_,rfl,done H2 (SameB.refl _ _) B2⟩)⟩
    refine ⟨_,rfl,_,_,rfl,rfl,_,rfl,qb (fun c3 => ?_) (fun c3 => ⟨_,rfl,done H2 (SameB.refl _ _) B2⟩)⟩
    have hn : 1 < n := by have := of_decide_eq_true c3;omega
    refine ⟨_,rfl,_,rfl,_,_,rfl,rfl,b,_,_,rfl,B2,by omega,by omega,by omega,fun at_ H3 t0 t1 B3 S3 => ?_⟩
    obtain ⟨x,rfl⟩ : ∃ x : Nat,at_ = (x : Int) := ⟨at_.toNat,by omega⟩
    have l3 := S3 _ _ l2 nl
    refine ⟨_,rfl,_,rfl,_,_,rfl,rfl,l,_,_,.int (us.getD (x + 1) 0),rfl,rfl,SqL.of l3,zR (j := x + 1) (xo (by omega)),_,rfl,_,rfl,l,_,_,.int (us.getD x 0),rfl,rfl,SqL.of l3,zR (xo (by omega)),?_⟩
    refine ⟨(by show 2 <= _;omega),fun T hT => ⟨T,_,rfl,SqT.of zi,rfl,_,_,rfl,_,rfl,_,rfl,l,_,_,x,rfl,rfl,zf hT _ _ l3,ZR (by omega) (by rw [List.length_map,fl];omega),?_⟩⟩
    rw [<- List.map_set (f := V.int) (a := us.getD (x + 1) 0)]
    refine ⟨_,_,rfl,_,rfl,_,rfl,_,_,rfl,rfl,l,_,_,x + 1,rfl,rfl,zi,ZR (i := (x : Int) + 1) (by omega) (by rw [List.length_map,List.length_set,fl];omega),?_⟩
    rw [<- List.map_set (f := V.int) (a := us.getD x 0)]
    refine ⟨rfl,_,rfl,fin _ ((us.set x (us.getD (x + 1) 0)).set (x + 1) (us.getD x 0)) _ ((((S2'.trans S3).new hT).put hl).put hl) (((B3.new hT).other nl).other nl) (by omega) zi (by rw [List.length_set,List.length_set];exact fl) fun z hz => ?_⟩
    have gm : ∀ i,i < n -> us.getD i 0 ∈ us := fun i hi => by
      rw [List.getD_eq_getElem?_getD,List.getElem?_eq_getElem (by omega)];exact List.getElem_mem _
    rcases List.mem_or_eq_of_mem_set hz with z1 | z1
    · rcases List.mem_or_eq_of_mem_set z1 with z2 | z2
      · exact fb z z2
      · rw [z2];exact fb _ (gm _ (by omega))
    · rw [z1];exact fb _ (gm _ (by omega))
end
end L2
set_option Elab.async false
set_option linter.all false
set_option maxRecDepth 100000
set_option maxHeartbeats 4000000
namespace L2
open PySem PySem.Spec PyProof.Rows
theorem VN {H : Hp} {p : Addr} {c : Nat -> Nat -> Int} {n m : Nat} (cs : CsAt H p c n m) (hnm : n <= m) (hc : ∀ x,x < n -> ∀ j,j < m -> 0 <= c x j /\ c x j <= 1000000) : ∃ m',m' <= m /\ CsAt H p c n m' /\ n <= m' /\ (n = 0 -> m' = 0) /\ ∀ x,x < n -> ∀ j,j < m' -> 0 <= c x j /\ c x j <= 1000000 := by
  cases n with
  | zero =>
    obtain ⟨zs,e1,e2,e3⟩ := cs
    exact ⟨0,Nat.zero_le _,⟨zs,e1,e2,fun x hx => absurd hx (Nat.not_lt_zero x)⟩,Nat.le_refl _,fun _ => rfl,fun x hx => absurd hx (Nat.not_lt_zero x)⟩
  | succ n => exact ⟨m,Nat.le_refl _,cs,hnm,(fun z => nomatch z),hc⟩
theorem Yy {r : Int} (h0 : 0 <= r) (h1 : r < 4) : ∃ z : Nat,atI [V.int 0,V.int 1,V.int 1,V.int 2] r = some (.int (z : Int)) /\ z <= 2 := by
  have hc : r = 0 \/ r = 1 \/ r = 2 \/ r = 3 := by omega
  rcases hc with rfl | rfl | rfl | rfl
  · exact ⟨0,rfl,by decide⟩
  · exact ⟨1,rfl,by decide⟩
  · exact ⟨1,rfl,by decide⟩
  · exact ⟨2,rfl,by decide⟩
def zq : Nat -> Nat
  | 0 => 200
  | 1 => 2840
  | _ => 39800
theorem JC : ∀ m : Nat,zq m <= 39800
  | 0 => by decide
  | 1 => by decide
  | _ + 2 => Nat.le_refl _
theorem WX1 {b : Addr} {H : Hp} {p : Addr} {o : HO} (h : H p = some o) (n : p ≠ b) : WX [b] H p = some o := WX.at (by simpa using n) h
theorem CsAt.wx {b : Addr} {H H' : Hp} {a : Addr} {c : Nat -> Nat -> Int} {n m : Nat} (h : CsAt (WX [b] H) a c n m) (s : SameB b H H') : CsAt (WX [b] H') a c n m := h.same (WX.draw (by simp) s)
theorem CsAt.un {b : Addr} {H : Hp} {a : Addr} {c : Nat -> Nat -> Int} {n m : Nat} (h : CsAt (WX [b] H) a c n m) : CsAt H a c n m := h.same WX.le
theorem PpAt.wx {b : Addr} {H H' : Hp} {p l1 l2 : Addr} {n m : Nat} {u v : Nat -> Int} (h : PpAt (WX [b] H) p l1 l2 n m u v) (s : SameB b H H') : PpAt (WX [b] H') p l1 l2 n m u v := ⟨WX.draw (by simp) s _ _ h.1,WX.draw (by simp) s _ _ h.2.1,WX.draw (by simp) s _ _ h.2.2⟩
theorem ex1 {b : Addr} {H : Hp} {n : Int} (h : BoxAt H b n) : Ex H b [b] := ⟨by simp,fun e he => by rw [List.mem_singleton.mp he];exact h.some⟩
theorem DS.data {K : PySem.W.Frag} {F : Hp} {k z D : Nat} {v : V} (h : DS K F k z D v) (hk : k <= 1000) : ∃ d,Rep K F d v /\ d.shw = true /\ d.blk <= z /\ d.py.depth <= D := let ⟨d,r,g⟩ := h;⟨d,r,Dat.gd_shw hk g.g,g.b,g.p⟩
theorem JJ {d e g : Dat} (h1 : d.shw = true) (h2 : e.shw = true) (h3 : g.shw = true) (b1 : d.blk <= 5000) (b2 : e.blk <= 100000) (b3 : g.blk <= 100000) (p1 : d.py.depth <= 50) (p2 : e.py.depth <= 50) (p3 : g.py.depth <= 50) : (Dat.lst [d,.lst [e,g]]).shw = true /\ (Dat.lst [d,.lst [e,g]]).blk <= 1048576 /\ (Dat.lst [d,.lst [e,g]]).py.depth <= 60 := by
  refine ⟨?_,?_,?_⟩
  · show (d.shw && ((e.shw && (g.shw && true)) && true)) = true
    rw [h1,h2,h3];rfl
  · show d.blk + 1 + ((e.blk + 1 + (g.blk + 1 + 0)) + 1 + 0) <= _
    omega
  · show PyData.depth (.list [d.py,.list [e.py,g.py]]) <= 60
    simp only [PyData.depth,PyData.depthAll]
    omega
theorem XV {c : Nat -> Nat -> Int} {n m : Nat} (hn : n <= 63) (hm : m <= 63) (h : ∀ x,x < n -> ∀ j,j < m -> 0 <= c x j /\ c x j <= 1000000) : (Zk c n m).shw = true /\ (Zk c n m).blk <= 5000 /\ (Zk c n m).py.depth <= 50 := by
  have mem : ∀ d ∈ (List.range n).map (fun x => wK (c x) m),d.shw = true /\ d.blk <= m /\ d.py.depth <= 2 := fun d hd => by
    obtain ⟨x,hx,rfl⟩ := List.mem_map.mp hd
    exact VE fun j hj => by
      have := h x (List.mem_range.mp hx) j hj
      omega
  refine ⟨vB fun d hd => (mem d hd).1,?_,?_⟩
  · have := vW (z := m) fun d hd => (mem d hd).2.1
    rw [List.length_map,List.length_range] at this
    have h2 : (m + 1) * n <= 64 * 63 := Nat.mul_le_mul (by omega) hn
    show Dat.blks _ <= _
    omega
  · have := vT (z := 2) fun d hd => (mem d hd).2.2
    show PyData.depth (.list (Dat.pys _)) <= 50
    simp only [PyData.depth]
    omega
theorem Z3 {K : PySem.W.Frag} {b : Addr} {v : V} {H : Hp} {Q : VK} {E : XK} {n : Int} {k z D : Nat} {ex : List Addr} (B : BoxAt H b n) (hn : n < 1000000) (he : Ex H b ex) (d : DS K (WX ex H) k z D v) (hz : z <= 50000) (hk : k <= 100) (hD : D <= 9)
    (h : ∀ v' H',SameB b H H' -> BoxAt H' b (n + 80) -> DS K (WX ex H') (k + 1) ((4 * z + 20) + 10 * (z + 2)) (D + 4) v' -> Q v' H') : jE K 10 [.ref b,v] H Q E :=
  ⟨b,v,n,k,z,D,ex,rfl,B,by show n + 10 * (((9 : Nat) : Int) + 1) < _;omega,he,d,hz,hk,hD,by decide,fun v' H' s' b' d' => h v' H' s' (b'.mono (by show n + 8 * (((9 : Nat) : Int) + 1) <= _;omega)) d'⟩
theorem VI {K : PySem.W.Frag} {F : Hp} {q k1 k2 : Addr} {us vs : List Int} (hq : F q = some (.tup [.ref k1,.ref k2])) (h1 : F k1 = some (.lst (us.map V.int))) (h2 : F k2 = some (.lst (vs.map V.int))) (l1 : us.length <= 63) (l2 : vs.length <= 63)
    (b1 : ∀ z ∈ us,-1000000000 <= z /\ z <= 1000000000) (b2 : ∀ z ∈ vs,-1000000000 <= z /\ z <= 1000000000) : DS K F 0 200 4 (.ref q) := by
  refine ⟨.tup [.lst (us.map Dat.int),.lst (vs.map Dat.int)],⟨q,_,rfl,SqT.of hq,_,_,rfl,⟨k1,_,rfl,SqL.of h1,qS us⟩,_,_,rfl,⟨k2,_,rfl,SqL.of h2,qS vs⟩,rfl⟩,?_,?_,?_⟩
  · show (Dat.gds 0 (us.map Dat.int) && (Dat.gds 0 (vs.map Dat.int) && true)) = true
    rw [xt b1,xt b2];rfl
  · show Dat.blks (us.map Dat.int) + 1 + (Dat.blks (vs.map Dat.int) + 1 + 0) <= 200
    rw [j3,j3];omega
  · have := jX us
    have := jX vs
    show max (PyData.depth (.list (Dat.pys (us.map Dat.int)))) (max (PyData.depth (.list (Dat.pys (vs.map Dat.int)))) 0) + 1 <= 4
    simp only [PyData.depth]
    omega
section
variable {P : Program} {w : World} {K : PySem.W.Frag} {mg : Str -> Option Value} {base : Heap}
def Two (K : PySem.W.Frag) (H : Hp) (b l : Addr) (t : Nat) (w1 w2 : V) : Prop := H l = some (.lst [w1,w2]) /\ DS K (WX [l,b] H) t (zq t) (4 + 4 * t) w1 /\ DS K (WX [l,b] H) t (zq t) (4 + 4 * t) w2
theorem Two.move {H H' : Hp} {b l : Addr} {t : Nat} {w1 w2 : V} (h : Two K H b l t w1 w2) (nl : l ≠ b) (s : SameB b H H') : Two K H' b l t w1 w2 :=
  ⟨s _ _ h.1 nl,h.2.1.up (WX.draw (by simp) s) (Nat.le_refl _) (Nat.le_refl _) (Nat.le_refl _),h.2.2.up (WX.draw (by simp) s) (Nat.le_refl _) (Nat.le_refl _) (Nat.le_refl _)⟩
theorem Two.ex {H : Hp} {b l : Addr} {t : Nat} {n : Int} {w1 w2 : V} (h : Two K H b l t w1 w2) (B : BoxAt H b n) : Ex H b [l,b] := ⟨by simp,fun e he => by
  rcases List.mem_cons.mp he with z | z
  · exact ⟨_,by rw [z];exact h.1⟩
  · rw [List.mem_singleton.mp z];exact B.some⟩
theorem W8 {t : Nat} (h : t < 2) : zq t <= zq (t + 1) /\ (4 * zq t + 20) + 10 * (zq t + 2) <= zq (t + 1) := by
  have : t = 0 \/ t = 1 := by omega
  rcases this with rfl | rfl <;> exact ⟨by decide,by decide⟩
inductive JO (vs : List V) (H : Hp) (Q : VK) : Prop
  | mk (b : Addr) (_ : vs = [.ref b]) (_ : BoxAt H b 0) (_ : ∀ H',SameB b H H' -> Q (.bl true) H') : JO  vs H Q
def Wp : Sp := fun vs H Q _ => JO  vs H Q
theorem Yl : zH ["_law_box_here", "_law_turn", "_law_costs_here", "_law_told_paper", "_law_echo", "_law_some", "_law_step", "_law_at", "_law_kept", "_law_due"] ["_law_box_here"] (zo (zp 34)) := ⟨rfl,rfl,rfl,by decide +kernel,rfl,by decide +kernel,by decide +kernel⟩
def QK (b : _) (H : _) := fun (i : Nat) (σ : St) (H1 : Hp) => (Ex9 fun (v1 v2 v3 v4 v5 v6 v7 v8 v9 : Option V) => An3 (σ = [some (.ref b),v1,v2,v3,v4,v5,v6,v7,v8,v9]) (SameB b H H1) (BoxAt H1 b (20000 * i)) : Prop)
def QJ (b : _) (i : Nat) (p : _) (q : _) (H3 : _) := fun (e : Nat) (σ : St) (H4 : Hp) => (Ex6 fun (v4 v5 v6 v7 v8 v9 : Option V) => An3 (σ = [some (.ref b),some (.int (0 + (i : Int))),some (.ref p),some (.ref q),v4,v5,v6,v7,v8,v9]) (SameB b H3 H4) (BoxAt H4 b (20000 * i + 200 + 1000 * e)) : Prop)
def QI (b : _) (i : Nat) (p : _) (q : _) (e : Nat) (l : _) (v8 : _) (v9 : _) (H3 : _) (K : _) := fun (t : Nat) (σ : St) (H9 : Hp) => (Ex4 fun (w1 w2 : V) (v6 v7 : Option V) => An4 (σ = [some (.ref b),some (.int (0 + (i : Int))),some (.ref p),some (.ref q),some (.int (0 + (e : Int))),some (.ref l),v6,v7,v8,v9]) (SameB b H3 H9) (BoxAt H9 b (20000 * i + 200 + 1000 * e + 71 + 81 * t)) (Two K H9 b l t w1 w2) : Prop)
theorem YI {f : Addr} {fd : FuncData} (F : Fun K "_law_right" "_law_right" (zp 34) f fd) (B : Blt mg) (D_take : Dfn P w K mg base "_law_take" 1 ["_law_box_here", "_law_size"] je) (D_costs : Dfn P w K mg base "_law_costs" 2 ["_law_box_here"] Wt) (Dpaper_for : Dfn P w K mg base "paper_for" 4 ["costs"] Wq)
    (D_columns : Dfn P w K mg base "_law_columns" 5 ["_law_box_here", "_law_costs_here"] (ZH K)) (D_spoilt : Dfn P w K mg base "_law_spoilt" 15 ["_law_box_here", "_law_thing"] (jE K 10)) (D_same : Dfn P w K mg base "_law_same" 1 ["_law_found", "_law_due"] (spS K 1))
    (Dshows_matched : Dfn P w K mg base "shows_matched" 4 ["costs", "columns", "thing"] (wA K)) (D_is_matched : Dfn P w K mg base "_law_is_matched" 4 ["_law_costs_here", "_law_columns_here", "_law_thing"] (wA K)) : FnOk P w K mg base CX0 16 f fd ["_law_box_here"] Wp := by
  have nd := Yl.nd
  refine F.ok Yl (fun vs H Q E h => ?_) (fun cdv A outer s H vs Q E hr h => ?_)
  · obtain ⟨b,rfl,_⟩ := h
    rfl
  · obtain ⟨b,rfl,hb,k⟩ := h
    have sz : sizeLine = 16777216 := sizeLine_eq
    have hu1 := XE hr
    have hu64 := hr.units
    have hg := hr.gd
    have hu := hr.units0
    refine ⟨_,(zn (jg PassesOwn.never rfl (qG rfl B.range (ze zj zg)) (zV (i := 1) nd rfl (Or.inl rfl))
      (zn (zL (i := 2) nd rfl (Or.inl rfl) (zv D_costs (hr.mono (by first | decide | exact Nat.le_refl _ | omega)) rfl (ze (pv 0) zg)))
        (zn (zL (i := 3) nd rfl (Or.inl rfl) (zv Dpaper_for (hr.mono (by first | decide | exact Nat.le_refl _ | omega)) rfl (ze (pv 2) zg)))
        (zu (jg PassesOwn.never rfl (qG rfl B.range (ze zj zg)) (zV (i := 4) nd rfl (Or.inl rfl))
        (zn (zL (i := 5) nd rfl (Or.inl rfl) (qF (ze (zv D_columns (hr.mono (by first | decide | exact Nat.le_refl _ | omega)) rfl (ze (pv 0) (ze (pv 2) zg))) (ze (qp (ze (zW qr rfl B.list zM (ze (zJ qO (pv 3) zj (fun _ _ => rfl)) zg)) (ze (zW qr rfl B.list zM (ze (zJ qO (pv 3) zj (fun _ _ => rfl)) zg)) zg))) zg))))
          (zn (jg PassesOwn.never rfl (qG rfl B.range (ze (zJ zG (qF (ze zj (ze zj (ze zj (ze zj zg))))) (zv D_take (hr.mono (by first | decide | exact Nat.le_refl _ | omega)) rfl (ze (pv 0) (ze zj zg))) (fun _ _ => rfl)) zg)) (zV (i := 6) nd rfl (Or.inl rfl))
          (zn (zL (i := 7) nd rfl (Or.inl rfl) (zv D_take (hr.mono (by first | decide | exact Nat.le_refl _ | omega)) rfl (ze (pv 0) (ze zj zg))))
            (zu (qX (zv D_spoilt (hr.mono (by first | decide | exact Nat.le_refl _ | omega)) rfl (ze (pv 0) (ze (zJ zG (pv 5) (pv 7) (fun _ _ => rfl)) zg))) (jr (pv 5) (pv 7) qI)))))
          (zn (ZK (i := 8) (j := 9) rfl nd rfl rfl (by decide) rfl rfl (ze (zk (vU hg hu64) rfl B.repr wO (ze (qF (ze (pv 2) (ze (pv 5) zg))) zg)) (ze (zv D_is_matched (hr.mono (by first | decide | exact Nat.le_refl _ | omega)) rfl (ze (pv 2) (ze (zJ zG (pv 5) zj (fun _ _ => rfl)) (ze (zJ zG (pv 5) zj (fun _ _ => rfl)) zg)))) zg)) (by rfl))
          (zu (qg (PW.pt (jz (qv (zZ (zv D_same (hr.mono (by first | decide | exact Nat.le_refl _ | omega)) rfl (ze (zv Dshows_matched (hr.mono (by first | decide | exact Nat.le_refl _ | omega)) rfl (ze (pv 2) (ze (zJ zG (pv 5) zj (fun _ _ => rfl)) (ze (zJ zG (pv 5) zj (fun _ _ => rfl)) zg)))) (ze (pv 9) zg))))) (qW (zQ yW (zk (vU hg hu64) rfl B.repr wO (ze (qF (ze (pv 2) (ze (pv 5) zg))) zg)) (pv 8) (zI _)))))
          (zu (zA qJ))
          zU))))))))))
      (zu (zA qJ))),?_⟩
    have e62 : (2 : Int) ^ 62 = 4611686018427387904 := by decide
    refine ⟨_,rfl,(by rw [e62];decide),(by rw [e62];decide),?_⟩
    refine jW (n := 2) (QK b H) ⟨_,_,_,_,_,_,_,_,_,rfl,SameB.refl _ _,hb.mono (by omega)⟩ ?_ ?_
    · rintro i σ H1 hi ⟨v1,v2,v3,v4,v5,v6,v7,v8,v9,rfl,S1,B1⟩
      refine ⟨_,rfl,b,_,rfl,B1,by omega,fun c n m0 p H2 hp S2 B2 cs0 hnm0 hm0 hc0 => ?_⟩
      obtain ⟨m,hmm,cs,hnm,h0,hc⟩ := VN cs0 hnm0 hc0
      have hm : m <= 13 := by omega
      obtain ⟨o1,o2,o3⟩ := XV (c := c) (n := n) (m := m) (by omega) (by omega) hc
      have hcz : ∀ x,x < n -> ∀ j,j < m -> 0 <= c x j := fun x hx j hj => (hc x hx j hj).1
      refine ⟨_,rfl,p,c,n,m,rfl,cs.un,hnm,h0,by omega,hcz,fun hs f es q l1 l2 H3 ah hold st pot s3 hq hl1 hl2 n12 pa => ?_⟩
      obtain ⟨bv,bu⟩ := Jh ah hnm (by omega) hc hold st
      have bu' : ∀ x,x < n -> 0 <= (fun x => c x (f x) - tot es (f x)) x /\ (fun x => c x (f x) - tot es (f x)) x <= 64000000 := bu
      generalize (fun x => c x (f x) - tot es (f x)) = u at pa bu'
      generalize tot es = v at pa bv
      clear bu
      have B3 := B2.same s3
      have cs3 : CsAt (WX [b] H3) p c n m := cs.same (WX.same s3)
      have pa3 : PpAt (WX [b] H3) q l1 l2 n m u v := ⟨WX1 pa.1 (B2.nne hq),WX1 pa.2.1 (B2.nne hl1),WX1 pa.2.2 (B2.nne hl2)⟩
      have S3 := S1.trans (S2.trans (SameB.of s3))
      have mi : ∀ (g : Nat -> Int) (k : Nat),((List.range k).map g).map V.int = (List.range k).map fun x => V.int (g x) := fun g k => by rw [List.map_map];rfl
      refine ⟨_,rfl,(by rw [e62];decide),(by rw [e62];decide),?_⟩
      refine jW (n := 12) (QJ b i p q H3) ⟨_,_,_,_,_,_,rfl,SameB.refl _ _,B3.mono (by omega)⟩ ?_ ?_
      · rintro e σ H4 he ⟨v4,v5,v6,v7,v8,v9,rfl,S4,B4⟩
        refine ⟨_,rfl,_,rfl,b,p,c,n,m,_,rfl,B4,by omega,cs3.wx S4,hnm,by omega,hc,fun w1 H5 S5 B5 d5 => ?_⟩
        have S5 := S4.trans S5
        have pa5 := pa3.wx S5
        have q5 := WX.le _ _ pa5.1
        have g1 := WX.le _ _ pa5.2.1
        have g2 := WX.le _ _ pa5.2.2
        refine ⟨_,rfl,q,_,_,.ref l1,rfl,rfl,SqT.of q5,rfl,l1,_,rfl,.inl (SqL.of g1),fun k1 hk1 => ?_⟩
        have t1 := zf (o := .lst ((List.range n).map fun x => V.int (u x))) hk1
        refine ⟨_,rfl,q,_,_,.ref l2,rfl,rfl,SqT.of (t1 _ _ q5),rfl,l2,_,rfl,.inl (SqL.of (t1 _ _ g2)),fun k2 hk2 => ?_⟩
        have t2 := zf (o := .lst ((List.range m).map fun x => V.int (v x))) hk2
        refine ⟨(by show 2 <= _;omega),fun T hT => ?_⟩
        have t3 := zf (o := .tup [.ref k1,.ref k2]) hT
        have y1 := t3 _ _ (t2 _ _ (zi (H := H5) (a := k1) (o := .lst ((List.range n).map fun x => V.int (u x)))))
        have y2 := t3 _ _ (zi (H := upd H5 k1 (.lst ((List.range n).map fun x => V.int (u x)))) (a := k2) (o := .lst ((List.range m).map fun x => V.int (v x))))
        have y3 := zi (H := upd (upd H5 k1 (.lst ((List.range n).map fun x => V.int (u x)))) k2 (.lst ((List.range m).map fun x => V.int (v x)))) (a := T) (o := .tup [.ref k1,.ref k2])
        have nk1 := B5.nne hk1
        have nk2 := (B5.new (o := .lst ((List.range n).map fun x => V.int (u x))) hk1).nne hk2
        have nT := ((B5.new (o := .lst ((List.range n).map fun x => V.int (u x))) hk1).new (o := .lst ((List.range m).map fun x => V.int (v x))) hk2).nne hT
        have t123 := t1.trans (t2.trans t3)
        have S6 := S5.trans (SameB.of t123)
        have B6 := ((B5.new hk1).new hk2).new (o := .tup [.ref k1,.ref k2]) hT
        have d6 := d5.up (WX.same t123) (Nat.le_refl _) (Nat.le_refl _) (Nat.le_refl _)
        generalize upd (upd (upd H5 k1 (.lst ((List.range n).map fun x => V.int (u x)))) k2 (.lst ((List.range m).map fun x => V.int (v x)))) T (.tup [.ref k1,.ref k2]) = H6 at y1 y2 y3 S6 B6 d6 t123
        have e6 : DS K (WX [b] H6) 0 200 4 (.ref T) := VI (us := (List.range n).map u) (vs := (List.range m).map v) (WX1 y3 nT) (by rw [mi];exact WX1 y1 nk1) (by rw [mi];exact WX1 y2 nk2) (by rw [List.length_map,List.length_range];omega) (by rw [List.length_map,List.length_range];omega)
          (fun z hz => by
            obtain ⟨x,hx,rfl⟩ := List.mem_map.mp hz
            have := bu' x (List.mem_range.mp hx)
            omega)
          (fun z hz => by
            obtain ⟨x,hx,rfl⟩ := List.mem_map.mp hz
            have := bv x (List.mem_range.mp hx)
            omega)
        refine ⟨(by show 2 <= _;omega),fun l hl => ?_⟩
        have nl := B6.nne hl
        have hl3 : H3 l = none := S6.none hl nl
        have tw : Two K (upd H6 l (.lst [w1,.ref T])) b l 0 w1 (.ref T) := ⟨zi,d6.up (WX.fresh hl _) (Nat.le_refl _) (Nat.le_refl _) (Nat.le_refl _),e6.up (WX.fresh hl _) (Nat.le_refl _) (Nat.le_refl _) (Nat.le_refl _)⟩
        have S7 := S6.new (o := .lst [w1,.ref T]) hl
        have B7 := B6.new (o := .lst [w1,.ref T]) hl
        generalize upd H6 l (.lst [w1,.ref T]) = H7 at tw S7 B7
        refine ⟨(by show 4 <= _;omega),fun lk hlk => ⟨_,rfl,b,4,_,rfl,B7.new hlk,by omega,by decide,by decide,fun r H8 r0 r1 B8 S8 => ?_⟩⟩
        have L8 := S8 lk _ zi (B7.nne hlk)
        obtain ⟨zz,ez,hz2⟩ := Yy r0 r1
        have S8 := ((SameB.refl b H7).new (o := .lst [V.int 0,V.int 1,V.int 1,V.int 2]) hlk).trans S8
        have tw8 := tw.move nl S8
        have S8 := S7.trans S8
        refine ⟨lk,_,_,_,rfl,rfl,SqL.of L8,ez,_,rfl,by rw [e62];omega,by rw [e62];omega,?_⟩
        rw [Int.toNat_natCast]
        refine jW (n := zz) (QI b i p q e l v8 v9 H3 K) ⟨w1,.ref T,_,_,rfl,S8,B8.mono (by omega),tw8⟩ ?_ ?_
        · rintro t σ H9 ht ⟨u1,u2,v6,v7,rfl,S9,B9,tw9⟩
          have t2 : t < 2 := by omega
          obtain ⟨zu1,zu2⟩ := W8 t2
          have zt := JC t
          refine ⟨_,rfl,b,2,_,rfl,B9,by omega,by decide,by decide,fun r2 H10 r20 r21 B10 S10 => ?_⟩
          have tw10 := tw9.move nl S10
          have S10 := S9.trans S10
          have hr2 : r2 = 0 \/ r2 = 1 := by omega
          rcases hr2 with rfl | rfl
          · refine ⟨_,rfl,_,rfl,_,rfl,l,_,_,u1,rfl,rfl,SqL.of tw10.1,rfl,Z3 (E := E0) B10 (by omega) (tw10.ex B10) tw10.2.1 (by omega) (by omega) (by omega) fun w' H11 S11 B11 d11 => ?_⟩
            have tw11 := tw10.move nl S11
            refine ⟨_,rfl,_,rfl,l,_,_,0,rfl,rfl,tw11.1,rfl,w',u2,_,_,rfl,(S10.trans S11).put hl3,(B11.other nl).mono (by omega),zi,d11.up (WX.put List.mem_cons_self) (Nat.le_refl _) zu2 (by omega),tw11.2.2.up (WX.put List.mem_cons_self) (by omega) zu1 (by omega)⟩
          · refine ⟨_,rfl,_,rfl,_,rfl,l,_,_,u2,rfl,rfl,SqL.of tw10.1,rfl,Z3 (E := E0) B10 (by omega) (tw10.ex B10) tw10.2.2 (by omega) (by omega) (by omega) fun w' H11 S11 B11 d11 => ?_⟩
            have tw11 := tw10.move nl S11
            refine ⟨_,rfl,_,rfl,l,_,_,1,rfl,rfl,tw11.1,rfl,u1,w',_,_,rfl,(S10.trans S11).put hl3,(B11.other nl).mono (by omega),zi,tw11.2.1.up (WX.put List.mem_cons_self) (by omega) zu1 (by omega),d11.up (WX.put List.mem_cons_self) (Nat.le_refl _) zu2 (by omega)⟩
        · rintro σ H9 ⟨u1,u2,v6,v7,rfl,S9,B9,tw9⟩
          obtain ⟨d1,rd1,a1,a2,a3⟩ := tw9.2.1.data (by omega)
          obtain ⟨d2,rd2,b1,b2,b3⟩ := tw9.2.2.data (by omega)
          have a2 : d1.blk <= 39800 := Nat.le_trans a2 (JC _)
          have b2 : d2.blk <= 39800 := Nat.le_trans b2 (JC _)
          have cs9 := (cs3.wx S9).un
          have rd1 : Rep K H9 d1 u1 := rd1.same WX.le
          have rd2 : Rep K H9 d2 u2 := rd2.same WX.le
          obtain ⟨x1,x2,x3⟩ := JJ o1 a1 b1 o2 (by omega) (by omega) o3 (by omega) (by omega)
          have rs : ∀ H',Same H9 H' -> ∀ l3,H' l3 = some (.lst [.ref p,.ref l]) -> Rep K H' (.lst [Zk c n m,.lst [d1,d2]]) (.ref l3) := fun H' s' l3 h3 =>
            ⟨l3,_,rfl,SqL.of h3,_,_,rfl,Xa (cs9.same s'),_,_,rfl,⟨l,_,rfl,SqL.of (s' _ _ tw9.1),_,_,rfl,rd1.same s',_,_,rfl,rd2.same s',rfl⟩,rfl⟩
          refine ⟨_,rfl,_,rfl,(by show 2 <= _;omega),fun l3 hl3' => ?_⟩
          have t9 := zf (o := .lst [.ref p,.ref l]) hl3'
          refine ⟨.ref l3,_,rfl,rs _ t9 l3 zi,x1,x2,x3,?_⟩
          generalize upd H9 l3 (.lst [.ref p,.ref l]) = H10 at t9
          refine ⟨_,rfl,_,rfl,l,_,_,u1,rfl,rfl,SqL.of (t9 _ _ tw9.1),rfl,_,rfl,l,_,_,u2,rfl,rfl,SqL.of (t9 _ _ tw9.1),rfl,p,c,n,m,u1,u2,d1,d2,rfl,cs9.same t9,h0,by omega,by omega,hc,rd1.same t9,rd2.same t9,by omega,by omega,b1,fun H11 t11 => ⟨_,_,rfl,?_⟩⟩
          have t11 := t9.trans t11
          refine ⟨_,rfl,_,rfl,l,_,_,u1,rfl,rfl,SqL.of (t11 _ _ tw9.1),rfl,_,rfl,l,_,_,u2,rfl,rfl,SqL.of (t11 _ _ tw9.1),rfl,p,c,n,m,u1,u2,d1,d2,rfl,cs9.same t11,h0,by omega,by omega,hc,rd1.same t11,rd2.same t11,by omega,by omega,b1,fun H12 t12 => ?_⟩
          have t12 := t11.trans t12
          refine ⟨_,rfl,.bl (wq c n m d1 d2),_,_,rfl,rfl,rfl,?_,fun H13 t13 => ⟨_,rfl,ifF rfl ?_⟩⟩
          · first | trivial | rfl | (unfold Dat.ok;trivial) | simp [Dat.ok]
          have t13 := t12.trans t13
          refine ⟨_,rfl,_,rfl,(by show 2 <= _;omega),fun l4 hl4 => ?_⟩
          have t14 := t13.trans (zf (o := .lst [.ref p,.ref l]) hl4)
          refine ⟨.ref l4,_,rfl,rs _ t14 l4 zi,x1,x2,x3,_,rfl,rfl,_,rfl,ifF (by simp) ?_⟩
          exact ⟨_,_,_,_,_,_,rfl,S9.trans (SameB.of t14),(B9.same t14).mono (by omega)⟩
      · rintro σ H4 ⟨v4,v5,v6,v7,v8,v9,rfl,S4,B4⟩
        exact ⟨_,_,_,_,_,_,_,_,_,rfl,S3.trans S4,B4.mono (by omega)⟩
    · rintro σ H1 ⟨v1,v2,v3,v4,v5,v6,v7,v8,v9,rfl,S1,B1⟩
      exact k H1 S1
end
end L2
set_option Elab.async false
set_option linter.all false
set_option maxRecDepth 100000
set_option maxHeartbeats 4000000
namespace L2
open PySem PySem.Spec PyProof.Rows
inductive Qd (K : PySem.W.Frag) (vs : List V) (H : Hp) (Q : VK) : Prop
  | mk (a : Addr) (ns : List Int) (h0_ : vs = [.ref a]) (h1_ : SqL K H a (ns.map V.int)) (h2_ : ns.length <= 63) (h3_ : ∀ H',Q (.bl true) H') : Qd K vs H Q
def Qe (K : PySem.W.Frag) : Sp := fun vs H Q _ => Qd K vs H Q
section
variable {P : Program} {w : World} {K : PySem.W.Frag} {mg : Str -> Option Value} {base : Heap}
theorem V0 : zH ["_law_script", "_law_cells"] ["_law_script"] (zo (zp 35)) := ⟨rfl,rfl,rfl,by decide +kernel,rfl,by decide +kernel,by decide +kernel⟩
theorem WK {f : Addr} {fd : FuncData} (F : Fun K "law" "law" (zp 35) f fd) (B : Blt mg) (D_folded : Dfn P w K mg base "_law_folded" 1 ["_law_script", "_law_size"] (ZG K)) (D_box : Dfn P w K mg base "_law_box" 1 ["_law_script", "_law_k"] (JU K))
    (D_right : Dfn P w K mg base "_law_right" 16 ["_law_box_here"] Wp) : FnOk P w K mg base CX0 17 f fd ["_law_script"] (Qe K) := by
  have nd := V0.nd
  refine F.ok V0 (fun vs H Q E h => ?_) (fun cdv A outer s H vs Q E hr h => ?_)
  · obtain ⟨a,ns,rfl,_⟩ := h
    rfl
  · obtain ⟨a,ns,rfl,hS,hlen,k⟩ := h
    refine ⟨_,(@zn _ _ _ _ _ (@zL _ _ 1 _ _ _ _ nd rfl (Or.inr rfl) (@zv _ _ _ _ _ _ _ _ _ _ D_folded (hr.mono (by first | decide | exact Nat.le_refl _ | omega)) rfl (@ze _ _ _ _ _ (@pv _ 0 _ _ (by rfl) (by first | exact Or.inl rfl | exact Or.inr (Or.inl rfl) | exact Or.inr (Or.inr rfl)) (by decide) (by decide)) (@ze _ _ _ _ _ zj zg (by rfl)) (by rfl)) (by decide) (by rfl) (by rfl)) (by rfl) (by first | exact .inl rfl | exact .inr rfl | assumption)) (@zu _ _ _ (@zA _ _ _ _ (@zk _ _ _ _ _ _ _ _ _ (qD rfl) rfl B.all boot_all (@ze _ _ _ _ _ (@jv _ _ _ _ _ _ _ _ _ _ _ ["_law_cells"] [1] rfl rfl (by kernel_rfl) (@qG _ _ _ _ _ _ rfl B.range (@ze _ _ _ _ _ (@zk _ _ _ _ _ _ _ _ _ (Jw rfl) rfl B.max XY (@ze _ _ _ _ _ zj (@ze _ _ _ _ _ (@zk _ _ _ _ _ _ _ _ _ zx rfl B.len boot_len (@ze _ _ _ _ _ (@pv _ 1 _ _ (by rfl) (by first | exact Or.inl rfl | exact Or.inr (Or.inl rfl) | exact Or.inr (Or.inr rfl)) (by decide) (by decide)) zg (by rfl)) (by decide) (by decide) (by rfl) (by rfl)) zg (by rfl)) (by rfl)) (by decide) (by decide) (by rfl) (by rfl)) zg (by rfl)) (by rfl)) (fun C0 s0 H0 ex0 => qk) (fun C0 s0 H0 ex0 => (@zv _ _ _ _ _ _ _ _ _ _ D_right (hr.mono (by first | decide | exact Nat.le_refl _ | omega)) rfl (@ze _ _ _ _ _ (@zv _ _ _ _ _ _ _ _ _ _ D_box (hr.mono (by first | decide | exact Nat.le_refl _ | omega)) rfl (@ze _ _ _ _ _ (@pv _ 1 _ _ (by rfl) (by first | exact Or.inl rfl | exact Or.inr (Or.inl rfl) | exact Or.inr (Or.inr rfl)) (by decide) (by decide)) (@ze _ _ _ _ _ (@pv _ 0 _ _ (by rfl) (by first | exact Or.inl rfl | exact Or.inr (Or.inl rfl) | exact Or.inr (Or.inr rfl)) (by decide) (by decide)) zg (by rfl)) (by rfl)) (by decide) (by rfl) (by rfl)) zg (by rfl)) (by decide) (by rfl) (by rfl))) (by intro _ ;rfl)) zg (by rfl)) (by decide) (by decide) (by rfl) (by rfl))))),?_⟩
    refine ⟨_,rfl,a,ns,4,rfl,hS,hlen,by decide,by decide,fun p ms H1 s1 hp hm => ?_⟩
    have e62 : (2 : Int) ^ 62 = 4611686018427387904 := by decide
    have hl : (ms.map V.int).length <= 4 := by rw [List.length_map];exact hm
    refine ⟨_,rfl,p,_,rfl,.inl hp,_,_,rfl,_,rfl,(by rw [e62];split <;> omega),(by rw [e62];split <;> omega),?_⟩
    have hN : (if ((ms.map V.int).length : Int) > 2 then ((ms.map V.int).length : Int) else 2).toNat <= 8 := by split <;> omega
    have hbig : 100 < sizeLine := by rw [sizeLine_eq];decide
    refine xp (fun i zs H2 => zs = List.replicate i (V.bl true) /\ Same H1 H2) ⟨rfl,Same.refl _⟩ ?_ ?_
    · rintro i zs H2 hi ⟨rfl,sm⟩
      rw [Int.zero_add]
      refine ⟨rfl,?_⟩
      refine ⟨_,rfl,_,rfl,p,ms,i,rfl,sm.seq hp,by omega,fun q o hq Bq => ⟨q,rfl,Bq,fun H3 s3 => ⟨?_,?_,fun c u e => ?_⟩⟩⟩
      · rw [List.length_replicate];omega
      · rw [List.replicate_succ']
      · exact s3 c u ((zf hq) c u (sm c u e)) (zr (sm c u e) hq)
    · rintro zs H2 ⟨rfl,sm⟩
      refine ⟨by rw [List.length_replicate];omega,fun D hD => ⟨D,List.replicate (if ((ms.map V.int).length : Int) > 2 then ((ms.map V.int).length : Int) else 2).toNat true,rfl,?_,?_⟩⟩
      · refine SqL.of ?_
        rw [zi,List.map_replicate]
      · have := k (upd H2 D (.lst (List.replicate (if ((ms.map V.int).length : Int) > 2 then ((ms.map V.int).length : Int) else 2).toNat (V.bl true))))
        simpa using this
end
theorem all_mk {l : PySem.W.OpenLaw} {w : World} {K : PySem.W.Frag} {h : Heap} {mg : Str -> Option Value} {fa : Addr} (X : K.In h) (G : h.Ns mainGlobals mg) (hfa : mg "law" = some (.ref fa))
    {f0 : Addr} {od0 an0 : Option Addr} {sl0 : Array (Option Value)} {oc0 kV0 dc0 pm0 cd0 ct0 : Value}
    {f1 : Addr} {od1 an1 : Option Addr} {sl1 : Array (Option Value)} {oc1 kV1 dc1 pm1 cd1 ct1 : Value}
    {f2 : Addr} {od2 an2 : Option Addr} {sl2 : Array (Option Value)} {oc2 kV2 dc2 pm2 cd2 ct2 : Value}
    {f3 : Addr} {od3 an3 : Option Addr} {sl3 : Array (Option Value)} {oc3 kV3 dc3 pm3 cd3 ct3 : Value}
    {f4 : Addr} {od4 an4 : Option Addr} {sl4 : Array (Option Value)} {oc4 kV4 dc4 pm4 cd4 ct4 : Value}
    {f5 : Addr} {od5 an5 : Option Addr} {sl5 : Array (Option Value)} {oc5 kV5 dc5 pm5 cd5 ct5 : Value}
    {f6 : Addr} {od6 an6 : Option Addr} {sl6 : Array (Option Value)} {oc6 kV6 dc6 pm6 cd6 ct6 : Value}
    {f7 : Addr} {od7 an7 : Option Addr} {sl7 : Array (Option Value)} {oc7 kV7 dc7 pm7 cd7 ct7 : Value}
    {f8 : Addr} {od8 an8 : Option Addr} {sl8 : Array (Option Value)} {oc8 kV8 dc8 pm8 cd8 ct8 : Value}
    {f9 : Addr} {od9 an9 : Option Addr} {sl9 : Array (Option Value)} {oc9 kV9 dc9 pm9 cd9 ct9 : Value}
    {f10 : Addr} {od10 an10 : Option Addr} {sl10 : Array (Option Value)} {oc10 kV10 dc10 pm10 cd10 ct10 : Value}
    {f11 : Addr} {od11 an11 : Option Addr} {sl11 : Array (Option Value)} {oc11 kV11 dc11 pm11 cd11 ct11 : Value}
    {f12 : Addr} {od12 an12 : Option Addr} {sl12 : Array (Option Value)} {oc12 kV12 dc12 pm12 cd12 ct12 : Value}
    {f13 : Addr} {od13 an13 : Option Addr} {sl13 : Array (Option Value)} {oc13 kV13 dc13 pm13 cd13 ct13 : Value}
    {f14 : Addr} {od14 an14 : Option Addr} {sl14 : Array (Option Value)} {oc14 kV14 dc14 pm14 cd14 ct14 : Value}
    {f15 : Addr} {od15 an15 : Option Addr} {sl15 : Array (Option Value)} {oc15 kV15 dc15 pm15 cd15 ct15 : Value}
    {f16 : Addr} {od16 an16 : Option Addr} {sl16 : Array (Option Value)} {oc16 kV16 dc16 pm16 cd16 ct16 : Value}
    {f17 : Addr} {od17 an17 : Option Addr} {sl17 : Array (Option Value)} {oc17 kV17 dc17 pm17 cd17 ct17 : Value}
    {f18 : Addr} {od18 an18 : Option Addr} {sl18 : Array (Option Value)} {oc18 kV18 dc18 pm18 cd18 ct18 : Value}
    {f19 : Addr} {od19 an19 : Option Addr} {sl19 : Array (Option Value)} {oc19 kV19 dc19 pm19 cd19 ct19 : Value}
    {f20 : Addr} {od20 an20 : Option Addr} {sl20 : Array (Option Value)} {oc20 kV20 dc20 pm20 cd20 ct20 : Value}
    {f21 : Addr} {od21 an21 : Option Addr} {sl21 : Array (Option Value)} {oc21 kV21 dc21 pm21 cd21 ct21 : Value}
    {f22 : Addr} {od22 an22 : Option Addr} {sl22 : Array (Option Value)} {oc22 kV22 dc22 pm22 cd22 ct22 : Value}
    {f23 : Addr} {od23 an23 : Option Addr} {sl23 : Array (Option Value)} {oc23 kV23 dc23 pm23 cd23 ct23 : Value}
    {f24 : Addr} {od24 an24 : Option Addr} {sl24 : Array (Option Value)} {oc24 kV24 dc24 pm24 cd24 ct24 : Value}
    {f25 : Addr} {od25 an25 : Option Addr} {sl25 : Array (Option Value)} {oc25 kV25 dc25 pm25 cd25 ct25 : Value}
    {f26 : Addr} {od26 an26 : Option Addr} {sl26 : Array (Option Value)} {oc26 kV26 dc26 pm26 cd26 ct26 : Value}
    {f27 : Addr} {od27 an27 : Option Addr} {sl27 : Array (Option Value)} {oc27 kV27 dc27 pm27 cd27 ct27 : Value}
    {f28 : Addr} {od28 an28 : Option Addr} {sl28 : Array (Option Value)} {oc28 kV28 dc28 pm28 cd28 ct28 : Value}
    {f29 : Addr} {od29 an29 : Option Addr} {sl29 : Array (Option Value)} {oc29 kV29 dc29 pm29 cd29 ct29 : Value}
    {f30 : Addr} {od30 an30 : Option Addr} {sl30 : Array (Option Value)} {oc30 kV30 dc30 pm30 cd30 ct30 : Value}
    {f31 : Addr} {od31 an31 : Option Addr} {sl31 : Array (Option Value)} {oc31 kV31 dc31 pm31 cd31 ct31 : Value}
    (a0 : PySem.W.nsIn K mainGlobals "is_number" = some (some (.ref f0))) (l0 : K.lookup f0 = some ⟨oc0,od0,.func (PySem.W.fnOf "is_number" "is_number" (zF (zp 1)) (zC (zp 1)) (zo (zp 1)) .none kV0 dc0 pm0 an0 cd0 ct0),sl0⟩) (c0 : PySem.W.codeIn K cd0 "is_number" = true) (k0 : PySem.W.keepIn K (.ref f0) = true)
    (a1 : PySem.W.nsIn K mainGlobals "is_number_within" = some (some (.ref f1))) (l1 : K.lookup f1 = some ⟨oc1,od1,.func (PySem.W.fnOf "is_number_within" "is_number_within" (zF (zp 2)) (zC (zp 2)) (zo (zp 2)) .none kV1 dc1 pm1 an1 cd1 ct1),sl1⟩) (c1 : PySem.W.codeIn K cd1 "is_number_within" = true) (k1 : PySem.W.keepIn K (.ref f1) = true)
    (a2 : PySem.W.nsIn K mainGlobals "is_tuple_of" = some (some (.ref f2))) (l2 : K.lookup f2 = some ⟨oc2,od2,.func (PySem.W.fnOf "is_tuple_of" "is_tuple_of" (zF (zp 4)) (zC (zp 4)) (zo (zp 4)) .none kV2 dc2 pm2 an2 cd2 ct2),sl2⟩) (c2 : PySem.W.codeIn K cd2 "is_tuple_of" = true) (k2 : PySem.W.keepIn K (.ref f2) = true)
    (a3 : PySem.W.nsIn K mainGlobals "width_of" = some (some (.ref f3))) (l3 : K.lookup f3 = some ⟨oc3,od3,.func (PySem.W.fnOf "width_of" "width_of" (zF (zp 6)) (zC (zp 6)) (zo (zp 6)) .none kV3 dc3 pm3 an3 cd3 ct3),sl3⟩) (c3 : PySem.W.codeIn K cd3 "width_of" = true) (k3 : PySem.W.keepIn K (.ref f3) = true)
    (a4 : PySem.W.nsIn K mainGlobals "settled" = some (some (.ref f4))) (l4 : K.lookup f4 = some ⟨oc4,od4,.func (PySem.W.fnOf "settled" "settled" (zF (zp 7)) (zC (zp 7)) (zo (zp 7)) .none kV4 dc4 pm4 an4 cd4 ct4),sl4⟩) (c4 : PySem.W.codeIn K cd4 "settled" = true) (k4 : PySem.W.keepIn K (.ref f4) = true)
    (a5 : PySem.W.nsIn K mainGlobals "holders_with" = some (some (.ref f5))) (l5 : K.lookup f5 = some ⟨oc5,od5,.func (PySem.W.fnOf "holders_with" "holders_with" (zF (zp 8)) (zC (zp 8)) (zo (zp 8)) .none kV5 dc5 pm5 an5 cd5 ct5),sl5⟩) (c5 : PySem.W.codeIn K cd5 "holders_with" = true) (k5 : PySem.W.keepIn K (.ref f5) = true)
    (a6 : PySem.W.nsIn K mainGlobals "all_holders" = some (some (.ref f6))) (l6 : K.lookup f6 = some ⟨oc6,od6,.func (PySem.W.fnOf "all_holders" "all_holders" (zF (zp 9)) (zC (zp 9)) (zo (zp 9)) .none kV6 dc6 pm6 an6 cd6 ct6),sl6⟩) (c6 : PySem.W.codeIn K cd6 "all_holders" = true) (k6 : PySem.W.keepIn K (.ref f6) = true)
    (a7 : PySem.W.nsIn K mainGlobals "columns_by" = some (some (.ref f7))) (l7 : K.lookup f7 = some ⟨oc7,od7,.func (PySem.W.fnOf "columns_by" "columns_by" (zF (zp 10)) (zC (zp 10)) (zo (zp 10)) .none kV7 dc7 pm7 an7 cd7 ct7),sl7⟩) (c7 : PySem.W.codeIn K cd7 "columns_by" = true) (k7 : PySem.W.keepIn K (.ref f7) = true)
    (a8 : PySem.W.nsIn K mainGlobals "sum_at" = some (some (.ref f8))) (l8 : K.lookup f8 = some ⟨oc8,od8,.func (PySem.W.fnOf "sum_at" "sum_at" (zF (zp 11)) (zC (zp 11)) (zo (zp 11)) .none kV8 dc8 pm8 an8 cd8 ct8),sl8⟩) (c8 : PySem.W.codeIn K cd8 "sum_at" = true) (k8 : PySem.W.keepIn K (.ref f8) = true)
    (a9 : PySem.W.nsIn K mainGlobals "matched_slots" = some (some (.ref f9))) (l9 : K.lookup f9 = some ⟨oc9,od9,.func (PySem.W.fnOf "matched_slots" "matched_slots" (zF (zp 12)) (zC (zp 12)) (zo (zp 12)) .none kV9 dc9 pm9 an9 cd9 ct9),sl9⟩) (c9 : PySem.W.codeIn K cd9 "matched_slots" = true) (k9 : PySem.W.keepIn K (.ref f9) = true)
    (a10 : PySem.W.nsIn K mainGlobals "paper_for" = some (some (.ref f10))) (l10 : K.lookup f10 = some ⟨oc10,od10,.func (PySem.W.fnOf "paper_for" "paper_for" (zF (zp 13)) (zC (zp 13)) (zo (zp 13)) .none kV10 dc10 pm10 an10 cd10 ct10),sl10⟩) (c10 : PySem.W.codeIn K cd10 "paper_for" = true) (k10 : PySem.W.keepIn K (.ref f10) = true)
    (a11 : PySem.W.nsIn K mainGlobals "are_numbers" = some (some (.ref f11))) (l11 : K.lookup f11 = some ⟨oc11,od11,.func (PySem.W.fnOf "are_numbers" "are_numbers" (zF (zp 14)) (zC (zp 14)) (zo (zp 14)) .none kV11 dc11 pm11 an11 cd11 ct11),sl11⟩) (c11 : PySem.W.codeIn K cd11 "are_numbers" = true) (k11 : PySem.W.keepIn K (.ref f11) = true)
    (a12 : PySem.W.nsIn K mainGlobals "shows_paper" = some (some (.ref f12))) (l12 : K.lookup f12 = some ⟨oc12,od12,.func (PySem.W.fnOf "shows_paper" "shows_paper" (zF (zp 15)) (zC (zp 15)) (zo (zp 15)) .none kV12 dc12 pm12 an12 cd12 ct12),sl12⟩) (c12 : PySem.W.codeIn K cd12 "shows_paper" = true) (k12 : PySem.W.keepIn K (.ref f12) = true)
    (a13 : PySem.W.nsIn K mainGlobals "are_columns" = some (some (.ref f13))) (l13 : K.lookup f13 = some ⟨oc13,od13,.func (PySem.W.fnOf "are_columns" "are_columns" (zF (zp 16)) (zC (zp 16)) (zo (zp 16)) .none kV13 dc13 pm13 an13 cd13 ct13),sl13⟩) (c13 : PySem.W.codeIn K cd13 "are_columns" = true) (k13 : PySem.W.keepIn K (.ref f13) = true)
    (a14 : PySem.W.nsIn K mainGlobals "shows_matched" = some (some (.ref f14))) (l14 : K.lookup f14 = some ⟨oc14,od14,.func (PySem.W.fnOf "shows_matched" "shows_matched" (zF (zp 17)) (zC (zp 17)) (zo (zp 17)) .none kV14 dc14 pm14 an14 cd14 ct14),sl14⟩) (c14 : PySem.W.codeIn K cd14 "shows_matched" = true) (k14 : PySem.W.keepIn K (.ref f14) = true)
    (a15 : PySem.W.nsIn K mainGlobals "_law_box" = some (some (.ref f15))) (l15 : K.lookup f15 = some ⟨oc15,od15,.func (PySem.W.fnOf "_law_box" "_law_box" (zF (zp 19)) (zC (zp 19)) (zo (zp 19)) .none kV15 dc15 pm15 an15 cd15 ct15),sl15⟩) (c15 : PySem.W.codeIn K cd15 "_law_box" = true) (k15 : PySem.W.keepIn K (.ref f15) = true)
    (a16 : PySem.W.nsIn K mainGlobals "_law_take" = some (some (.ref f16))) (l16 : K.lookup f16 = some ⟨oc16,od16,.func (PySem.W.fnOf "_law_take" "_law_take" (zF (zp 20)) (zC (zp 20)) (zo (zp 20)) .none kV16 dc16 pm16 an16 cd16 ct16),sl16⟩) (c16 : PySem.W.codeIn K cd16 "_law_take" = true) (k16 : PySem.W.keepIn K (.ref f16) = true)
    (a17 : PySem.W.nsIn K mainGlobals "_law_folded" = some (some (.ref f17))) (l17 : K.lookup f17 = some ⟨oc17,od17,.func (PySem.W.fnOf "_law_folded" "_law_folded" (zF (zp 21)) (zC (zp 21)) (zo (zp 21)) .none kV17 dc17 pm17 an17 cd17 ct17),sl17⟩) (c17 : PySem.W.codeIn K cd17 "_law_folded" = true) (k17 : PySem.W.keepIn K (.ref f17) = true)
    (a18 : PySem.W.nsIn K mainGlobals "_law_same" = some (some (.ref f18))) (l18 : K.lookup f18 = some ⟨oc18,od18,.func (PySem.W.fnOf "_law_same" "_law_same" (zF (zp 22)) (zC (zp 22)) (zo (zp 22)) .none kV18 dc18 pm18 an18 cd18 ct18),sl18⟩) (c18 : PySem.W.codeIn K cd18 "_law_same" = true) (k18 : PySem.W.keepIn K (.ref f18) = true)
    (a19 : PySem.W.nsIn K mainGlobals "_law_shuffled" = some (some (.ref f19))) (l19 : K.lookup f19 = some ⟨oc19,od19,.func (PySem.W.fnOf "_law_shuffled" "_law_shuffled" (zF (zp 23)) (zC (zp 23)) (zo (zp 23)) .none kV19 dc19 pm19 an19 cd19 ct19),sl19⟩) (c19 : PySem.W.codeIn K cd19 "_law_shuffled" = true) (k19 : PySem.W.keepIn K (.ref f19) = true)
    (a20 : PySem.W.nsIn K mainGlobals "_law_costs" = some (some (.ref f20))) (l20 : K.lookup f20 = some ⟨oc20,od20,.func (PySem.W.fnOf "_law_costs" "_law_costs" (zF (zp 24)) (zC (zp 24)) (zo (zp 24)) .none kV20 dc20 pm20 an20 cd20 ct20),sl20⟩) (c20 : PySem.W.codeIn K cd20 "_law_costs" = true) (k20 : PySem.W.keepIn K (.ref f20) = true)
    (a21 : PySem.W.nsIn K mainGlobals "_law_is_number" = some (some (.ref f21))) (l21 : K.lookup f21 = some ⟨oc21,od21,.func (PySem.W.fnOf "_law_is_number" "_law_is_number" (zF (zp 25)) (zC (zp 25)) (zo (zp 25)) .none kV21 dc21 pm21 an21 cd21 ct21),sl21⟩) (c21 : PySem.W.codeIn K cd21 "_law_is_number" = true) (k21 : PySem.W.keepIn K (.ref f21) = true)
    (a22 : PySem.W.nsIn K mainGlobals "_law_are_numbers" = some (some (.ref f22))) (l22 : K.lookup f22 = some ⟨oc22,od22,.func (PySem.W.fnOf "_law_are_numbers" "_law_are_numbers" (zF (zp 26)) (zC (zp 26)) (zo (zp 26)) .none kV22 dc22 pm22 an22 cd22 ct22),sl22⟩) (c22 : PySem.W.codeIn K cd22 "_law_are_numbers" = true) (k22 : PySem.W.keepIn K (.ref f22) = true)
    (a23 : PySem.W.nsIn K mainGlobals "_law_is_paper" = some (some (.ref f23))) (l23 : K.lookup f23 = some ⟨oc23,od23,.func (PySem.W.fnOf "_law_is_paper" "_law_is_paper" (zF (zp 27)) (zC (zp 27)) (zo (zp 27)) .none kV23 dc23 pm23 an23 cd23 ct23),sl23⟩) (c23 : PySem.W.codeIn K cd23 "_law_is_paper" = true) (k23 : PySem.W.keepIn K (.ref f23) = true)
    (a24 : PySem.W.nsIn K mainGlobals "_law_odd" = some (some (.ref f24))) (l24 : K.lookup f24 = some ⟨oc24,od24,.func (PySem.W.fnOf "_law_odd" "_law_odd" (zF (zp 28)) (zC (zp 28)) (zo (zp 28)) .none kV24 dc24 pm24 an24 cd24 ct24),sl24⟩) (c24 : PySem.W.codeIn K cd24 "_law_odd" = true) (k24 : PySem.W.keepIn K (.ref f24) = true)
    (a25 : PySem.W.nsIn K mainGlobals "_law_other_row" = some (some (.ref f25))) (l25 : K.lookup f25 = some ⟨oc25,od25,.func (PySem.W.fnOf "_law_other_row" "_law_other_row" (zF (zp 29)) (zC (zp 29)) (zo (zp 29)) .none kV25 dc25 pm25 an25 cd25 ct25),sl25⟩) (c25 : PySem.W.codeIn K cd25 "_law_other_row" = true) (k25 : PySem.W.keepIn K (.ref f25) = true)
    (a26 : PySem.W.nsIn K mainGlobals "_law_instead" = some (some (.ref f26))) (l26 : K.lookup f26 = some ⟨oc26,od26,.func (PySem.W.fnOf "_law_instead" "_law_instead" (zF (zp 30)) (zC (zp 30)) (zo (zp 30)) .none kV26 dc26 pm26 an26 cd26 ct26),sl26⟩) (c26 : PySem.W.codeIn K cd26 "_law_instead" = true) (k26 : PySem.W.keepIn K (.ref f26) = true)
    (a27 : PySem.W.nsIn K mainGlobals "_law_spoilt" = some (some (.ref f27))) (l27 : K.lookup f27 = some ⟨oc27,od27,.func (PySem.W.fnOf "_law_spoilt" "_law_spoilt" (zF (zp 31)) (zC (zp 31)) (zo (zp 31)) .none kV27 dc27 pm27 an27 cd27 ct27),sl27⟩) (c27 : PySem.W.codeIn K cd27 "_law_spoilt" = true) (k27 : PySem.W.keepIn K (.ref f27) = true)
    (a28 : PySem.W.nsIn K mainGlobals "_law_is_matched" = some (some (.ref f28))) (l28 : K.lookup f28 = some ⟨oc28,od28,.func (PySem.W.fnOf "_law_is_matched" "_law_is_matched" (zF (zp 32)) (zC (zp 32)) (zo (zp 32)) .none kV28 dc28 pm28 an28 cd28 ct28),sl28⟩) (c28 : PySem.W.codeIn K cd28 "_law_is_matched" = true) (k28 : PySem.W.keepIn K (.ref f28) = true)
    (a29 : PySem.W.nsIn K mainGlobals "_law_columns" = some (some (.ref f29))) (l29 : K.lookup f29 = some ⟨oc29,od29,.func (PySem.W.fnOf "_law_columns" "_law_columns" (zF (zp 33)) (zC (zp 33)) (zo (zp 33)) .none kV29 dc29 pm29 an29 cd29 ct29),sl29⟩) (c29 : PySem.W.codeIn K cd29 "_law_columns" = true) (k29 : PySem.W.keepIn K (.ref f29) = true)
    (a30 : PySem.W.nsIn K mainGlobals "_law_right" = some (some (.ref f30))) (l30 : K.lookup f30 = some ⟨oc30,od30,.func (PySem.W.fnOf "_law_right" "_law_right" (zF (zp 34)) (zC (zp 34)) (zo (zp 34)) .none kV30 dc30 pm30 an30 cd30 ct30),sl30⟩) (c30 : PySem.W.codeIn K cd30 "_law_right" = true) (k30 : PySem.W.keepIn K (.ref f30) = true)
    (a31 : PySem.W.nsIn K mainGlobals "law" = some (some (.ref f31))) (l31 : K.lookup f31 = some ⟨oc31,od31,.func (PySem.W.fnOf "law" "law" (zF (zp 35)) (zC (zp 35)) (zo (zp 35)) .none kV31 dc31 pm31 an31 cd31 ct31),sl31⟩) (c31 : PySem.W.codeIn K cd31 "law" = true) (k31 : PySem.W.keepIn K (.ref f31) = true)
    (z_abs : PySem.W.nsIn K mainGlobals "abs" = some none)
    (z_all : PySem.W.nsIn K mainGlobals "all" = some none)
    (z_divmod : PySem.W.nsIn K mainGlobals "divmod" = some none)
    (z_enumerate : PySem.W.nsIn K mainGlobals "enumerate" = some none)
    (z_int : PySem.W.nsIn K mainGlobals "int" = some none)
    (z_isinstance : PySem.W.nsIn K mainGlobals "isinstance" = some none)
    (z_len : PySem.W.nsIn K mainGlobals "len" = some none)
    (z_list : PySem.W.nsIn K mainGlobals "list" = some none)
    (z_max : PySem.W.nsIn K mainGlobals "max" = some none)
    (z_min : PySem.W.nsIn K mainGlobals "min" = some none)
    (z_range : PySem.W.nsIn K mainGlobals "range" = some none)
    (z_str : PySem.W.nsIn K mainGlobals "str" = some none)
    (z_tuple : PySem.W.nsIn K mainGlobals "tuple" = some none)
    (z_bool : PySem.W.nsIn K mainGlobals "bool" = some none)
    (z_zip : PySem.W.nsIn K mainGlobals "zip" = some none)
    (z_sum : PySem.W.nsIn K mainGlobals "sum" = some none)
    (z_any : PySem.W.nsIn K mainGlobals "any" = some none)
    (z_repr : PySem.W.nsIn K mainGlobals "repr" = some none)
    (z_sorted : PySem.W.nsIn K mainGlobals "sorted" = some none)
    (z_dict : PySem.W.nsIn K mainGlobals "dict" = some none)
    (z_set : PySem.W.nsIn K mainGlobals "set" = some none)
    : ∃ fd : FuncData,(∀ (s : Shared) (v : Value),BindsTo s fd ⟨[v],[]⟩ [("_law_script",v)]) /\ ∀ base : Heap,K.In base -> base.Ns mainGlobals mg -> FnOk l.prog w K mg base CX0 17 fa fd ["_law_script"] (Qe K) := by
  have e := hfa.symm.trans (PySem.W.mg_of X G a31)
  cases e
  have B : Blt mg := ⟨PySem.W.mg_none_of X G z_abs,PySem.W.mg_none_of X G z_all,PySem.W.mg_none_of X G z_divmod,PySem.W.mg_none_of X G z_enumerate,PySem.W.mg_none_of X G z_int,PySem.W.mg_none_of X G z_isinstance,PySem.W.mg_none_of X G z_len,PySem.W.mg_none_of X G z_list,PySem.W.mg_none_of X G z_max,PySem.W.mg_none_of X G z_min,PySem.W.mg_none_of X G z_range,PySem.W.mg_none_of X G z_str,PySem.W.mg_none_of X G z_tuple,PySem.W.mg_none_of X G z_bool,PySem.W.mg_none_of X G z_zip,PySem.W.mg_none_of X G z_sum,PySem.W.mg_none_of X G z_any,PySem.W.mg_none_of X G z_repr,PySem.W.mg_none_of X G z_sorted,PySem.W.mg_none_of X G z_dict,PySem.W.mg_none_of X G z_set⟩
  have F0 := zP (st := zp 1) l0 c0 k0
  have b0 := F0.binds (ps := ["thing"]) fun _ _ _ _ _ _ us hl => match us,hl with | [_],_ => rfl
  have F1 := zP (st := zp 2) l1 c1 k1
  have b1 := F1.binds (ps := ["thing", "least", "most"]) fun _ _ _ _ _ _ us hl => match us,hl with | [_,_,_],_ => rfl
  have F2 := zP (st := zp 4) l2 c2 k2
  have b2 := F2.binds (ps := ["thing", "many"]) fun _ _ _ _ _ _ us hl => match us,hl with | [_,_],_ => rfl
  have F3 := zP (st := zp 6) l3 c3 k3
  have b3 := F3.binds (ps := ["costs"]) fun _ _ _ _ _ _ us hl => match us,hl with | [_],_ => rfl
  have F4 := zP (st := zp 7) l4 c4 k4
  have b4 := F4.binds (ps := ["costs", "holders", "walks"]) fun _ _ _ _ _ _ us hl => match us,hl with | [_,_,_],_ => rfl
  have F5 := zP (st := zp 8) l5 c5 k5
  have b5 := F5.binds (ps := ["costs", "holders", "row"]) fun _ _ _ _ _ _ us hl => match us,hl with | [_,_,_],_ => rfl
  have F6 := zP (st := zp 9) l6 c6 k6
  have b6 := F6.binds (ps := ["costs"]) fun _ _ _ _ _ _ us hl => match us,hl with | [_],_ => rfl
  have F7 := zP (st := zp 10) l7 c7 k7
  have b7 := F7.binds (ps := ["holders"]) fun _ _ _ _ _ _ us hl => match us,hl with | [_],_ => rfl
  have F8 := zP (st := zp 11) l8 c8 k8
  have b8 := F8.binds (ps := ["costs", "columns"]) fun _ _ _ _ _ _ us hl => match us,hl with | [_,_],_ => rfl
  have F9 := zP (st := zp 12) l9 c9 k9
  have b9 := F9.binds (ps := ["costs"]) fun _ _ _ _ _ _ us hl => match us,hl with | [_],_ => rfl
  have F10 := zP (st := zp 13) l10 c10 k10
  have b10 := F10.binds (ps := ["costs"]) fun _ _ _ _ _ _ us hl => match us,hl with | [_],_ => rfl
  have F11 := zP (st := zp 14) l11 c11 k11
  have b11 := F11.binds (ps := ["thing", "many"]) fun _ _ _ _ _ _ us hl => match us,hl with | [_,_],_ => rfl
  have F12 := zP (st := zp 15) l12 c12 k12
  have b12 := F12.binds (ps := ["costs", "thing"]) fun _ _ _ _ _ _ us hl => match us,hl with | [_,_],_ => rfl
  have F13 := zP (st := zp 16) l13 c13 k13
  have b13 := F13.binds (ps := ["costs", "thing"]) fun _ _ _ _ _ _ us hl => match us,hl with | [_,_],_ => rfl
  have F14 := zP (st := zp 17) l14 c14 k14
  have b14 := F14.binds (ps := ["costs", "columns", "thing"]) fun _ _ _ _ _ _ us hl => match us,hl with | [_,_,_],_ => rfl
  have F15 := zP (st := zp 19) l15 c15 k15
  have b15 := F15.binds (ps := ["_law_script", "_law_k"]) fun _ _ _ _ _ _ us hl => match us,hl with | [_,_],_ => rfl
  have F16 := zP (st := zp 20) l16 c16 k16
  have b16 := F16.binds (ps := ["_law_box_here", "_law_size"]) fun _ _ _ _ _ _ us hl => match us,hl with | [_,_],_ => rfl
  have F17 := zP (st := zp 21) l17 c17 k17
  have b17 := F17.binds (ps := ["_law_script", "_law_size"]) fun _ _ _ _ _ _ us hl => match us,hl with | [_,_],_ => rfl
  have F18 := zP (st := zp 22) l18 c18 k18
  have b18 := F18.binds (ps := ["_law_found", "_law_due"]) fun _ _ _ _ _ _ us hl => match us,hl with | [_,_],_ => rfl
  have F19 := zP (st := zp 23) l19 c19 k19
  have b19 := F19.binds (ps := ["_law_box_here", "_law_some"]) fun _ _ _ _ _ _ us hl => match us,hl with | [_,_],_ => rfl
  have F20 := zP (st := zp 24) l20 c20 k20
  have b20 := F20.binds (ps := ["_law_box_here"]) fun _ _ _ _ _ _ us hl => match us,hl with | [_],_ => rfl
  have F21 := zP (st := zp 25) l21 c21 k21
  have b21 := F21.binds (ps := ["_law_thing"]) fun _ _ _ _ _ _ us hl => match us,hl with | [_],_ => rfl
  have F22 := zP (st := zp 26) l22 c22 k22
  have b22 := F22.binds (ps := ["_law_thing", "_law_many"]) fun _ _ _ _ _ _ us hl => match us,hl with | [_,_],_ => rfl
  have F23 := zP (st := zp 27) l23 c23 k23
  have b23 := F23.binds (ps := ["_law_costs_here", "_law_thing"]) fun _ _ _ _ _ _ us hl => match us,hl with | [_,_],_ => rfl
  have F24 := zP (st := zp 28) l24 c24 k24
  have b24 := F24.binds (ps := ["_law_box_here"]) fun _ _ _ _ _ _ us hl => match us,hl with | [_],_ => rfl
  have F25 := zP (st := zp 29) l25 c25 k25
  have b25 := F25.binds (ps := ["_law_box_here", "_law_thing"]) fun _ _ _ _ _ _ us hl => match us,hl with | [_,_],_ => rfl
  have F26 := zP (st := zp 30) l26 c26 k26
  have b26 := F26.binds (ps := ["_law_box_here", "_law_thing"]) fun _ _ _ _ _ _ us hl => match us,hl with | [_,_],_ => rfl
  have F27 := zP (st := zp 31) l27 c27 k27
  have b27 := F27.binds (ps := ["_law_box_here", "_law_thing"]) fun _ _ _ _ _ _ us hl => match us,hl with | [_,_],_ => rfl
  have F28 := zP (st := zp 32) l28 c28 k28
  have b28 := F28.binds (ps := ["_law_costs_here", "_law_columns_here", "_law_thing"]) fun _ _ _ _ _ _ us hl => match us,hl with | [_,_,_],_ => rfl
  have F29 := zP (st := zp 33) l29 c29 k29
  have b29 := F29.binds (ps := ["_law_box_here", "_law_costs_here"]) fun _ _ _ _ _ _ us hl => match us,hl with | [_,_],_ => rfl
  have F30 := zP (st := zp 34) l30 c30 k30
  have b30 := F30.binds (ps := ["_law_box_here"]) fun _ _ _ _ _ _ us hl => match us,hl with | [_],_ => rfl
  have F31 := zP (st := zp 35) l31 c31 k31
  refine ⟨PySem.W.fnOf "law" "law" (zF (zp 35)) (zC (zp 35)) (zo (zp 35)) .none kV31 dc31 pm31 an31 cd31 ct31,fun s v => .of_eq rfl,fun base _ _ => ?_⟩
  have D_is_number : Dfn l.prog w K mg base "is_number" 1 ["thing"] (xN K) := ⟨_,_,WM F0 B,PySem.W.mg_of X G a0,k0,b0⟩
  have D_is_number_within : Dfn l.prog w K mg base "is_number_within" 2 ["thing", "least", "most"] (ZE K) := ⟨_,_,YF F1 B D_is_number,PySem.W.mg_of X G a1,k1,b1⟩
  have D_is_tuple_of : Dfn l.prog w K mg base "is_tuple_of" 1 ["thing", "many"] (JN K) := ⟨_,_,YH F2 B,PySem.W.mg_of X G a2,k2,b2⟩
  have D_width_of : Dfn l.prog w K mg base "width_of" 1 ["costs"] (JM) := ⟨_,_,YG F3 B,PySem.W.mg_of X G a3,k3,b3⟩
  have D_settled : Dfn l.prog w K mg base "settled" 1 ["costs", "holders", "walks"] (Qa) := ⟨_,_,WI F4 B,PySem.W.mg_of X G a4,k4,b4⟩
  have D_holders_with : Dfn l.prog w K mg base "holders_with" 2 ["costs", "holders", "row"] (Ws) := ⟨_,_,YM F5 B D_settled,PySem.W.mg_of X G a5,k5,b5⟩
  have D_all_holders : Dfn l.prog w K mg base "all_holders" 3 ["costs"] (Vc) := ⟨_,_,YR F6 B D_holders_with,PySem.W.mg_of X G a6,k6,b6⟩
  have D_columns_by : Dfn l.prog w K mg base "columns_by" 1 ["holders"] (Vb) := ⟨_,_,YO F7 B,PySem.W.mg_of X G a7,k7,b7⟩
  have D_sum_at : Dfn l.prog w K mg base "sum_at" 1 ["costs", "columns"] (Z6 K) := ⟨_,_,WF F8 B,PySem.W.mg_of X G a8,k8,b8⟩
  have D_matched_slots : Dfn l.prog w K mg base "matched_slots" 4 ["costs"] (Wr) := ⟨_,_,YK F9 B D_all_holders D_columns_by D_sum_at,PySem.W.mg_of X G a9,k9,b9⟩
  have D_paper_for : Dfn l.prog w K mg base "paper_for" 4 ["costs"] (Wq) := ⟨_,_,YJ F10 B D_all_holders D_settled D_width_of D_columns_by,PySem.W.mg_of X G a10,k10,b10⟩
  have D_are_numbers : Dfn l.prog w K mg base "are_numbers" 2 ["thing", "many"] (j7 K) := ⟨_,_,WP F11 B D_is_number,PySem.W.mg_of X G a11,k11,b11⟩
  have D_shows_paper : Dfn l.prog w K mg base "shows_paper" 3 ["costs", "thing"] (wz K) := ⟨_,_,WG F12 B D_is_tuple_of D_are_numbers D_width_of,PySem.W.mg_of X G a12,k12,b12⟩
  have D_are_columns : Dfn l.prog w K mg base "are_columns" 3 ["costs", "thing"] (ZI K) := ⟨_,_,Vv F13 B D_is_number_within D_width_of,PySem.W.mg_of X G a13,k13,b13⟩
  have D_shows_matched : Dfn l.prog w K mg base "shows_matched" 4 ["costs", "columns", "thing"] (wA K) := ⟨_,_,WH F14 B D_are_columns D_shows_paper D_sum_at,PySem.W.mg_of X G a14,k14,b14⟩
  have D_law_box : Dfn l.prog w K mg base "_law_box" 1 ["_law_script", "_law_k"] (JU K) := ⟨_,_,WO F15 B,PySem.W.mg_of X G a15,k15,b15⟩
  have D_law_take : Dfn l.prog w K mg base "_law_take" 1 ["_law_box_here", "_law_size"] (je) := ⟨_,_,Vr F16 B,PySem.W.mg_of X G a16,k16,b16⟩
  have D_law_folded : Dfn l.prog w K mg base "_law_folded" 1 ["_law_script", "_law_size"] (ZG K) := ⟨_,_,Vt F17 B,PySem.W.mg_of X G a17,k17,b17⟩
  have D_law_same : Dfn l.prog w K mg base "_law_same" 1 ["_law_found", "_law_due"] (spS K 1) := ⟨_,_,Qq F18 B (PySem.W.mg_of X G a18) b18 1,PySem.W.mg_of X G a18,k18,b18⟩
  have D_law_shuffled : Dfn l.prog w K mg base "_law_shuffled" 2 ["_law_box_here", "_law_some"] (ZF K) := ⟨_,_,Vs F19 B D_law_take,PySem.W.mg_of X G a19,k19,b19⟩
  have D_law_costs : Dfn l.prog w K mg base "_law_costs" 2 ["_law_box_here"] (Wt) := ⟨_,_,YN F20 B D_law_take,PySem.W.mg_of X G a20,k20,b20⟩
  have D_law_is_number : Dfn l.prog w K mg base "_law_is_number" 1 ["_law_thing"] (xN K) := ⟨_,_,YL F21 B,PySem.W.mg_of X G a21,k21,b21⟩
  have D_law_are_numbers : Dfn l.prog w K mg base "_law_are_numbers" 2 ["_law_thing", "_law_many"] (j7 K) := ⟨_,_,YQ F22 B D_law_is_number,PySem.W.mg_of X G a22,k22,b22⟩
  have D_law_is_paper : Dfn l.prog w K mg base "_law_is_paper" 3 ["_law_costs_here", "_law_thing"] (wz K) := ⟨_,_,WL F23 B D_law_are_numbers,PySem.W.mg_of X G a23,k23,b23⟩
  have D_law_odd : Dfn l.prog w K mg base "_law_odd" 2 ["_law_box_here"] (yJ K) := ⟨_,_,WJ F24 B D_law_take,PySem.W.mg_of X G a24,k24,b24⟩
  have D_law_other_row : Dfn l.prog w K mg base "_law_other_row" 3 ["_law_box_here", "_law_thing"] (wW K) := ⟨_,_,Xo F25 B D_law_take D_law_odd,PySem.W.mg_of X G a25,k25,b25⟩
  have D_law_instead : Dfn l.prog w K mg base "_law_instead" 4 ["_law_box_here", "_law_thing"] (vg K) := ⟨_,_,Xp F26 B D_law_take D_law_odd D_law_other_row D_law_is_number,PySem.W.mg_of X G a26,k26,b26⟩
  have D_law_spoilt : Dfn l.prog w K mg base "_law_spoilt" 15 ["_law_box_here", "_law_thing"] (jE K 10) := ⟨_,_,wF F27 B (PySem.W.mg_of X G a27) b27 D_law_take D_law_instead (10),PySem.W.mg_of X G a27,k27,b27⟩
  have D_law_is_matched : Dfn l.prog w K mg base "_law_is_matched" 4 ["_law_costs_here", "_law_columns_here", "_law_thing"] (wA K) := ⟨_,_,WN F28 B D_law_are_numbers D_law_is_paper,PySem.W.mg_of X G a28,k28,b28⟩
  have D_law_columns : Dfn l.prog w K mg base "_law_columns" 5 ["_law_box_here", "_law_costs_here"] (ZH K) := ⟨_,_,Vu F29 B D_law_take D_matched_slots D_law_shuffled,PySem.W.mg_of X G a29,k29,b29⟩
  have D_law_right : Dfn l.prog w K mg base "_law_right" 16 ["_law_box_here"] (Wp) := ⟨_,_,YI F30 B D_law_take D_law_costs D_paper_for D_law_columns D_law_spoilt D_law_same D_shows_matched D_law_is_matched,PySem.W.mg_of X G a30,k30,b30⟩
  exact WK F31 B D_law_folded D_law_box D_law_right
theorem walk {l : PySem.W.OpenLaw} {q : Program} {loose : List Str} {XP : (Str -> Option Value) -> Heap -> Prop} {YP : World -> Heap -> Prop} {d : DefRec} {K : Params -> PySem.W.Frag} (hn : l.most = some 63) (hdf : d.params.defaults = [])
    (hY : ∀ (w : World) (h : Heap),YP w h -> (K w.params).In h)
    (F : ∀ (w : World) (mg : Str -> Option Value) (fa : Addr) (h : Heap),(K w.params).In h -> h.Ns mainGlobals mg -> mg d.name = some (.ref fa) ->
      ∃ fd : FuncData,(∀ (s : Shared) (u : Value),BindsTo s fd ⟨[u],[]⟩ [("_law_script",u)]) /\ ∀ base : Heap,(K w.params).In base -> base.Ns mainGlobals mg -> FnOk l.prog w (K w.params) mg base CX0 17 fa fd ["_law_script"] (Qe (K w.params))) :
    PySem.W.WalkO q loose XP YP l.row.toRowW d [] (fun f vs => PySem.call f vs) :=
  L2.walk_of (n := 63) (k := 17) (x := "_law_script") (CX := fun _ => CX0) (sp := fun w => Qe (K w.params)) hn (by decide) hdf ⟨rfl,by decide,by decide,rfl⟩ hY F (fun _ _ a ns hl _ hS => ⟨a,ns,rfl,hS,hl,fun _ => rfl⟩) fun _ _ _ _ _ z => z
end L2
open PySem PySem.W PyProof.Rows
set_option maxRecDepth 100000 in
set_option maxHeartbeats 0 in
theorem PySem.Challenge.cw_pickboard_k34_matchings_spoilt_anywhere_holds : PySem.Challenge.rw_pickboard_k34_matchings_spoilt_anywhere.Holds := by
  w_on;o_law;k_head;(case hw => w_witness2)
  k_fill
  refine L2.walk (l := PySem.Challenge.rw_pickboard_k34_matchings_spoilt_anywhere) rfl rfl (fun w h Y => PySem.W.kIn_of Y) ?F
  case F =>
    intro w mg fa h KX G hmg
    refine' L2.all_mk KX G hmg ?a0 ?l0 ?c0 ?k0 ?a1 ?l1 ?c1 ?k1 ?a2 ?l2 ?c2 ?k2 ?a3 ?l3 ?c3 ?k3 ?a4 ?l4 ?c4 ?k4 ?a5 ?l5 ?c5 ?k5 ?a6 ?l6 ?c6 ?k6 ?a7 ?l7 ?c7 ?k7 ?a8 ?l8 ?c8 ?k8 ?a9 ?l9 ?c9 ?k9 ?a10 ?l10 ?c10 ?k10 ?a11 ?l11 ?c11 ?k11 ?a12 ?l12 ?c12 ?k12 ?a13 ?l13 ?c13 ?k13 ?a14 ?l14 ?c14 ?k14 ?a15 ?l15 ?c15 ?k15 ?a16 ?l16 ?c16 ?k16 ?a17 ?l17 ?c17 ?k17 ?a18 ?l18 ?c18 ?k18 ?a19 ?l19 ?c19 ?k19 ?a20 ?l20 ?c20 ?k20 ?a21 ?l21 ?c21 ?k21 ?a22 ?l22 ?c22 ?k22 ?a23 ?l23 ?c23 ?k23 ?a24 ?l24 ?c24 ?k24 ?a25 ?l25 ?c25 ?k25 ?a26 ?l26 ?c26 ?k26 ?a27 ?l27 ?c27 ?k27 ?a28 ?l28 ?c28 ?k28 ?a29 ?l29 ?c29 ?k29 ?a30 ?l30 ?c30 ?k30 ?a31 ?l31 ?c31 ?k31 ?z_abs ?z_all ?z_divmod ?z_enumerate ?z_int ?z_isinstance ?z_len ?z_list ?z_max ?z_min ?z_range ?z_str ?z_tuple ?z_bool ?z_zip ?z_sum ?z_any ?z_repr ?z_sorted ?z_dict ?z_set
    (case a0 => k_is)
    (case l0 => k_is)
    (case c0 => k_is)
    (case k0 => k_is)
    (case a1 => k_is)
    (case l1 => k_is)
    (case c1 => k_is)
    (case k1 => k_is)
    (case a2 => k_is)
    (case l2 => k_is)
    (case c2 => k_is)
    (case k2 => k_is)
    (case a3 => k_is)
    (case l3 => k_is)
    (case c3 => k_is)
    (case k3 => k_is)
    (case a4 => k_is)
    (case l4 => k_is)
    (case c4 => k_is)
    (case k4 => k_is)
    (case a5 => k_is)
    (case l5 => k_is)
    (case c5 => k_is)
    (case k5 => k_is)
    (case a6 => k_is)
    (case l6 => k_is)
    (case c6 => k_is)
    (case k6 => k_is)
    (case a7 => k_is)
    (case l7 => k_is)
    (case c7 => k_is)
    (case k7 => k_is)
    (case a8 => k_is)
    (case l8 => k_is)
    (case c8 => k_is)
    (case k8 => k_is)
    (case a9 => k_is)
    (case l9 => k_is)
    (case c9 => k_is)
    (case k9 => k_is)
    (case a10 => k_is)
    (case l10 => k_is)
    (case c10 => k_is)
    (case k10 => k_is)
    (case a11 => k_is)
    (case l11 => k_is)
    (case c11 => k_is)
    (case k11 => k_is)
    (case a12 => k_is)
    (case l12 => k_is)
    (case c12 => k_is)
    (case k12 => k_is)
    (case a13 => k_is)
    (case l13 => k_is)
    (case c13 => k_is)
    (case k13 => k_is)
    (case a14 => k_is)
    (case l14 => k_is)
    (case c14 => k_is)
    (case k14 => k_is)
    (case a15 => k_is)
    (case l15 => k_is)
    (case c15 => k_is)
    (case k15 => k_is)
    (case a16 => k_is)
    (case l16 => k_is)
    (case c16 => k_is)
    (case k16 => k_is)
    (case a17 => k_is)
    (case l17 => k_is)
    (case c17 => k_is)
    (case k17 => k_is)
    (case a18 => k_is)
    (case l18 => k_is)
    (case c18 => k_is)
    (case k18 => k_is)
    (case a19 => k_is)
    (case l19 => k_is)
    (case c19 => k_is)
    (case k19 => k_is)
    (case a20 => k_is)
    (case l20 => k_is)
    (case c20 => k_is)
    (case k20 => k_is)
    (case a21 => k_is)
    (case l21 => k_is)
    (case c21 => k_is)
    (case k21 => k_is)
    (case a22 => k_is)
    (case l22 => k_is)
    (case c22 => k_is)
    (case k22 => k_is)
    (case a23 => k_is)
    (case l23 => k_is)
    (case c23 => k_is)
    (case k23 => k_is)
    (case a24 => k_is)
    (case l24 => k_is)
    (case c24 => k_is)
    (case k24 => k_is)
    (case a25 => k_is)
    (case l25 => k_is)
    (case c25 => k_is)
    (case k25 => k_is)
    (case a26 => k_is)
    (case l26 => k_is)
    (case c26 => k_is)
    (case k26 => k_is)
    (case a27 => k_is)
    (case l27 => k_is)
    (case c27 => k_is)
    (case k27 => k_is)
    (case a28 => k_is)
    (case l28 => k_is)
    (case c28 => k_is)
    (case k28 => k_is)
    (case a29 => k_is)
    (case l29 => k_is)
    (case c29 => k_is)
    (case k29 => k_is)
    (case a30 => k_is)
    (case l30 => k_is)
    (case c30 => k_is)
    (case k30 => k_is)
    (case a31 => k_is)
    (case l31 => k_is)
    (case c31 => k_is)
    (case k31 => k_is)
    (case z_abs => k_is)
    (case z_all => k_is)
    (case z_divmod => k_is)
    (case z_enumerate => k_is)
    (case z_int => k_is)
    (case z_isinstance => k_is)
    (case z_len => k_is)
    (case z_list => k_is)
    (case z_max => k_is)
    (case z_min => k_is)
    (case z_range => k_is)
    (case z_str => k_is)
    (case z_tuple => k_is)
    (case z_bool => k_is)
    (case z_zip => k_is)
    (case z_sum => k_is)
    (case z_any => k_is)
    (case z_repr => k_is)
    (case z_sorted => k_is)
    (case z_dict => k_is)
    (case z_set => k_is)
