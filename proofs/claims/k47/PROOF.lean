import PyProof.Rows.All
import Wide.All
import OpenK.AllK
import Wide.FinOn
import Lean
import PyProof.EqAt
import PyProof.EqKinds
import PyProof.TupleCall
import PyProof.NeKinds
import PyProof.ReprRoads
import PyProof.ReprBulk
import PyProof.SumWalk
import PyProof.FString5
import PyProof.StrBlock2
import PyProof.StrBlockI
import PyProof.StrBlockH
import PyProof.StrWalks
import PyProof.StrLawsIn
import PyProof.AutoListH
import PyProof.CompUse
import PyProof.ListRange
import PyProof.CallFns
import PyProof.ListTruth
import PyProof.Ascii
import PySem.Challenge.RW_pickboard_k47_tracks_of_plans_or_none
set_option Elab.async false
set_option linter.all false
set_option maxRecDepth 100000
namespace L2
open PySem PySem.Spec PyProof.Rows
abbrev Key := Sum Int Str
def VA : Key -> Value -> Bool
  | .inl k,v => Value.isInt k v
  | .inr x,v => Value.isStrOf x v
def Yd (w : World) : Key -> Int
  | .inl k => hashInt k
  | .inr x => hashStr w x
theorem qu : ∀ {k : Key} {v : Value},VA k v = true -> (∃ i t,k = Sum.inl i /\ v = Value.int i t) \/ (∃ x t,k = Sum.inr x /\ v = Value.str x t)
  | .inl i,v,h => by
    obtain ⟨t,e⟩ := Value.isInt_shape (k := i) (v := v) h
    exact .inl ⟨i,t,rfl,e⟩
  | .inr x,v,h => by
    obtain ⟨t,e⟩ := Value.isStrOf_shape (x := x) (v := v) h
    exact .inr ⟨x,t,rfl,e⟩
theorem Wa (a b : Int) : decide ((Sum.inl a : Key) = Sum.inl b) = (a == b) := by
  by_cases e : a = b
  · subst e;simp
  · have h : ¬ (Sum.inl a : Key) = Sum.inl b := fun q => e (Sum.inl.inj q)
    rw [decide_eq_false h]
    exact (beq_eq_false_iff_ne.mpr e).symm
theorem V7 (a b : Str) : decide ((Sum.inr a : Key) = Sum.inr b) = decide (a = b) := by
  by_cases e : a = b
  · subst e;simp
  · have h : ¬ (Sum.inr a : Key) = Sum.inr b := fun q => e (Sum.inr.inj q)
    rw [decide_eq_false h,decide_eq_false e]
theorem V9 (a : Int) (b : Str) : decide ((Sum.inl a : Key) = Sum.inr b) = false := decide_eq_false (fun q => nomatch q)
theorem V8 (a : Str) (b : Int) : decide ((Sum.inr a : Key) = Sum.inl b) = false := decide_eq_false (fun q => nomatch q)
def Qb (prog : Program) (w : World) : PySem.KeyKind prog w Key where
  is := VA
  hash := Yd w
  inj := fun v a b ha hb => by
    rcases qu ha with ⟨i,t,rfl,rfl⟩ | ⟨x,t,rfl,rfl⟩
    · rcases qu hb with ⟨j,u,rfl,e⟩ | ⟨y,u,rfl,e⟩
      · injection e with e1 _;rw [e1]
      · exact nomatch e
    · rcases qu hb with ⟨j,u,rfl,e⟩ | ⟨y,u,rfl,e⟩
      · exact nomatch e
      · injection e with e1 _;rw [e1]
  byValue := fun k v h => by
    rcases qu h with ⟨i,t,rfl,rfl⟩ | ⟨x,t,rfl,rfl⟩ <;> rfl
  pyHash := fun hv h => by
    rcases qu hv with ⟨i,t,rfl,rfl⟩ | ⟨x,t,rfl,rfl⟩
    · exact wpAny_pyHash_int h
    · exact wpAny_pyHash_str h
  eqBool := fun hu hv h => by
    rcases qu hu with ⟨i,t,rfl,rfl⟩ | ⟨x,t,rfl,rfl⟩
    · rcases qu hv with ⟨j,u,rfl,rfl⟩ | ⟨y,u,rfl,rfl⟩
      · rw [Wa] at h;exact wpAny_eqBool_int h
      · rw [V9] at h;exact SeqAt.EqAt.int_str i t y u _ _ _ _ h
    · rcases qu hv with ⟨j,u,rfl,rfl⟩ | ⟨y,u,rfl,rfl⟩
      · rw [V8] at h;exact SeqAt.EqAt.str_int x t j u _ _ _ _ h
      · rw [V7] at h;exact wpAny_eqBool_str h
  «strs» := fun k x t v h => by
    rcases qu h with ⟨i,u,rfl,e⟩ | ⟨y,u,rfl,e⟩
    · exact nomatch e
    · injection e with e1 _
      subst e1
      cases v <;> rfl
end L2
namespace L2
open PySem PySem.Spec PyProof.Rows
inductive V where
  | non | bl (b : Bool) | int (i : Int) | str (x : Str) | byt (b : Array UInt8) | flt (b : UInt64) | ref (a : Addr) | ty (n : String)
  deriving DecidableEq
def RelV : V -> Value -> Prop
  | .non,u => u = Value.none
  | .bl b,u => u = Value.bool b
  | .int i,u => ∃ t,u = Value.int i t
  | .str x,u => ∃ t,u = Value.str x t
  | .byt b,u => ∃ t,u = Value.bytes b t
  | .flt b,u => ∃ t,u = Value.float b t
  | .ref a,u => u = Value.ref a
  | .ty n,u => u = Value.type n
abbrev Vals : List V -> List Value -> Prop := Paired RelV
theorem Vals.length {xs : List V} {us : List Value} (r : Vals xs us) : xs.length = us.length := Paired.length r
theorem Vals.get : ∀ {xs : List V} {us : List Value} {i : Nat} {x : V},Vals xs us -> xs[i]? = some x -> ∃ u,us[i]? = some u /\ RelV x u
  | _,_,_,_,.nil,e => by simp at e
  | _,_,0,_,.cons r _,e => by simp at e;subst e;exact ⟨_,rfl,r⟩
  | _,_,i + 1,x,.cons _ t,e => by
    obtain ⟨u,h1,h2⟩ := Vals.get (i := i) (x := x) t (by simpa using e)
    exact ⟨u,by simpa using h1,h2⟩
theorem Vals.set {x : V} {u : Value} (r : RelV x u) : ∀ {xs : List V} {us : List Value} (i : Nat),Vals xs us -> Vals (xs.set i x) (us.set i u)
  | _,_,_,.nil => .nil
  | _,_,0,.cons _ t => .cons r t
  | _,_,i + 1,.cons q t => .cons q (Vals.set r i t)
theorem Vals.append : ∀ {xs ys : List V} {us ws : List Value},Vals xs us -> Vals ys ws -> Vals (xs ++ ys) (us ++ ws)
  | _,_,_,_,.nil,s => s
  | _,_,_,_,.cons r t,s => .cons r (Vals.append t s)
theorem Vals.take : ∀ {xs : List V} {us : List Value} (n : Nat),Vals xs us -> Vals (xs.take n) (us.take n)
  | _,_,0,_ => .nil
  | _,_,_ + 1,.nil => .nil
  | _,_,n + 1,.cons r t => .cons r (Vals.take n t)
theorem Vals.drop : ∀ {xs : List V} {us : List Value} (n : Nat),Vals xs us -> Vals (xs.drop n) (us.drop n)
  | _,_,0,r => r
  | _,_,_ + 1,.nil => .nil
  | _,_,n + 1,.cons _ t => Vals.drop n t
def WQ : Option V -> Option Value -> Prop
  | some v,some u => RelV v u
  | none,none => True
  | _,_ => False
def KV {κ : Type} : List (κ × V) -> List (κ × Value) -> Prop := Paired fun (p : κ × V) (q : κ × Value) => p.1 = q.1 /\ RelV p.2 q.2
def kV : Key -> V
  | .inl i => .int i
  | .inr x => .str x
inductive HO where
    | lst (xs : List V)
    | tup (xs : List V)
    | dK (kvs : List (Key × V)) | dT (kvs : List (List Key × V))
    | set (S : Int -> Bool) (n : Nat)
    | ins (C dx : Addr) (fs : List (Str × V))
    | own (x : Addr)
    | xd (fs : List (Str × V))
    | met (f x : Addr)
    | rng (lo hi : Int)
    | frz (o : Obj) (u : HO)
    | tbl (ps : Array Value)
    | ext (φ : Heap -> Prop)
abbrev Hp := Addr -> Option HO
def upd (H : Hp) (a : Addr) (o : HO) : Hp := fun b => if b = a then some o else H b
theorem zd {H : Hp} {a : Addr} {o : HO} : upd H a o a = some o := by unfold upd;rw [if_pos rfl]
theorem zq {H : Hp} {a b : Addr} {o : HO} (h : b ≠ a) : upd H a o b = H b := by unfold upd;rw [if_neg h]
theorem Xb {H : Hp} {a b : Addr} {o u : HO} (h : H a = some o) (h' : H b = some u) (d : o ≠ u) : a ≠ b := by
  intro e;subst e;rw [h] at h';exact d (Option.some.inj h')
theorem zn {H : Hp} {a b : Addr} {o : HO} (h : H a = some o) (h' : H b = none) : a ≠ b := by
  intro e;subst e;rw [h] at h';cases h'
section
variable (P : Program) (w : World)
def TupX (h : Heap) (a : Addr) (its : Array Value) : Prop := IsTup h a its /\ ∃ o,h.get? a = some o /\ o.dict = none
theorem TupX.by {h : Heap} {a : Addr} {its : Array Value} {n : Nat} (e : h.get? a = some { cls := .type "tuple",data := .seq its n }) : TupX h a its := ⟨⟨_,e,rfl,n,rfl⟩,_,e,rfl⟩
def ObjOk (H : Hp) (h : Heap) (a : Addr) : HO -> Prop
  | .lst xs => xs.length <= sizeLine /\ ∃ (its : List Value) (n : Nat),Vals xs its /\ h.get? a = some { cls := .type "list",data := .seq its.toArray n }
  | .tup xs => xs.length <= sizeLine /\ ∃ its : List Value,Vals xs its /\ TupX h a its.toArray
  | .dK kvs => kvs.length <= sizeLine /\ (a == sysModules) = false /\ ∃ vs,KV kvs vs /\ h.DictOf (Qb P w) a vs
  | .dT kvs => kvs.length <= sizeLine /\ (a == sysModules) = false /\ ∃ xs : List (List Key × Addr × Value),
      Paired (fun (p : List Key × V) (q : List Key × Addr × Value) => p.1 = q.1 /\ H q.2.1 = some (.tup (p.1.map kV)) /\ RelV p.2 q.2.2) kvs xs /\
      ∃ o es ep,h.get? a = some o /\ o.ExactDict /\ o.data = .dict es ep /\ es.toList = xs.map (entryOfKey (tupleKind (Qb P w))) /\ (xs.map (·.1)).Nodup
  | .set S n => h.SetOf (intKind P w) a S n
  | .ins C dx fs => H dx = some (.own a) /\ fs.length <= 1000 /\ dx ≠ a /\ h.get? a = some (PySem.W.instObj C dx) /\
      ∃ mA,h.Ns1 dx mA /\ (∀ f,WQ (fs.lookup f) (mA f)) /\ PySem.Within mA (fs.map (·.1))
  | .own _ => ∃ o,h.get? a = some o
  | .xd fs => ∃ mA,h.Ns1 a mA /\ ∀ f,WQ (fs.lookup f) (mA f)
  | .rng lo hi => ∃ t u v,h.get? a = some { cls := .type "range",data := .fields #[.int lo t,.int hi u,.int 1 v] }
  | .frz o u => h.get? a = some o /\ ObjOk H h a u
  | .tbl ps => h.get? a = some { cls := .none,data := .fields ps }
  | .met f x => h.get? a = some (PySem.W.methodObj (.ref f) (.ref x))
  | .ext φ => φ h /\ (∃ o,h.get? a = some o) /\ ∀ h1 h2 : Heap,φ h1 -> (∀ o,h1.get? a = some o -> h2.get? a = some o) -> φ h2
def HOk (H : Hp) (h : Heap) : Prop := ∀ a o,H a = some o -> ObjOk P w H h a o
end
section
variable {P : Program} {w : World} {H H' : Hp} {h h' : Heap} {a : Addr} {o : HO}
theorem ObjOk.lt (x : ObjOk P w H h a o) : a < h.objs.size := by
  cases o with
  | lst xs => obtain ⟨_,_,_,_,e⟩ := x;exact Heap.lt_size e
  | tup xs => obtain ⟨_,_,_,p⟩ := x;exact p.1.lt
  | dK kvs => obtain ⟨_,_,_,_,o,_,_,e,_⟩ := x;exact Heap.lt_size e
  | dT kvs => obtain ⟨_,_,_,_,o,_,_,e,_⟩ := x;exact Heap.lt_size e
  | set S n => obtain ⟨o,_,_,_,e,_⟩ := x;exact Heap.lt_size e
  | ins C dx fs => obtain ⟨_,_,_,e,_⟩ := x;exact Heap.lt_size e
  | own y => obtain ⟨_,e⟩ := x;exact Heap.lt_size e
  | xd fs => obtain ⟨_,⟨_,_,_,e,_⟩,_⟩ := x;exact Heap.lt_size e
  | rng lo hi => obtain ⟨_,_,_,e⟩ := x;exact Heap.lt_size e
  | frz ob u => obtain ⟨e,_⟩ := x;exact Heap.lt_size e
  | tbl ps => exact Heap.lt_size (show h.get? a = some _ from x)
  | met f y => exact Heap.lt_size (show h.get? a = some _ from x)
  | ext φ => obtain ⟨_,⟨_,e⟩,_⟩ := x;exact Heap.lt_size e
theorem Paired.mapP {α β : Type} {F G : α -> β -> Prop} : ∀ {l₁ : List α} {l₂ : List β},Paired F l₁ l₂ -> (∀ a b,F a b -> G a b) -> Paired G l₁ l₂
  | _,_,.nil,_ => .nil
  | _,_,.cons r t,f => .cons (f _ _ r) (Paired.mapP t f)
theorem ObjOk.stay (x : ObjOk P w H h a o) (k : ∀ b u,(b = a \/ H b = some (.own a)) -> h.get? b = some u -> h'.get? b = some u)
    (ho : ∀ b,H b = some (.own a) -> H' b = some (.own a)) (ht : ∀ b xs,H b = some (.tup xs) -> H' b = some (.tup xs)) : ObjOk P w H' h' a o := by
  induction o with
  | lst xs => obtain ⟨z,its,n,r,e⟩ := x;exact ⟨z,its,n,r,k _ _ (.inl rfl) e⟩
  | tup xs => obtain ⟨z,its,r,⟨ob,e,c⟩,o2,e2,dn⟩ := x;exact ⟨z,its,r,⟨ob,k _ _ (.inl rfl) e,c⟩,o2,k _ _ (.inl rfl) e2,dn⟩
  | dK kvs => obtain ⟨z,y,vs,r,ob,es,ep,e,c⟩ := x;exact ⟨z,y,vs,r,ob,es,ep,k _ _ (.inl rfl) e,c⟩
  | dT kvs =>
    obtain ⟨z,y,xs,r,ob,es,ep,e,c⟩ := x
    exact ⟨z,y,xs,Paired.mapP r fun p q z => ⟨z.1,ht _ _ z.2.1,z.2.2⟩,ob,es,ep,k _ _ (.inl rfl) e,c⟩
  | set S n => obtain ⟨ob,es,ep,t,e,c⟩ := x;exact ⟨ob,es,ep,t,k _ _ (.inl rfl) e,c⟩
  | ins C dx fs =>
    obtain ⟨d,z,ne,e,mA,⟨od,es,ep,e2,c⟩,r⟩ := x
    exact ⟨ho _ d,z,ne,k _ _ (.inl rfl) e,mA,⟨od,es,ep,k _ _ (.inr d) e2,c⟩,r⟩
  | own y => obtain ⟨ob,e⟩ := x;exact ⟨ob,k _ _ (.inl rfl) e⟩
  | xd fs => obtain ⟨mA,⟨od,es,ep,e,c⟩,r⟩ := x;exact ⟨mA,⟨od,es,ep,k _ _ (.inl rfl) e,c⟩,r⟩
  | rng lo hi => obtain ⟨t,u,v,e⟩ := x;exact ⟨t,u,v,k _ _ (.inl rfl) e⟩
  | frz ob u ih => obtain ⟨e,q⟩ := x;exact ⟨k _ _ (.inl rfl) e,ih q⟩
  | tbl ps =>
    have e : h.get? a = some { cls := .none,data := .fields ps } := x
    show h'.get? a = some { cls := .none,data := .fields ps }
    exact k a _ (.inl rfl) e
  | met f y =>
    have e : h.get? a = some (PySem.W.methodObj (.ref f) (.ref y)) := x
    show h'.get? a = some (PySem.W.methodObj (.ref f) (.ref y))
    exact k a _ (.inl rfl) e
  | ext φ => obtain ⟨p,⟨o,e⟩,st⟩ := x;exact ⟨st _ _ p fun o q => k _ _ (.inl rfl) q,⟨o,k _ _ (.inl rfl) e⟩,st⟩
theorem HOk.lt (x : HOk P w H h) (e : H a = some o) : a < h.objs.size := (x a o e).lt
theorem HOk.fresh (x : HOk P w H h) (e : h.objs.size <= a) : H a = none := by
  cases q : H a with
  | none => rfl
  | some u => exact absurd (Nat.lt_of_lt_of_le (x.lt q) e) (Nat.lt_irrefl _)
theorem HOk.kept (x : HOk P w H h) (k : ∀ b u,h.get? b = some u -> h'.get? b = some u) : HOk P w H h' := fun a o e =>
  (x a o e).stay (fun b u _ q => k b u q) (fun _ q => q) fun _ _ q => q
theorem HOk.laid (x : HOk P w H h) (k : ∀ b u,h.get? b = some u -> h'.get? b = some u) (hp : h.objs.size <= a) (new : ObjOk P w (upd H a o) h' a o) : HOk P w (upd H a o) h' := fun b u e => by
  have hn := x.fresh hp
  by_cases hb : b = a
  · subst hb;rw [zd] at e;cases e;exact new
  · rw [zq hb] at e
    exact (x b u e).stay (fun c v _ q => k c v q) (fun c q => by rw [zq (zn q hn)];exact q) fun c xs q => by rw [zq (zn q hn)];exact q
end
def Rd (H : Hp) (a : Addr) (u : HO) : Prop := H a = some u \/ ∃ o,H a = some (.frz o u)
theorem Rd.of {H : Hp} {a : Addr} {u : HO} (h : H a = some u) : Rd H a u := .inl h
theorem Rd.ok {P : Program} {w : World} {H : Hp} {h : Heap} {a : Addr} {u : HO} (r : Rd H a u) (x : HOk P w H h) : ObjOk P w H h a u := by
  rcases r with r | ⟨o,r⟩
  · exact x a u r
  · obtain ⟨_,q⟩ := x a _ r
    exact q
def Mut : Option HO -> Prop
  | some (.lst _) => True
  | some (.dK _) => True
  | some (.dT _) => True
  | some (.set _ _) => True
  | some (.ins _ _ _) => True
  | some (.ext _) => True
  | _ => False
section
variable {P : Program} {w : World} {H : Hp} {h h' : Heap} {x e : Addr} {o' : HO}
theorem HOk.write (ok : HOk P w H h) (mu : Mut (H x)) (he : e = x \/ H e = some (.own x)) (k : ∀ b u,b ≠ e -> h.get? b = some u -> h'.get? b = some u) (heo : ∃ u,h'.get? e = some u)
    (new : ObjOk P w (upd H x o') h' x o') : HOk P w (upd H x o') h' := fun b u q => by
  have nown : ∀ c y,H c = some (.own y) -> c ≠ x := fun c y r z => by subst z;rw [r] at mu;exact mu
  have ntup : ∀ c xs,H c = some (.tup xs) -> c ≠ x := fun c xs r z => by subst z;rw [r] at mu;exact mu
  by_cases hb : b = x
  · subst hb;rw [zd] at q;cases q;exact new
  · rw [zq hb] at q
    by_cases hbe : b = e
    · have q' : H b = some (.own x) := by
        rcases he with z | z
        · exact absurd (hbe.trans z) hb
        · rw [hbe];exact z
      rw [q] at q';cases q'
      obtain ⟨v,hv⟩ := heo
      exact ⟨v,by rw [hbe];exact hv⟩
    · refine (ok b u q).stay (fun c v hc r => k c v ?_ r) (fun c r => by rw [zq (nown c b r)];exact r) fun c xs r => by rw [zq (ntup c xs r)];exact r
      rcases hc with rfl | hc
      · exact hbe
      · rintro rfl
        rcases he with z | z
        · exact nown c b hc z
        · rw [hc] at z;cases z;exact hb rfl
end
structure Un (fs ex : List Addr) (H H' : Hp) (h h' : Heap) : Prop where
  keep : ∀ b o,h.get? b = some o -> H b = none -> b ∉ fs -> b ∉ ex -> h'.get? b = some o
  slot : ∀ b o,h.get? b = some o -> H b = none -> b ∈ fs -> b ∉ ex -> ∃ sl,h'.get? b = some { o with slots := sl }
  free : ∀ b o,h.get? b = some o -> H b = none -> b ∉ ex -> H' b = none
  there : ∀ b o,h.get? b = some o -> b ∉ ex -> ∃ o',h'.get? b = some o'
  tups : ∀ b xs,H b = some (.tup xs) -> H' b = some (.tup xs)
  frzs : ∀ b o u,H b = some (.frz o u) -> H' b = some (.frz o u)
  tbls : ∀ b ps,H b = some (.tbl ps) -> ∃ more,H' b = some (.tbl (ps ++ more))
section
variable {fs fs' ex ex' : List Addr} {H H1 H2 : Hp} {h h1 h2 h' : Heap} {a x e : Addr} {o : HO}
theorem Un.any (u : Un fs ex H H1 h h1) {b : Addr} {ob : Obj} (q : h.get? b = some ob) (n : H b = none) (hx : b ∉ ex) : ∃ sl,h1.get? b = some { ob with slots := sl } := by
  by_cases hb : b ∈ fs
  · exact u.slot b ob q n hb hx
  · exact ⟨ob.slots,u.keep b ob q n hb hx⟩
theorem Un.kept (k : ∀ b u,h.get? b = some u -> h'.get? b = some u) : Un fs ex H H h h' :=
  ⟨fun b ob q _ _ _ => k b ob q,fun b ob q _ _ _ => ⟨ob.slots,k b ob q⟩,fun _ _ _ n _ => n,fun b ob q _ => ⟨ob,k b ob q⟩,fun _ _ q => q,fun _ _ _ q => q,fun _ ps q => ⟨#[],by rw [q];simp⟩⟩
theorem Un.refl : Un fs ex H H h h := Un.kept fun _ _ q => q
theorem Un.laid (k : ∀ b u,h.get? b = some u -> h'.get? b = some u) (hp : h.objs.size <= a) (hn : H a = none) : Un fs ex H (upd H a o) h h' where
  keep := fun b u q _ _ _ => k b u q
  slot := fun b u q _ _ _ => ⟨u.slots,k b u q⟩
  free := fun b u q n _ => by rw [zq (Nat.ne_of_lt (Nat.lt_of_lt_of_le (Heap.lt_size q) hp))];exact n
  there := fun b u q _ => ⟨u,k b u q⟩
  tups := fun b xs q => by rw [zq (zn q hn)];exact q
  frzs := fun b u xs q => by rw [zq (zn q hn)];exact q
  tbls := fun b ps q => ⟨#[],by rw [zq (zn q hn),q];simp⟩
theorem Un.write (mu : Mut (H x)) (he : e = x \/ H e = some (.own x)) (k : ∀ b u,b ≠ e -> h.get? b = some u -> h'.get? b = some u) (heo : ∃ u,h'.get? e = some u) : Un fs ex H (upd H x o) h h' := by
  have hx : ∀ b,H b = none -> b ≠ x := fun b n z => by subst z;rw [n] at mu;exact mu
  have hb : ∀ b,H b = none -> b ≠ e := fun b n z => by
    subst z
    rcases he with r | r
    · exact hx b n r
    · rw [n] at r;cases r
  have hm : ∀ b u,H b = some u -> ¬ Mut (some u) -> b ≠ x := fun b u q nm z => by subst z;rw [q] at mu;exact nm mu
  refine ⟨fun b u q n _ _ => k b u (hb b n) q,fun b u q n _ _ => ⟨u.slots,k b u (hb b n) q⟩,fun b u q n _ => by rw [zq (hx b n)];exact n,fun b u q _ => ?_,
    fun b xs q => by rw [zq (hm b _ q fun z => z)];exact q,fun b u xs q => by rw [zq (hm b _ q fun z => z)];exact q,fun b ps q => ⟨#[],by rw [zq (hm b _ q fun z => z),q];simp⟩⟩
  by_cases hbe : b = e
  · subst hbe;exact heo
  · exact ⟨u,k b u hbe q⟩
end
def trk (h : Heap) (H : Hp) : List Addr := (List.range h.objs.size).filter fun a => (H a).isSome
def ym (h : Heap) (H : Hp) : Heap := PySem.W.hideAll h (trk h H)
theorem Q9 (h : Heap) (H : Hp) : (ym h H).objs.size = h.objs.size := PySem.W.hideAll_size _ _
theorem Xl {h : Heap} {H : Hp} {b : Addr} {o : Obj} (e : h.get? b = some o) (n : H b = none) : (ym h H).get? b = some o :=
  PySem.W.hideAll_get _ e fun hm => by
    have q : (H b).isSome = true := (List.mem_filter.mp hm).2
    rw [n] at q;simp at q
theorem X5 {h : Heap} {H : Hp} {b : Addr} {o : Obj} (e : (ym h H).get? b = some o) : h.get? b = some o /\ H b = none := by
  have e' : h.get? b = some o := PySem.W.of_hideAll (trk h H) e
  refine ⟨e',?_⟩
  cases q : H b with
  | none => rfl
  | some x =>
    have hm : b ∈ trk h H := List.mem_filter.mpr ⟨List.mem_range.mpr (Heap.lt_size e'),by simp [q]⟩
    have z : (ym h H).get? b = none := PySem.W.hideAll_none (trk h H) hm
    rw [z] at e;cases e
def Vi (g h : Heap) (L : Addr) : List (Addr × Obj) := (List.range h.objs.size).filterMap fun a => if a = L \/ (g.get? a).isSome = true then none else (h.get? a).map fun o => (a,o)
def xn (g h : Heap) (L d : Addr) : List (Addr × Obj) := (Vi g h L).filter fun p => decide (p.1 ≠ d)
end L2
namespace L2
open PySem PySem.Spec PyProof.Rows
structure Mod (K : PySem.W.Frag) (mg : Str -> Option Value) (base : Heap) : Prop where
  kin : K.In base
  glob : base.Ns mainGlobals mg
  blt : ∃ mb,base.Ns builtinsNs mb /\ ∀ x : Str,x ≠ "__name__" -> mb x = bootBuiltins x
  nolimit : base.NoLimit
structure Cx where
  prog : Program
  w : World
  K : PySem.W.Frag
  mg : Str -> Option Value
  base : Heap
  A : Around
  N : List Str
  s₀ : Shared
  H₀ : Hp
  env : Env
  outer : List Env
  stack : List Env
  ex : List Addr
  fn : Str -> Bool
  calm : Bool
  pn : List (Addr × Obj)
  xe : Value -> Shared -> Prop
def frs (l : List Env) : List Addr := l.filterMap (·.frame)
abbrev Cx.fs (X : Cx) : List Addr := frs X.outer
def Vis (sc : Scope) (x : Str) : Prop := sc.names.lookup x = some .local \/ sc.names.lookup x = some .cell \/ sc.names.lookup x = some .free
def Loc (sc : Scope) (x : Str) : Prop := sc.names.lookup x = some .local \/ sc.names.lookup x = some .cell
def Yi (env : Env) (h : Heap) (m : Str -> Option Value) (x : Str) (u : Value) : Prop :=
  (env.kindOf x = some .local /\ m x = some u) \/ ((env.kindOf x = some .cell \/ env.kindOf x = some .free) /\ ∃ c,env.cells.lookup x = some c /\ h.IsCell c (some u))
structure Cx.Ok (X : Cx) : Prop where
  mod : Mod X.K X.mg X.base
  kind : X.env.scope.kind = .function
  glob : X.env.globals = mainGlobals
  blt : X.env.builtins = builtinsNs
  above : X.s₀.heap.objs.size <= X.env.locals
  inj : ∀ x y c,X.env.cells.lookup x = some c -> X.env.cells.lookup y = some c -> x = y
  has : ∀ x,(X.env.kindOf x = some .cell \/ X.env.kindOf x = some .free) -> ∃ c,X.env.cells.lookup x = some c
  cab : ∀ x c,X.fn x = true -> X.env.cells.lookup x = some c -> X.s₀.heap.objs.size <= c
  hd : X.calm = true -> X.A.handled = none
  frames : X.A.frames = some X.stack
  stk : X.stack = X.outer \/ (X.stack = X.env :: X.outer /\ X.env.frame = some X.env.locals)
  exf : ∀ b ∈ X.ex,b ≠ X.env.locals /\ ∀ x c,X.env.cells.lookup x = some c -> c ≠ b
  bs : ∀ b o,X.base.get? b = some o -> X.s₀.heap.get? b = some o /\ X.H₀ b = none
  bsz : X.base.objs.size <= X.s₀.heap.objs.size
  noex : ∀ b o,X.base.get? b = some o -> b ∉ X.ex
  exfs : ∀ b ∈ X.ex,b ∉ X.fs
  funs : X.s₀.heap.FunFrames X.base X.outer
  frf : ∀ b ∈ X.fs,X.H₀ b = none
structure Inv (X : Cx) (pins : List (Addr × Obj)) (σ : List (Option V)) (H : Hp) (s : Shared) : Prop where
  ok : X.Ok
  os : s.os = X.s₀.os
  bare : AllBare s.gens
  base : Un X.fs X.ex X.H₀ H X.s₀.heap s.heap
  loc : ∃ m,s.heap.Ns X.env.locals m /\ ∀ (i : Nat) (x : Str) (v : V),X.N[i]? = some x -> σ[i]? = some (some v) -> Vis X.env.scope x -> ∃ u,RelV v u /\ Yi X.env s.heap m x u
  cell : ∀ x c,X.env.cells.lookup x = some c -> ∃ v,s.heap.IsCell c v
  free : H X.env.locals = none
  freeC : ∀ x c,X.env.cells.lookup x = some c -> H c = none
  pin : ∀ p ∈ X.pn ++ pins,s.heap.get? p.1 = some p.2 /\ H p.1 = none /\ p.1 ≠ X.env.locals /\ p.1 ∉ X.fs /\ ∀ v,p.2.data ≠ .cell v
  hok : HOk X.prog X.w H s.heap
  len : σ.length = X.N.length
section
variable {X : Cx} {pins : List (Addr × Obj)} {σ : List (Option V)} {H H' : Hp} {s : Shared} {h' : Heap}
theorem Cx.Ok.nofr (ok : X.Ok) {b : Addr} {o : Obj} (e : X.base.get? b = some o) : b ∉ X.fs := fun hb => by
  have := (ok.funs.mem hb).1
  rw [e] at this;cases this
theorem Inv.bs (I : Inv X pins σ H s) : ∀ b o,X.base.get? b = some o -> s.heap.get? b = some o /\ H b = none := fun b o e =>
  ⟨I.base.keep b o (I.ok.bs b o e).1 (I.ok.bs b o e).2 (I.ok.nofr e) (I.ok.noex b o e),I.base.free b o (I.ok.bs b o e).1 (I.ok.bs b o e).2 (I.ok.noex b o e)⟩
theorem Inv.bk (I : Inv X pins σ H s) : ∀ b o,X.base.get? b = some o -> s.heap.get? b = some o := fun b o e => (I.bs b o e).1
theorem Inv.mod (I : Inv X pins σ H s) : Mod X.K X.mg X.base := I.ok.mod
theorem Inv.kIn (I : Inv X pins σ H s) : X.K.In s.heap := I.ok.mod.kin.keeps I.bk
theorem Inv.nolimit (I : Inv X pins σ H s) : s.heap.NoLimit := I.ok.mod.nolimit.keeps I.bk
theorem Inv.fr (I : Inv X pins σ H s) : ∃ m,Fr X.base X.env.locals s.heap m :=
  let ⟨m,hn,_⟩ := I.loc
  ⟨m,hn,I.bk,Nat.le_trans I.ok.bsz I.ok.above⟩
theorem Inv.lt (I : Inv X pins σ H s) : X.env.locals < s.heap.objs.size := let ⟨_,hn,_⟩ := I.loc;hn.lt
theorem Inv.sz (I : Inv X pins σ H s) : X.s₀.heap.objs.size <= s.heap.objs.size := Nat.le_trans I.ok.above (Nat.le_of_lt I.lt)
theorem Inv.nofs (I : Inv X pins σ H s) {a : Addr} (h : s.heap.objs.size <= a) : a ∉ X.fs := fun hb => by
  obtain ⟨_,o,ho,_⟩ := I.ok.funs.mem hb
  exact absurd (Nat.lt_of_lt_of_le (Heap.lt_size ho) (Nat.le_trans I.sz h)) (Nat.lt_irrefl _)
theorem Inv.cne (I : Inv X pins σ H s) : ∀ x c,X.env.cells.lookup x = some c -> c ≠ X.env.locals := fun x c e z => by
  obtain ⟨v,o,ho,hd⟩ := I.cell x c e
  obtain ⟨m,⟨o',es,ep,ho',hd',_⟩,_⟩ := I.loc
  rw [z,ho'] at ho;cases ho;rw [hd'] at hd;cases hd
theorem Inv.funs (I : Inv X pins σ H s) : s.heap.FunFrames X.base X.outer := by
  have all : ∀ (l : List Env),(∀ b ∈ frs l,b ∈ X.fs) -> X.s₀.heap.FunFrames X.base l -> s.heap.FunFrames X.base l := by
    intro l
    induction l with
    | nil => intro _ _;trivial
    | cons env r ih =>
      intro hs hl
      obtain ⟨hk,⟨L,o,hf,hn,ho,hd⟩,hr⟩ := hl
      have hL : L ∈ X.fs := hs L (by unfold frs;rw [List.filterMap_cons,hf];exact List.mem_cons_self)
      obtain ⟨sl,e⟩ := I.base.slot L o ho (I.ok.frf L hL) hL fun z => I.ok.exfs L z hL
      exact ⟨hk,⟨L,_,hf,hn,e,hd⟩,ih (fun b hb => hs b (by unfold frs;rw [List.filterMap_cons,hf];exact List.mem_cons_of_mem _ hb)) hr⟩
  exact all X.outer (fun _ hb => hb) I.ok.funs
theorem Inv.stack (I : Inv X pins σ H s) : s.heap.FunFrames X.base X.stack := by
  rcases I.ok.stk with e | ⟨e,hf⟩
  · rw [e];exact I.funs
  · rw [e]
    obtain ⟨m,hn,_⟩ := I.loc
    refine .cons (by rw [I.ok.kind];decide) hf hn ?_ I.funs
    exact Heap.get?_none_of_le (Nat.le_trans I.ok.bsz I.ok.above)
theorem Inv.stkSub (I : Inv X pins σ H s) : ∀ b ∈ frs X.stack,b ∈ X.env.locals :: X.fs := fun b hb => by
  rcases I.ok.stk with e | ⟨e,hf⟩
  · rw [e] at hb;exact List.mem_cons_of_mem _ hb
  · rw [e] at hb
    unfold frs at hb
    rw [List.filterMap_cons,hf] at hb
    exact hb
theorem Inv.stkFree (I : Inv X pins σ H s) : ∀ b ∈ frs X.stack,H b = none := fun b hb => by
  rcases List.mem_cons.mp (I.stkSub b hb) with e | hb
  · rw [e];exact I.free
  · obtain ⟨_,o,ho,_⟩ := I.ok.funs.mem hb
    exact I.base.free b o ho (I.ok.frf b hb) fun z => I.ok.exfs b z hb
theorem Inv.step {g' : Array GenState} {t' : Nat} {d' : Drawn} {ch : List Addr} (I : Inv X pins σ H s)
    (hch : ∀ b ∈ ch,(b ∈ X.ex \/ X.s₀.heap.objs.size <= b) /\ b ≠ X.env.locals /\ (∀ x c,X.env.cells.lookup x = some c -> c ≠ b) /\ ∀ p ∈ X.pn ++ pins,p.1 ≠ b)
    (keep : ∀ b o,b ≠ X.env.locals -> b ∉ X.fs -> b ∉ ch -> s.heap.get? b = some o -> H b = none -> h'.get? b = some o)
    (slot : ∀ b o,b ≠ X.env.locals -> b ∈ X.fs -> b ∉ ch -> s.heap.get? b = some o -> H b = none -> ∃ sl,h'.get? b = some { o with slots := sl }) (free : ∀ b o,b ∉ ch -> s.heap.get? b = some o -> H b = none -> H' b = none)
    (there : ∀ b o,b ∉ ch -> s.heap.get? b = some o -> ∃ o',h'.get? b = some o')
    (tups : ∀ b xs,H b = some (.tup xs) -> H' b = some (.tup xs)) (frzs : ∀ b o u,H b = some (.frz o u) -> H' b = some (.frz o u)) (tbls : ∀ b ps,H b = some (.tbl ps) -> ∃ more,H' b = some (.tbl (ps ++ more)))
    (ns : ∀ m,s.heap.Ns X.env.locals m -> h'.Ns X.env.locals m) (hok : HOk X.prog X.w H' h') (hg : AllBare g') :
    Inv X pins σ H' { s with heap := h',gens := g',drawn := d',toks := t' } := by
  have neL : ∀ b o,X.s₀.heap.get? b = some o -> b ≠ X.env.locals := fun b o e => Nat.ne_of_lt (Nat.lt_of_lt_of_le (Heap.lt_size e) I.ok.above)
  have neC : ∀ b o,X.s₀.heap.get? b = some o -> b ∉ X.ex -> b ∉ ch := fun b o e hx hb => by
    rcases (hch b hb).1 with z | z
    · exact hx z
    · exact absurd (Nat.lt_of_lt_of_le (Heap.lt_size e) z) (Nat.lt_irrefl _)
  have cellK : ∀ x c,X.env.cells.lookup x = some c -> ∀ v,s.heap.IsCell c v -> h'.IsCell c v := fun x c e v ⟨o,ho,hd⟩ => by
    have nch : c ∉ ch := fun z => (hch c z).2.2.1 x c e rfl
    by_cases hc : c ∈ X.fs
    · obtain ⟨sl,q⟩ := slot c o (I.cne x c e) hc nch ho (I.freeC x c e)
      exact ⟨_,q,hd⟩
    · exact ⟨o,keep c o (I.cne x c e) hc nch ho (I.freeC x c e),hd⟩
  refine ⟨I.ok,I.os,hg,⟨fun b o e n hb hx => ?_,fun b o e n hb hx => ?_,fun b o e n hx => ?_,fun b o e hx => ?_,fun b xs e => tups b xs (I.base.tups b xs e),fun b o xs e => frzs b o xs (I.base.frzs b o xs e),fun b ps e => ?_⟩,?_,fun x c e => ?_,?_,fun x c e => ?_,fun p hp => ?_,hok,I.len⟩
  · exact keep b o (neL b o e) hb (neC b o e hx) (I.base.keep b o e n hb hx) (I.base.free b o e n hx)
  · obtain ⟨sl,e1⟩ := I.base.slot b o e n hb hx
    obtain ⟨sl',e2⟩ := slot b _ (neL b o e) hb (neC b o e hx) e1 (I.base.free b o e n hx)
    exact ⟨sl',e2⟩
  · obtain ⟨o',e1⟩ := I.base.there b o e hx
    exact free b o' (neC b o e hx) e1 (I.base.free b o e n hx)
  · obtain ⟨o',e1⟩ := I.base.there b o e hx
    exact there b o' (neC b o e hx) e1
  · obtain ⟨m1,e1⟩ := I.base.tbls b ps e
    obtain ⟨m2,e2⟩ := tbls b _ e1
    exact ⟨m1 ++ m2,by rw [e2,Array.append_assoc]⟩
  · obtain ⟨m,hn,hl⟩ := I.loc
    refine ⟨m,ns m hn,fun i x v e1 e2 e3 => ?_⟩
    obtain ⟨u,r,l⟩ := hl i x v e1 e2 e3
    refine ⟨u,r,?_⟩
    rcases l with l | ⟨k,c,e,z⟩
    · exact .inl l
    · exact .inr ⟨k,c,e,cellK x c e _ z⟩
  · obtain ⟨v,z⟩ := I.cell x c e
    exact ⟨v,cellK x c e v z⟩
  · obtain ⟨m,⟨o,_,_,ho,_⟩,_⟩ := I.loc
    exact free _ o (fun z => (hch _ z).2.1 rfl) ho I.free
  · obtain ⟨v,o,ho,hd⟩ := I.cell x c e
    exact free c o (fun z => (hch c z).2.2.1 x c e rfl) ho (I.freeC x c e)
  · obtain ⟨e,n,ne,nf,d⟩ := I.pin p hp
    have nch : p.1 ∉ ch := fun z => (hch p.1 z).2.2.2 p hp rfl
    exact ⟨keep p.1 p.2 ne nf nch e n,free p.1 p.2 nch e n,ne,nf,d⟩
theorem Inv.un {t' : Nat} (I : Inv X pins σ H s) (u : Un X.fs [] H H' s.heap h') (hok : HOk X.prog X.w H' h') : Inv X pins σ H' { s with heap := h',toks := t' } := by
  obtain ⟨m,⟨o,es,ep,ho,r⟩,_⟩ := id I.loc
  obtain ⟨sl,hL⟩ := u.any ho I.free (by simp)
  exact I.step (g' := s.gens) (d' := s.drawn) (ch := []) (fun _ z => nomatch z) (fun b o _ hb _ e n => u.keep b o e n hb (by simp)) (fun b o _ hb _ e n => u.slot b o e n hb (by simp)) (fun b o _ e n => u.free b o e n (by simp)) (fun b o _ e => u.there b o e (by simp)) u.tups u.frzs u.tbls (fun m' hm => by
    obtain ⟨o',es',ep',ho',r'⟩ := hm
    rw [ho] at ho';cases ho'
    exact ⟨_,es',ep',hL,r'⟩) hok I.bare
theorem Inv.call {g' : Array GenState} {t' : Nat} {d' : Drawn} {ch : List Addr} (I : Inv X pins σ H s) (u : Un (frs X.stack) ch H H' s.heap h') (hok : HOk X.prog X.w H' h') (hg : AllBare g')
    (hch : ∀ b ∈ ch,(b ∈ X.ex \/ X.s₀.heap.objs.size <= b) /\ b ≠ X.env.locals /\ (∀ x c,X.env.cells.lookup x = some c -> c ≠ b) /\ ∀ p ∈ X.pn ++ pins,p.1 ≠ b) :
    Inv X pins σ H' { s with heap := h',gens := g',drawn := d',toks := t' } := by
  obtain ⟨m,⟨o,es,ep,ho,r⟩,_⟩ := id I.loc
  obtain ⟨sl,hL⟩ := u.any ho I.free fun z => (hch _ z).2.1 rfl
  exact I.step (ch := ch) hch (fun b o hL hb hc e n => u.keep b o e n (fun z => (List.mem_cons.mp (I.stkSub b z)).elim hL hb) hc) (fun b o _ _ hc e n => u.any e n hc) (fun b o hc e n => u.free b o e n hc) (fun b o hc e => u.there b o e hc) u.tups u.frzs u.tbls (fun m' hm => by
    obtain ⟨o',es',ep',ho',r'⟩ := hm
    rw [ho] at ho';cases ho'
    exact ⟨_,es',ep',hL,r'⟩) hok hg
theorem Inv.turned {t' : Nat} {it : Addr} (I : Inv X pins σ H s) (k : ∀ b o,b ≠ it -> s.heap.get? b = some o -> h'.get? b = some o) (hn : H it = none) (hL : it ≠ X.env.locals)
    (h1 : it ∈ X.ex \/ X.s₀.heap.objs.size <= it) (h2 : ∀ x c,X.env.cells.lookup x = some c -> c ≠ it) (h3 : ∀ p ∈ X.pn ++ pins,p.1 ≠ it) : Inv X pins σ H { s with heap := h',toks := t' } := by
  have nit : ∀ b u,H b = some u -> b ≠ it := fun b u e z => by rw [z,hn] at e;cases e
  refine I.step (g' := s.gens) (d' := s.drawn) (ch := [it]) (fun b hb => ?_) (fun b o _ _ hc e _ => k b o (fun z => hc (by simp [z])) e) (fun b o _ _ hc e _ => ⟨o.slots,k b o (fun z => hc (by simp [z])) e⟩) (fun _ _ _ _ n => n)
    (fun b o hc e => ⟨o,k b o (fun z => hc (by simp [z])) e⟩) (fun _ _ e => e) (fun _ _ _ e => e) (fun b ps e => ⟨#[],by rw [e];simp⟩) (fun m hm => ?_) (fun b u e => ?_) I.bare
  · have e : b = it := by simpa using hb
    subst e
    exact ⟨h1,hL,h2,h3⟩
  · obtain ⟨o,es,ep,ho,r⟩ := hm
    exact ⟨o,es,ep,k _ o (Ne.symm hL) ho,r⟩
  · refine (I.hok b u e).stay (fun c v hc q => k c v ?_ q) (fun _ q => q) fun _ _ q => q
    rcases hc with z | z
    · rw [z];exact nit b u e
    · exact nit c _ z
theorem Inv.tok (I : Inv X pins σ H s) (t : Nat) : Inv X pins σ H { s with toks := t } := I.un (h' := s.heap) (t' := t) Un.refl I.hok
theorem Inv.kept {t' : Nat} (I : Inv X pins σ H s) (k : ∀ b u,s.heap.get? b = some u -> h'.get? b = some u) : Inv X pins σ H { s with heap := h',toks := t' } := I.un (Un.kept k) (I.hok.kept k)
theorem Inv.laid {a : Addr} {o : HO} {t' : Nat} (I : Inv X pins σ H s) (k : ∀ b u,s.heap.get? b = some u -> h'.get? b = some u) (hp : s.heap.objs.size <= a) (new : ObjOk X.prog X.w (upd H a o) h' a o) :
    Inv X pins σ (upd H a o) { s with heap := h',toks := t' } := I.un (Un.laid k hp (I.hok.fresh hp)) (I.hok.laid k hp new)
theorem Inv.write {x e : Addr} {o : HO} {t' : Nat} (I : Inv X pins σ H s) (mu : Mut (H x)) (he : e = x \/ H e = some (.own x)) (k : ∀ b u,b ≠ e -> s.heap.get? b = some u -> h'.get? b = some u) (heo : ∃ u,h'.get? e = some u)
    (new : ObjOk X.prog X.w (upd H x o) h' x o) : Inv X pins σ (upd H x o) { s with heap := h',toks := t' } := I.un (Un.write mu he k heo) (I.hok.write mu he k heo new)
theorem Inv.weak {σ' : List (Option V)} (I : Inv X pins σ H s) (hl : σ'.length = σ.length) (w : ∀ (i : Nat) v,σ'[i]? = some (some v) -> σ[i]? = some (some v)) : Inv X pins σ' H s :=
  ⟨I.ok,I.os,I.bare,I.base,let ⟨m,hn,hl'⟩ := I.loc;⟨m,hn,fun i x v e1 e2 e3 => hl' i x v e1 (w i v e2) e3⟩,I.cell,I.free,I.freeC,I.pin,I.hok,hl.trans I.len⟩
theorem Inv.pins_of {pins' : List (Addr × Obj)} (I : Inv X pins σ H s) (h : ∀ p ∈ pins',s.heap.get? p.1 = some p.2 /\ H p.1 = none /\ p.1 ≠ X.env.locals /\ p.1 ∉ X.fs /\ ∀ v,p.2.data ≠ .cell v) : Inv X pins' σ H s :=
  ⟨I.ok,I.os,I.bare,I.base,I.loc,I.cell,I.free,I.freeC,fun p hp => (List.mem_append.mp hp).elim (fun z => I.pin p (List.mem_append_left _ z)) (h p),I.hok,I.len⟩
theorem yR {N : List Str} (hN : N.Nodup) {i j : Nat} {x : Str} (a : N[i]? = some x) (b : N[j]? = some x) : i = j := by
  obtain ⟨h1,e1⟩ := List.getElem?_eq_some_iff.mp a
  obtain ⟨h2,e2⟩ := List.getElem?_eq_some_iff.mp b
  exact (List.getElem_inj hN).mp (e1.trans e2.symm)
theorem QX {M : Model} {A : Around} {E : Value -> Shared -> Prop} {i : Nat} {x : Str} {v : V} {u : Value} {Q : Unit -> Shared -> Prop} (I : Inv X pins σ H s) (hN : X.N.Nodup) (hi : X.N[i]? = some x) (hx : Loc X.env.scope x) (r : RelV v u)
    (h : ∀ s',Inv X pins (σ.set i (some v)) H s' -> (∃ a,Heap.SameBut a s.heap s'.heap /\ (a = X.env.locals \/ X.env.cells.lookup x = some a)) -> Q () s') (hf : X.fn x = true \/ X.env.scope.names.lookup x = some .local := by first | exact .inl rfl | exact .inr rfl | assumption) : wpAny M A (storeName X.env x u) Q E s := by
  obtain ⟨m,hn,hl⟩ := id I.loc
  have hcls : (X.env.scope.kind == .class || (X.env.scope.kind == .module && X.env.locals != X.env.globals)) = false := by rw [I.ok.kind];rfl
  have hiσ : i < σ.length := by rw [I.len];exact (List.getElem?_eq_some_iff.mp hi).1
  have cne := I.cne
  have tracked : ∀ {a : Addr} {h' : Heap},(∃ o,s.heap.get? a = some o /\ H a = none) -> Heap.SameBut a s.heap h' -> HOk X.prog X.w H h' := fun {a h'} ha hs b ob e => by
    obtain ⟨_,_,hfree⟩ := ha
    refine (I.hok b ob e).stay (fun c w' hc q => (hs.2 c ?_).trans q) (fun _ q => q) fun _ _ q => q
    rintro rfl
    rcases hc with rfl | hc
    · rw [hfree] at e;cases e
    · rw [hfree] at hc;cases hc
  rcases hx with hk | hk
  · refine wpAny_storeName_local hk hn (fun h' hn' hs => ?_) hcls
    obtain ⟨oL,_,_,hoL,_⟩ := id hn
    refine h _ ⟨I.ok,I.os,I.bare,⟨fun b o e n hb hx => ?_,fun b o e n hb hx => ?_,I.base.free,fun b o e hx => ?_,I.base.tups,I.base.frzs,I.base.tbls⟩,⟨_,hn',fun j y v' e1 e2 e3 => ?_⟩,fun y c e => ?_,I.free,I.freeC,fun p hp => ?_,tracked ⟨oL,hoL,I.free⟩ hs,by simpa using I.len⟩ ⟨_,hs,.inl rfl⟩
    · exact (hs.2 b (Nat.ne_of_lt (Nat.lt_of_lt_of_le (Heap.lt_size e) I.ok.above))).trans (I.base.keep b o e n hb hx)
    · obtain ⟨sl,e1⟩ := I.base.slot b o e n hb hx
      exact ⟨sl,(hs.2 b (Nat.ne_of_lt (Nat.lt_of_lt_of_le (Heap.lt_size e) I.ok.above))).trans e1⟩
    · obtain ⟨o',e1⟩ := I.base.there b o e hx
      exact ⟨o',(hs.2 b (Nat.ne_of_lt (Nat.lt_of_lt_of_le (Heap.lt_size e) I.ok.above))).trans e1⟩
    · by_cases hj : j = i
      · subst hj
        rw [hi] at e1;cases e1
        rw [List.getElem?_set_self hiσ] at e2
        cases e2
        exact ⟨u,r,.inl ⟨hk,by simp⟩⟩
      · rw [List.getElem?_set_ne (Ne.symm hj)] at e2
        obtain ⟨u',r',q⟩ := hl j y v' e1 e2 e3
        refine ⟨u',r',?_⟩
        rcases q with ⟨k,e⟩ | ⟨k,c,e,z⟩
        · refine .inl ⟨k,?_⟩
          have : y ≠ x := fun e => hj (yR hN e1 (e ▸ hi))
          simp [this,e]
        · exact .inr ⟨k,c,e,z.sameBut hs (cne y c e)⟩
    · obtain ⟨w',z⟩ := I.cell y c e
      exact ⟨w',z.sameBut hs (cne y c e)⟩
    · obtain ⟨e,n,ne,nf,d⟩ := I.pin p hp
      exact ⟨(hs.2 p.1 ne).trans e,n,ne,nf,d⟩
  · have hfn : X.fn x = true := by
      rcases hf with z | z
      · exact z
      · rw [z] at hk;cases hk
    obtain ⟨c,hc⟩ := I.ok.has x (.inl hk)
    obtain ⟨w',z⟩ := I.cell x c hc
    refine wpAny_storeName_cell I.ok.kind hk hc z (fun h' hc' hs => ?_)
    obtain ⟨oc,hoc,hocd⟩ := id z
    refine h { s with heap := h' } ⟨I.ok,I.os,I.bare,⟨fun b o e n hb hx => ?_,fun b o e n hb hx => ?_,I.base.free,fun b o e hx => ?_,I.base.tups,I.base.frzs,I.base.tbls⟩,⟨m,hn.sameBut hs (Ne.symm (cne x c hc)),fun j y v' e1 e2 e3 => ?_⟩,fun y c' e => ?_,I.free,I.freeC,fun p hp => ?_,tracked ⟨oc,hoc,I.freeC x c hc⟩ hs,by simpa using I.len⟩ ⟨c,hs,.inr hc⟩
    · exact (hs.2 b (Nat.ne_of_lt (Nat.lt_of_lt_of_le (Heap.lt_size e) (I.ok.cab x c hfn hc)))).trans (I.base.keep b o e n hb hx)
    · obtain ⟨sl,e1⟩ := I.base.slot b o e n hb hx
      exact ⟨sl,(hs.2 b (Nat.ne_of_lt (Nat.lt_of_lt_of_le (Heap.lt_size e) (I.ok.cab x c hfn hc)))).trans e1⟩
    · obtain ⟨o',e1⟩ := I.base.there b o e hx
      exact ⟨o',(hs.2 b (Nat.ne_of_lt (Nat.lt_of_lt_of_le (Heap.lt_size e) (I.ok.cab x c hfn hc)))).trans e1⟩
    · by_cases hj : j = i
      · subst hj
        rw [hi] at e1;cases e1
        rw [List.getElem?_set_self hiσ] at e2
        cases e2
        exact ⟨u,r,.inr ⟨.inl hk,c,hc,hc'⟩⟩
      · rw [List.getElem?_set_ne (Ne.symm hj)] at e2
        obtain ⟨u',r',q⟩ := hl j y v' e1 e2 e3
        refine ⟨u',r',?_⟩
        rcases q with q | ⟨k,c',e,z'⟩
        · exact .inl q
        · refine .inr ⟨k,c',e,z'.sameBut hs ?_⟩
          rintro rfl
          exact hj (yR hN e1 (I.ok.inj _ _ _ e hc ▸ hi))
    · by_cases hcc : c' = c
      · subst hcc;exact ⟨_,hc'⟩
      · obtain ⟨w2,z2⟩ := I.cell y c' e
        exact ⟨w2,z2.sameBut hs hcc⟩
    · obtain ⟨e,n,ne,nf,d⟩ := I.pin p hp
      refine ⟨(hs.2 p.1 ?_).trans e,n,ne,nf,d⟩
      intro q
      rw [q,hoc] at e
      have q' : oc = p.2 := Option.some.inj e
      exact d w' (by rw [<- q'];exact hocd)
theorem xA {M : Model} {A : Around} {E : Value -> Shared -> Prop} {i : Nat} {x : Str} {v : V} {u : Value} {Q : Unit -> Shared -> Prop} (I : Inv X pins σ H s) (hN : X.N.Nodup) (hi : X.N[i]? = some x) (hx : Loc X.env.scope x) (r : RelV v u)
    (h : ∀ s',Inv X pins (σ.set i (some v)) H s' -> Q () s') (hf : X.fn x = true \/ X.env.scope.names.lookup x = some .local := by first | exact .inl rfl | exact .inr rfl | assumption) : wpAny M A (storeName X.env x u) Q E s :=
  QX I hN hi hx r (fun s' I' _ => h s' I') hf
theorem Inv.call' {s' : Shared} {ch : List Addr} (I : Inv X pins σ H s) (ho : s'.os = s.os) (u : Un (frs X.stack) ch H H' s.heap s'.heap) (hok : HOk X.prog X.w H' s'.heap) (hg : AllBare s'.gens)
    (hch : ∀ b ∈ ch,(b ∈ X.ex \/ X.s₀.heap.objs.size <= b) /\ b ≠ X.env.locals /\ (∀ x c,X.env.cells.lookup x = some c -> c ≠ b) /\ ∀ p ∈ X.pn ++ pins,p.1 ≠ b) : Inv X pins σ H' s' := by
  obtain ⟨h',g',d',t',o'⟩ := s'
  have e : o' = s.os := ho
  subst e
  exact I.call (g' := g') (t' := t') (d' := d') u hok hg hch
end
abbrev XK := Value -> Option Addr -> Hp -> Prop
abbrev St := List (Option V)
abbrev VK := V -> Hp -> Prop
abbrev TE := St -> Hp -> VK -> Prop
abbrev TT := St -> Hp -> (Bool -> Hp -> Prop) -> Prop
abbrev TA := St -> Hp -> (List V -> Hp -> Prop) -> Prop
structure wc where
  nx : St -> Hp -> Prop
  rt : VK
  bk : St -> Hp -> Prop := fun _ _ => False
  ct : St -> Hp -> Prop := fun _ _ => False
abbrev TS := wc -> St -> Hp -> Prop
def EP (X : Cx) (pins : List (Addr × Obj)) (σ : St) (Q : VK) (u : Value) (s' : Shared) : Prop := ∃ v H',Inv X pins σ H' s' /\ RelV v u /\ Q v H'
def TP (X : Cx) (pins : List (Addr × Obj)) (σ : St) (Q : Bool -> Hp -> Prop) (b : Bool) (s' : Shared) : Prop := ∃ H',Inv X pins σ H' s' /\ Q b H'
def AP (X : Cx) (pins : List (Addr × Obj)) (σ : St) (Q : List V -> Hp -> Prop) (us : List Value) (s' : Shared) : Prop := ∃ vs H',Inv X pins σ H' s' /\ Vals vs us /\ Q vs H'
def SP (X : Cx) (pins : List (Addr × Obj)) (D : wc) (f : Flow) (s' : Shared) : Prop :=
  match f with
  | .next => ∃ σ' H',Inv X pins σ' H' s' /\ D.nx σ' H'
  | .brk => ∃ σ' H',Inv X pins σ' H' s' /\ D.bk σ' H'
  | .cont => ∃ σ' H',Inv X pins σ' H' s' /\ D.ct σ' H'
  | .ret u => ∃ v σ' H',Inv X pins σ' H' s' /\ RelV v u /\ D.rt v H'
def PE (X : Cx) (e : Expr) (t : TE) : Prop :=
  ∀ (pins : List (Addr × Obj)) (s : Shared) (σ : St) (H : Hp) (Q : VK),Inv X pins σ H s -> t σ H Q -> wpAny (model X.prog X.w) X.A (eval e X.env) (EP X pins σ Q) X.xe s
def PT (X : Cx) (e : Expr) (t : TT) : Prop :=
  ∀ (pins : List (Addr × Obj)) (s : Shared) (σ : St) (H : Hp) (Q : Bool -> Hp -> Prop),Inv X pins σ H s -> t σ H Q -> wpAny (model X.prog X.w) X.A (isTrue e X.env (eval e X.env)) (TP X pins σ Q) X.xe s
def PW (X : Cx) (e : Expr) (t : TT) : Prop :=
  ∀ (whole : Sem Value) (pins : List (Addr × Obj)) (s : Shared) (σ : St) (H : Hp) (Q : Bool -> Hp -> Prop),Inv X pins σ H s -> t σ H Q -> wpAny (model X.prog X.w) X.A (isTrue e X.env whole) (TP X pins σ Q) X.xe s
theorem PW.pt {X : Cx} {e : Expr} {t : TT} (h : PW X e t) : PT X e t := h _
def PA (X : Cx) (es : List Expr) (t : TA) : Prop :=
  ∀ (pos : Pos) (pins : List (Addr × Obj)) (s : Shared) (σ : St) (H : Hp) (Q : List V -> Hp -> Prop),Inv X pins σ H s -> t σ H Q -> wpAny (model X.prog X.w) X.A (spliced (backTo pos (starEach es X.env))) (AP X pins σ Q) X.xe s
def PS (X : Cx) (st : Stmt) (t : TS) : Prop :=
  ∀ (pins : List (Addr × Obj)) (s : Shared) (σ : St) (H : Hp) (D : wc),Inv X pins σ H s -> t D σ H -> wpAny (model X.prog X.w) X.A (exec st X.env) (SP X pins D) X.xe s
def PSs (X : Cx) (st : List Stmt) (t : TS) : Prop :=
  ∀ (pins : List (Addr × Obj)) (s : Shared) (σ : St) (H : Hp) (D : wc),Inv X pins σ H s -> t D σ H -> wpAny (model X.prog X.w) X.A (execs st X.env) (SP X pins D) X.xe s
theorem thn {α : Type} {t : Sem α} {Q Q' : α -> Shared -> Prop} {M : Model} {A : Around} {E : Value -> Shared -> Prop} {s : Shared} (h : wpAny M A t Q E s) (hQ : ∀ a s,Q a s -> Q' a s) : wpAny M A t Q' E s := wpAny_mono h hQ fun _ _ x => x
end L2
namespace L2
open PySem PySem.Spec PyProof.Rows
section
variable {X : Cx}
inductive IsB (x : V) (H : Hp) (Q : Bool -> Hp -> Prop) : Prop
  | mk (c : Bool) (h : x = .bl c) (q : Q c H) : IsB x H Q
inductive IsI (x : V) (H : Hp) (Q : Int -> Hp -> Prop) : Prop
  | mk (i : Int) (h : x = .int i) (q : Q i H) : IsI x H Q
inductive WV (vs : List V) (H : Hp) (Q : V -> V -> Hp -> Prop) : Prop
  | mk (v w : V) (h : vs = [v,w]) (q : Q v w H) : WV vs H Q
inductive VG (i : Nat) (σ : St) (H : Hp) (Q : VK) : Prop
  | mk (v : _) (_ : σ[i]? = some (some v)) (_ : Q v H) : VG i σ H Q
def tC (v : V) : TE := fun _ H Q => Q v H
theorem VS {i : Nat} {x : Str} {pos : Pos} (hN : X.N[i]? = some x) (hv : Vis X.env.scope x) (hd : (x == ("__debug__" : Str)) = false := by decide) (hcd : (x == ("__classdict__" : Str)) = false := by decide) : PE X (.Name x pos) (VG i) := by
  intro pins s σ H Q I h
  obtain ⟨v,e,h⟩ := h
  obtain ⟨m,hn,hl⟩ := I.loc
  obtain ⟨u,r,l⟩ := hl i x v hN e hv
  have fin : EP X pins σ Q u s := ⟨v,H,I,r,h⟩
  rcases l with ⟨hk,hm⟩ | ⟨hk,c,hc,hcell⟩
  · exact wpAny_Name (wpAny_loadName_local I.ok.kind hk hn hm fin) hd
  · rcases hk with hk | hk
    · exact wpAny_Name (wpAny_loadName_cell I.ok.kind hk hc hcell fin) hd
    · exact wpAny_Name (wpAny_loadName_free I.ok.kind hk hc hcell fin hcd) hd
theorem ze {i j pos} : PE X (.Constant (.int i) j pos) (tC (.int i)) := fun _ _ _ H _ I h => wpAny_Constant_int ⟨.int i,H,I.tok _,⟨_,rfl⟩,h⟩
theorem x9 {b j pos} : PE X (.Constant (.bool b) j pos) (tC (.bl b)) := fun _ _ _ H _ I h => Constant_bool ⟨.bl b,H,I,rfl,h⟩
theorem JQ {j pos} : PE X (.Constant .none j pos) (tC .non) := fun _ _ _ H _ I h => Constant_none ⟨.non,H,I,rfl,h⟩
theorem jY {x j pos} : PE X (.Constant (.str x) j pos) (tC (.str x)) := fun _ _ _ H _ I h => Calls.Constant_str ⟨.str x,H,I.tok _,⟨_,rfl⟩,h⟩
def Gl (X : Cx) (x : Str) : Prop := X.env.kindOf x = some .globalImplicit
theorem X7 {E : Value -> Shared -> Prop} {pins : List (Addr × Obj)} {s : Shared} {σ : St} {H : Hp} {x : Str} {u : Value} {pos : Pos} {Q : Value -> Shared -> Prop} (I : Inv X pins σ H s) (hg : Gl X x) (hm : X.mg x = some u) (h : Q u s)
    (hd : (x == ("__debug__" : Str)) = false := by decide) : wpAny (model X.prog X.w) X.A (eval (.Name x pos) X.env) Q E s :=
  Calls.Name_function_global I.ok.kind hg (Calls.loadGlobal_global (by rw [I.ok.glob];exact I.mod.glob.keeps I.bk) hm h) hd
theorem jK {E : Value -> Shared -> Prop} {pins : List (Addr × Obj)} {s : Shared} {σ : St} {H : Hp} {x : Str} {u : Value} {pos : Pos} {Q : Value -> Shared -> Prop} (I : Inv X pins σ H s) (hg : Gl X x) (hm : X.mg x = none) (hv : bootBuiltins x = some u) (h : Q u s)
    (hn : x ≠ "__name__" := by decide) (hd : (x == ("__debug__" : Str)) = false := by decide) : wpAny (model X.prog X.w) X.A (eval (.Name x pos) X.env) Q E s := by
  obtain ⟨mb,h1,h2⟩ := I.mod.blt
  exact Calls.Name_function_global I.ok.kind hg (Calls.loadGlobal_builtin (by rw [I.ok.glob];exact I.mod.glob.keeps I.bk) hm (by rw [I.ok.blt];exact h1.keeps I.bk) ((h2 x hn).trans hv) h) hd
theorem zO {x : Str} {v : V} {u : Value} {pos : Pos} (hg : Gl X x) (hm : X.mg x = none) (hv : bootBuiltins x = some u) (r : RelV v u) (hn : x ≠ "__name__" := by decide) (hd : (x == ("__debug__" : Str)) = false := by decide) : PE X (.Name x pos) (tC v) :=
  fun _ _ _ H _ I h => jK I hg hm hv ⟨v,H,I,r,h⟩ hn hd
variable {a b : Expr} {ta tb : TE} {pos : Pos}
def tB (t : TE) : TT := fun σ H Q => t σ H fun x H1 => IsB x H1 Q
theorem qD {e : Expr} {t : TE} (h : PE X e t) (he : ∀ whole,isTrue e X.env whole = (do let v <- whole;standAt e.pos;holding [v] (truthy v)) := by intro _;rfl) : PT X e (tB t) := by
  intro pins s σ H Q I hw
  refine isTrue_plain (thn (h pins s σ H _ I hw) fun v s1 ⟨x,H1,I1,r1,q1⟩ => ?_) (he _)
  obtain ⟨d,rfl,q⟩ := q1
  cases r1
  exact wpAny_truthy_bool ⟨H1,I1,q⟩
variable {tA tB' : TT} {xn : List Expr}
def Yb (t u : TT) : TT := fun σ H Q => t σ H fun c H1 => if c = true then u σ H1 Q else Q false H1
def tOr (t u : TT) : TT := fun σ H Q => t σ H fun c H1 => if c = true then Q true H1 else u σ H1 Q
def W6 (t : TT) : TT := fun σ H Q => t σ H fun c H1 => Q (!c) H1
theorem vp (ha : PT X a tA) : PW X (.BoolOp .And [a] pos) tA := by
  intro wh pins s σ H Q I h
  refine isTrue_and (thn (ha pins s σ H Q I h) fun c s1 e => ?_)
  cases c with
  | true => exact isTrue_and_nil e
  | false => exact e
theorem jE (ha : PT X a tA) : PW X (.BoolOp .Or [a] pos) tA := by
  intro wh pins s σ H Q I h
  refine isTrue_or (thn (ha pins s σ H Q I h) fun c s1 e => ?_)
  cases c with
  | false => exact isTrue_or_nil e
  | true => exact e
theorem yb (ha : PT X a tA) (hb : PW X (.BoolOp .And (b :: xn) pos) tB') : PW X (.BoolOp .And (a :: b :: xn) pos) (Yb tA tB') := by
  intro wh pins s σ H Q I h
  refine isTrue_and (thn (ha pins s σ H _ I h) fun c s1 ⟨H1,I1,q1⟩ => ?_)
  cases c with
  | true => exact hb wh pins s1 σ H1 Q I1 q1
  | false => exact ⟨H1,I1,q1⟩
theorem jP (ha : PT X a tA) (hb : PW X (.BoolOp .Or (b :: xn) pos) tB') : PW X (.BoolOp .Or (a :: b :: xn) pos) (tOr tA tB') := by
  intro wh pins s σ H Q I h
  refine isTrue_or (thn (ha pins s σ H _ I h) fun c s1 ⟨H1,I1,q1⟩ => ?_)
  cases c with
  | true => exact ⟨H1,I1,q1⟩
  | false => exact hb wh pins s1 σ H1 Q I1 q1
theorem jF (ha : PT X a tA) : PT X (.UnaryOp .Not a pos) (W6 tA) := by
  intro pins s σ H Q I h
  exact isTrue_not (ha pins s σ H (fun c H1 => Q (!c) H1) I h)
def Wv (ta tb : TE) : TE := fun σ H Q => ta σ H fun x H1 => IsB x H1 fun c H1 => if c = true then tb σ H1 Q else Q (.bl false) H1
def W5 (ta tb : TE) : TE := fun σ H Q => ta σ H fun x H1 => IsB x H1 fun c H1 => if c = true then Q (.bl true) H1 else tb σ H1 Q
def Wr (ta : TE) : TE := fun σ H Q => ta σ H fun x H1 => IsB x H1 fun c H1 => Q (.bl (!c)) H1
theorem xt {op} {t : TE} (h : PE X a t) : PE X (.BoolOp op [a] pos) t := fun pins s σ H Q I hw => BoolOp_one (h pins s σ H Q I hw)
theorem xw (ha : PE X a ta) (hb : PE X (.BoolOp .And (b :: xn) pos) tb) : PE X (.BoolOp .And (a :: b :: xn) pos) (Wv ta tb) := by
  intro pins s σ H Q I h
  refine BoolOp_and (thn (ha pins s σ H _ I h) fun v s1 ⟨x,H1,I1,r1,q1⟩ => ?_)
  obtain ⟨c,rfl,q1⟩ := q1
  cases r1
  refine wpAny_truthy_bool ?_
  cases c with
  | true => exact hb pins s1 σ H1 Q I1 q1
  | false => exact ⟨.bl false,H1,I1,rfl,q1⟩
theorem WE (ha : PE X a ta) (hb : PE X (.BoolOp .Or (b :: xn) pos) tb) : PE X (.BoolOp .Or (a :: b :: xn) pos) (W5 ta tb) := by
  intro pins s σ H Q I h
  refine BoolOp_or (thn (ha pins s σ H _ I h) fun v s1 ⟨x,H1,I1,r1,q1⟩ => ?_)
  obtain ⟨c,rfl,q1⟩ := q1
  cases r1
  refine wpAny_truthy_bool ?_
  cases c with
  | false => exact hb pins s1 σ H1 Q I1 q1
  | true => exact ⟨.bl true,H1,I1,rfl,q1⟩
theorem JO (ha : PE X a ta) : PE X (.UnaryOp .Not a pos) (Wr ta) := by
  intro pins s σ H Q I h
  refine UnaryOp_ (thn (ha pins s σ H _ I h) fun v s1 ⟨x,H1,I1,r1,q1⟩ => ?_)
  obtain ⟨c,rfl,q1⟩ := q1
  cases r1
  exact not_of (wpAny_truthy_bool ⟨.bl (!c),H1,I1,rfl,q1⟩)
def tIf (t : TT) (ta tb : TE) : TE := fun σ H Q => t σ H fun c H1 => if c = true then ta σ H1 Q else tb σ H1 Q
theorem qN {c : Expr} (hc : PT X c tA) (ha : PE X a ta) (hb : PE X b tb) : PE X (.IfExp c a b pos) (tIf tA ta tb) := by
  intro pins s σ H Q I h
  refine wpAny_IfExp (thn (hc pins s σ H _ I h) fun d s1 ⟨H1,I1,q1⟩ => ?_)
  cases d with
  | true => exact ha pins s1 σ H1 Q I1 q1
  | false => exact hb pins s1 σ H1 Q I1 q1
end
end L2
namespace L2
open PySem PySem.Spec PyProof.Rows
def SqL (K : PySem.W.Frag) (H : Hp) (a : Addr) (xs : List V) : Prop :=
  Rd H a (.lst xs) \/
    ∃ (o : Obj) (its : Array Value) (n : Nat),K.lookup a = some o /\ o.cls = .type "list" /\ o.dict = none /\ o.data = .seq its n /\ its.size <= sizeLine /\ Vals xs its.toList
def SqT (K : PySem.W.Frag) (H : Hp) (a : Addr) (xs : List V) : Prop :=
  Rd H a (.tup xs) \/
    ∃ (o : Obj) (its : Array Value) (n : Nat),K.lookup a = some o /\ o.cls = .type "tuple" /\ o.data = .seq its n /\ its.size <= sizeLine /\ Vals xs its.toList
def Yh : Value -> Option V
  | .none => some .non
  | .bool b => some (.bl b)
  | .int i _ => some (.int i)
  | .str x _ => some (.str x)
  | .bytes b _ => some (.byt b)
  | .float b _ => some (.flt b)
  | .ref a => some (.ref a)
  | .type n => some (.ty n)
  | _ => none
theorem RelV.abs {x : V} {u : Value} (r : RelV x u) : Yh u = some x := by
  cases x with
  | non => cases r;rfl
  | bl _ => cases r;rfl
  | int _ => obtain ⟨t,rfl⟩ := r;rfl
  | str _ => obtain ⟨t,rfl⟩ := r;rfl
  | byt _ => obtain ⟨t,rfl⟩ := r;rfl
  | flt _ => obtain ⟨t,rfl⟩ := r;rfl
  | ref _ => cases r;rfl
  | ty _ => cases r;rfl
theorem RelV.inj {x y : V} {u : Value} (r : RelV x u) (q : RelV y u) : x = y := Option.some.inj (r.abs.symm.trans q.abs)
theorem Vals.inj : ∀ {xs ys : List V} {us : List Value},Vals xs us -> Vals ys us -> xs = ys
  | _,_,_,.nil,.nil => rfl
  | _,_,_,.cons r t,.cons r' t' => by rw [r.inj r',Vals.inj t t']
section
variable {X : Cx} {pins : List (Addr × Obj)} {σ : St} {H : Hp} {s : Shared} {a : Addr} {xs ys : List V}
theorem SqL.of {K : PySem.W.Frag} (h : H a = some (.lst xs)) : SqL K H a xs := .inl (.inl h)
theorem SqT.of {K : PySem.W.Frag} (h : H a = some (.tup xs)) : SqT K H a xs := .inl (.inl h)
theorem Inv.list (I : Inv X pins σ H s) (h : SqL X.K H a xs) : ∃ its : List Value,Vals xs its /\ PlainL s.heap a its.toArray /\ xs.length <= sizeLine := by
  rcases h with h | ⟨o,its,n,hk,hc,hd,hs,hz,r⟩
  · obtain ⟨z,its,n,r,e⟩ := h.ok I.hok
    exact ⟨its,r,⟨_,n,e,rfl,rfl,rfl⟩,z⟩
  · refine ⟨its.toList,r,⟨o,n,I.kIn a o hk,hc,hd,by simpa using hs⟩,?_⟩
    have e := r.length
    simp only [Array.length_toList] at e
    omega
theorem Inv.tuple (I : Inv X pins σ H s) (h : SqT X.K H a xs) : ∃ its : List Value,Vals xs its /\ IsTup s.heap a its.toArray /\ xs.length <= sizeLine := by
  rcases h with h | ⟨o,its,n,hk,hc,hs,hz,r⟩
  · obtain ⟨z,its,r,p⟩ := h.ok I.hok
    exact ⟨its,r,p.1,z⟩
  · refine ⟨its.toList,r,⟨o,I.kIn a o hk,hc,n,by simpa using hs⟩,?_⟩
    have e := r.length
    simp only [Array.length_toList] at e
    omega
theorem Inv.list_inj (I : Inv X pins σ H s) (h : SqL X.K H a xs) (h' : SqL X.K H a ys) : xs = ys := by
  obtain ⟨its,r,⟨o,n,e,_,_,d⟩,_⟩ := I.list h
  obtain ⟨its',r',⟨o',n',e',_,_,d'⟩,_⟩ := I.list h'
  rw [e] at e';cases e'
  rw [d] at d'
  injection d' with d1 _
  have : its = its' := by simpa using congrArg Array.toList d1
  subst this
  exact r.inj r'
theorem Inv.tuple_inj (I : Inv X pins σ H s) (h : SqT X.K H a xs) (h' : SqT X.K H a ys) : xs = ys := by
  obtain ⟨its,r,⟨o,e,_,n,d⟩,_⟩ := I.tuple h
  obtain ⟨its',r',⟨o',e',_,n',d'⟩,_⟩ := I.tuple h'
  rw [e] at e';cases e'
  rw [d] at d'
  injection d' with d1 _
  have : its = its' := by simpa using congrArg Array.toList d1
  subst this
  exact r.inj r'
end
abbrev Cx.wish (X : Cx) (E : Value -> Shared -> Prop) : Cx := { X with xe := E }
abbrev Cx.nox (X : Cx) : Cx := X.wish fun _ _ => False
theorem Cx.Ok.wish {X : Cx} (ok : X.Ok) (E : Value -> Shared -> Prop) : (X.wish E).Ok :=
  ⟨ok.mod,ok.kind,ok.glob,ok.blt,ok.above,ok.inj,ok.has,ok.cab,ok.hd,ok.frames,ok.stk,ok.exf,ok.bs,ok.bsz,ok.noex,ok.exfs,ok.funs,ok.frf⟩
theorem Cx.Ok.unwish {X : Cx} {E : Value -> Shared -> Prop} (ok : (X.wish E).Ok) : X.Ok :=
  ⟨ok.mod,ok.kind,ok.glob,ok.blt,ok.above,ok.inj,ok.has,ok.cab,ok.hd,ok.frames,ok.stk,ok.exf,ok.bs,ok.bsz,ok.noex,ok.exfs,ok.funs,ok.frf⟩
section
variable {X : Cx} {pins : List (Addr × Obj)} {σ : St} {H : Hp} {s : Shared} {E : Value -> Shared -> Prop}
theorem Inv.wish (I : Inv X pins σ H s) (E : Value -> Shared -> Prop) : Inv (X.wish E) pins σ H s := ⟨I.ok.wish E,I.os,I.bare,I.base,I.loc,I.cell,I.free,I.freeC,I.pin,I.hok,I.len⟩
theorem Inv.unwish (I : Inv (X.wish E) pins σ H s) : Inv X pins σ H s := ⟨I.ok.unwish,I.os,I.bare,I.base,I.loc,I.cell,I.free,I.freeC,I.pin,I.hok,I.len⟩
theorem SP.unwish {D : wc} {f : Flow} {s' : Shared} (h : SP (X.wish E) pins D f s') : SP X pins D f s' := by
  cases f with
  | next => obtain ⟨σ',H',I,q⟩ := h;exact ⟨σ',H',I.unwish,q⟩
  | brk => obtain ⟨σ',H',I,q⟩ := h;exact ⟨σ',H',I.unwish,q⟩
  | cont => obtain ⟨σ',H',I,q⟩ := h;exact ⟨σ',H',I.unwish,q⟩
  | ret u => obtain ⟨v,σ',H',I,r,q⟩ := h;exact ⟨v,σ',H',I.unwish,r,q⟩
theorem PE.nox {e : Expr} {t : TE} (h : PE X.nox e t) : PE X e t := fun pins s σ H Q I hw =>
  wpAny_mono (h pins s σ H Q (I.wish _) hw) (fun _ _ ⟨v,H',I',r,q⟩ => ⟨v,H',I'.unwish,r,q⟩) fun _ _ z => False.elim z
theorem PT.nox {e : Expr} {t : TT} (h : PT X.nox e t) : PT X e t := fun pins s σ H Q I hw =>
  wpAny_mono (h pins s σ H Q (I.wish _) hw) (fun _ _ ⟨H',I',q⟩ => ⟨H',I'.unwish,q⟩) fun _ _ z => False.elim z
theorem PSs.nox {st : List Stmt} {t : TS} (h : PSs X.nox st t) : PSs X st t := fun pins s σ H D I hw =>
  wpAny_mono (h pins s σ H D (I.wish _) hw) (fun _ _ q => q.unwish) fun _ _ z => False.elim z
end
section
variable {X : Cx} {st : Stmt} {xn : List Stmt} {t u : TS} {e : Expr} {te : TE} {pos : Pos}
def Ws : TS := fun D σ H => D.nx σ H
def W1 (t u : TS) : TS := fun D σ H => t { D with nx := u D } σ H
theorem qk : PSs X [] Ws := fun _ _ σ H _ I h => wpAny_execs_nil ⟨σ,H,I,h⟩
theorem zf (h1 : PS X st t) (h2 : PSs X xn u) : PSs X (st :: xn) (W1 t u) := by
  intro pins s σ H D I h
  refine wpAny_execs_cons (thn (h1 pins s σ H { D with nx := u D } I h) fun f s1 q => ?_)
  cases f with
  | next =>
    obtain ⟨σ',H',I',q⟩ := q
    exact h2 pins s1 σ' H' D I' q
  | ret v => exact q
  | brk => exact q
  | cont => exact q
theorem zk (h1 : PS X st t) : PSs X [st] t := by
  intro pins s σ H D I h
  refine wpAny_execs_cons (thn (h1 pins s σ H D I h) fun f s1 q => ?_)
  cases f with
  | next => exact wpAny_execs_nil q
  | ret v => exact q
  | brk => exact q
  | cont => exact q
theorem Inv.quiet {pins : List (Addr × Obj)} {σ : St} {H : Hp} {s : Shared} (I : Inv X pins σ H s) : interactive X.env = false := by simp [interactive,I.ok.kind]
def Wu (te : TE) : TS := fun D σ H => te σ H fun _ H1 => D.nx σ H1
theorem qx (he : PE X e te) (hs : swapsWith e none pos.line X.env = pure false := by rfl) : PS X (.Expr e pos) (Wu te) := by
  intro pins s σ H D I h
  exact wpAny_Expr_any (thn (he pins s σ H _ I h) fun v s1 ⟨x,H1,I1,r1,q1⟩ => ⟨σ,H1,I1,q1⟩) I.quiet hs
def W3 (te : TE) : TS := fun D σ H => te σ H D.rt
theorem zx (he : PE X e te) : PS X (.Return (some e) pos) (W3 te) := by
  intro pins s σ H D I h
  exact wpAny_Return_some (thn (he pins s σ H _ I h) fun v s1 ⟨x,H1,I1,r1,q1⟩ => ⟨x,σ,H1,I1,r1,q1⟩)
def W8 (c : TT) (t u : TS) : TS := fun D σ H => c σ H fun b H1 => if b = true then t D σ H1 else u D σ H1
theorem qJ {c : Expr} {a b : List Stmt} {tc : TT} (hc : PT X c tc) (ha : PSs X a t) (hb : PSs X b u) : PS X (.If c a b pos) (W8 tc t u) := by
  intro pins s σ H D I h
  refine wpAny_If (thn (hc pins s σ H _ I h) fun d s1 ⟨H1,I1,q1⟩ => ?_)
  cases d with
  | true => exact ha pins s1 σ H1 D I1 q1
  | false => exact hb pins s1 σ H1 D I1 q1
end
abbrev TG := V -> St -> Hp -> (St -> Hp -> Prop) -> Prop
abbrev TGs := List V -> St -> Hp -> (St -> Hp -> Prop) -> Prop
def PG (X : Cx) (target : Expr) (t : TG) : Prop :=
  ∀ (pins : List (Addr × Obj)) (s : Shared) (σ : St) (H : Hp) (v : V) (u : Value) (Q : St -> Hp -> Prop),Inv X pins σ H s -> RelV v u -> t v σ H Q ->
    wpAny (model X.prog X.w) X.A (assign target X.env u) (fun _ s' => ∃ σ' H',Inv X pins σ' H' s' /\ Q σ' H') X.xe s
def PGs (X : Cx) (ts : List Expr) (t : TGs) : Prop :=
  ∀ (pins : List (Addr × Obj)) (s : Shared) (σ : St) (H : Hp) (vs : List V) (us : List Value) (Q : St -> Hp -> Prop),Inv X pins σ H s -> Vals vs us -> t vs σ H Q ->
    wpAny (model X.prog X.w) X.A (assignInOrder ((assignEach ts X.env).map (·.2)) us) (fun _ s' => ∃ σ' H',Inv X pins σ' H' s' /\ Q σ' H') X.xe s
abbrev Wk := V -> V -> V -> Hp -> (Hp -> Prop) -> Prop
def WR (X : Cx) (t : Wk) : Prop :=
  ∀ (pins : List (Addr × Obj)) (s : Shared) (σ : St) (H : Hp) (o i v : V) (ov iv u : Value) (Q : Hp -> Prop),Inv X pins σ H s -> RelV o ov -> RelV i iv -> RelV v u -> t o i v H Q ->
    wpAny (model X.prog X.w) X.A (setItem ov iv u) (fun _ s' => ∃ H',Inv X pins σ H' s' /\ Q H') X.xe s
section
variable {X : Cx} {pos : Pos}
def j5 (i : Nat) : TG := fun v σ H Q => Q (σ.set i (some v)) H
theorem zF {i : Nat} {x : Str} (hN : X.N.Nodup) (hi : X.N[i]? = some x) (hx : Loc X.env.scope x) (hf : X.fn x = true \/ X.env.scope.names.lookup x = some .local := by first | exact .inl rfl | exact .inr rfl | assumption) : PG X (.Name x pos) (j5 i) := by
  intro pins s σ H v u Q I r h
  exact wpAny_assign_Name (xA I hN hi hx r (fun s' I' => ⟨_,H,I',h⟩) hf)
def Wf : TGs := fun vs σ H Q => vs = [] /\ Q σ H
inductive wH (t : TG) (u : TGs) (vs : List V) (σ : St) (H : Hp) (Q : St -> Hp -> Prop) : Prop
  | mk (v r : _) (_ : vs = v :: r) (_ : t v σ H fun σ' H' => u r σ' H' Q) : wH t u vs σ H Q
theorem jc : PGs X [] Wf := by
  intro pins s σ H vs us Q I r h
  obtain ⟨e,h⟩ := h
  subst e
  cases r
  exact assignInOrder_nil ⟨σ,H,I,h⟩
theorem zN {e : Expr} {es : List Expr} {t : TG} {u : TGs} (h1 : PG X e t) (h2 : PGs X es u)
    (hs : (assignEach (e :: es) X.env).map (·.2) = assign e X.env :: (assignEach es X.env).map (·.2) := by rfl) : PGs X (e :: es) (wH t u) := by
  intro pins s σ H vs us Q I r h
  obtain ⟨v,vr,e1,h⟩ := h
  subst e1
  cases r with
  | cons r rr =>
    rw [hs]
    refine assignInOrder_cons (thn (h1 pins s σ H _ _ _ I r h) fun _ s1 ⟨σ1,H1,I1,q1⟩ => ?_)
    exact h2 pins s1 σ1 H1 _ _ Q I1 rr q1
inductive Vd (K : PySem.W.Frag) (n : Nat) (t : TGs) (v : V) (σ : St) (H : Hp) (Q : St -> Hp -> Prop) : Prop
  | mk (a xs : _) (_ : v = .ref a) (_ : SqT K H a xs) (_ : xs.length = n) (_ : t xs σ H Q) : Vd K n t v σ H Q
theorem jy {es : List Expr} {k : Nat} {t : TGs} {n : Nat} (hc : X.calm = true) (h : PGs X es t)
    (hn : (assignEach es X.env).length = n := by rfl) (hst : (assignEach es X.env).findIdx? (·.1) = none := by rfl) : PG X (.Tuple es k pos) (Vd X.K n t) := by
  intro pins s σ H v u Q I r hw
  obtain ⟨a,xs,e1,hq,hl,hw⟩ := hw
  subst e1
  cases r
  obtain ⟨its,rv,ht,hz⟩ := I.tuple hq
  refine assign_Tuple_tuple (I.ok.hd hc) ht (by simp [hn,<- hl,rv.length]) hst fun h' hx => ?_
  have I1 : Inv X pins σ H { s with heap := h' } := I.kept (t' := s.toks) fun b o e => hx b o (Nat.ne_of_lt (Heap.lt_size e)) e
  exact h pins _ σ H xs _ Q I1 (by simpa using rv) hw
def Yg (to ti : TE) (t : Wk) : TG := fun v σ H Q => to σ H fun o H1 => ti σ H1 fun i H2 => t o i v H2 fun H3 => Q σ H3
theorem vN {o i : Expr} {to ti : TE} {t : Wk} (ho : PE X o to) (hi : PE X i ti) (hs : WR X t)
    (ha : ∀ v,assign (.Subscript o i pos) X.env v = (do
      let ov <- holding [v] (eval o X.env)
      let iv <- holding [v,ov] (eval i X.env)
      standAt pos
      holding [v,ov,iv] (setItem ov iv v)
      release [v,ov,iv] []) := by intro _;rfl) : PG X (.Subscript o i pos) (Yg to ti t) := by
  intro pins s σ H v u Q I r h
  rw [ha]
  refine wpAny_bind (wpAny_holding (thn (ho pins s σ H _ I h) fun ov s1 ⟨x,H1,I1,r1,q1⟩ => ?_))
  refine wpAny_bind (wpAny_holding (thn (hi pins s1 σ H1 _ I1 q1) fun iv s2 ⟨y,H2,I2,r2,q2⟩ => ?_))
  refine wpAny_bind (wpAny_standAt (wpAny_bind (wpAny_holding (thn (hs pins s2 σ H2 x y v ov iv u _ I2 r1 r2 r q2) fun _ s3 ⟨H3,I3,q3⟩ => ?_))))
  exact wpAny_release ⟨σ,H3,I3,q3⟩
def Zn (te : TE) (g : TG) : TS := fun D σ H => te σ H fun x H1 => g x σ H1 D.nx
theorem jW {tg e : Expr} {te : TE} {g : TG} (he : PE X e te) (hg : PG X tg g) (hs : swapsWithSole [tg] e pos.line X.env = pure false := by rfl) (hw : swappedStores [tg] e X.env = pure none := by rfl)
    (h1 : (assignEach [tg] X.env).map (·.2) = [assign tg X.env] := by rfl) : PS X (.Assign [tg] e pos) (Zn te g) := by
  intro pins s σ H D I h
  refine wpAny_Assign_stores (thn (he pins s σ H _ I h) fun v s1 ⟨x,H1,I1,r1,q1⟩ => ?_) hs hw
  rw [h1]
  exact thn (hg pins s1 σ H1 x v _ I1 r1 q1) fun _ s2 q => q
theorem zt {i : Nat} {x : Str} {e : Expr} {te : TE} {pos' : Pos} (hN : X.N.Nodup) (hi : X.N[i]? = some x) (hx : Loc X.env.scope x) (he : PE X e te) (hs : swapsWith e (some (.Name x pos')) pos.line X.env = pure false := by rfl) (hf : X.fn x = true \/ X.env.scope.names.lookup x = some .local := by first | exact .inl rfl | exact .inr rfl | assumption) :
    PS X (.Assign [.Name x pos'] e pos) (Zn te (j5 i)) := by
  intro pins s σ H D I h
  refine wpAny_Assign_Name (thn (he pins s σ H _ I h) fun v s1 ⟨y,H1,I1,r1,q1⟩ => ?_) hs
  exact xA I1 hN hi hx r1 (fun s2 I2 => ⟨_,H1,I2,q1⟩) hf
def W4 (i j : Nat) (ta : TA) : TS := fun D σ H => ta σ H fun vs H1 => WV vs H1 fun v w H1 => D.nx ((σ.set i (some v)).set j (some w)) H1
theorem xr {i j : Nat} {x y : Str} {a b : Expr} {ta : TA} {px py pt : Pos} {kt k2 pt2} (hc : X.calm = true) (hN : X.N.Nodup) (hi : X.N[i]? = some x) (hj : X.N[j]? = some y) (hij : i ≠ j)
    (hx : X.env.scope.names.lookup x = some .local) (hy : X.env.scope.names.lookup y = some .local) (ha : PA X [a,b] ta)
    (hw : swappedStores [.Tuple [.Name x px,.Name y py] kt pt] (.Tuple [a,b] k2 pt2) X.env = pure (some [x,y]))
    (hs : swapsWithSole [.Tuple [.Name x px,.Name y py] kt pt] (.Tuple [a,b] k2 pt2) pos.line X.env = pure false := by rfl) :
    PS X (.Assign [.Tuple [.Name x px,.Name y py] kt pt] (.Tuple [a,b] k2 pt2) pos) (W4 i j ta) := by
  intro pins s σ H D I h
  rw [exec_Assign_arm]
  refine wpAny_bind (wpAny_standAt ?_)
  rw [hs]
  refine wpAny_bind (wpAny_pure ?_)
  rw [if_neg (by decide)]
  refine wpAny_bind (Tuple_ (thn (ha _ pins s σ H _ I h) fun us s1 ⟨vs,H1,I1,r1,q1⟩ => ?_))
  obtain ⟨v,w,e1,q1⟩ := q1
  subst e1
  obtain ⟨u1,u2,rfl,rv,rw'⟩ : ∃ u1 u2,us = [u1,u2] /\ RelV v u1 /\ RelV w u2 := by
    cases r1 with
    | cons p q =>
      cases q with
      | cons p' q' =>
        cases q'
        exact ⟨_,_,rfl,p,p'⟩
  refine wpAny_newObj_type ?_ (by show 2 <= sizeLine;decide)
  have I2 : Inv X pins σ H1 { s1 with heap := s1.heap.push { cls := .type "tuple",data := .seq [u1,u2].toArray } } := I1.kept (t' := s1.toks) fun b o e => Heap.get?_push_of_some _ e
  rw [hw]
  refine wpAny_bind (wpAny_pure ?_)
  show wpAny (model X.prog X.w) X.A (do rule "assign.swapped-stores";let items <- unpackItems (.ref s1.heap.objs.size) 2 none;assignInOrder [fun v => bindName X.env y v,fun v => bindName X.env x v] items.reverse;pure Flow.next) _ _ _
  refine wpAny_bind (wpAny_rule (wpAny_bind (unpackItems_tuple (items := #[u1,u2]) (I.ok.hd hc) (IsTup.new s1.heap _) fun h' hx' => ?_)))
  have I3 := I2.kept (h' := h') (t' := s1.toks) fun b o e => hx' b o (Nat.ne_of_lt (Heap.lt_size e)) e
  show wpAny _ _ (assignInOrder [fun v => bindName X.env y v,fun v => bindName X.env x v] [u2,u1] >>= fun _ => pure Flow.next) _ _ _
  refine wpAny_bind (assignInOrder_cons (wpAny_bindName (xA I3 hN hj (.inl hy) rw' (fun s2 I4 => ?_) (.inr hy))))
  refine assignInOrder_cons (wpAny_bindName (xA I4 hN hi (.inl hx) rv (fun s3 I5 => assignInOrder_nil (wpAny_pure ?_)) (.inr hx)))
  rw [List.set_comm _ _ (Ne.symm hij)] at I5
  exact ⟨_,H1,I5,q1⟩
end
section
variable {X : Cx} {pos : Pos}
def VF (c : TT) (tb : TS) : TS := fun D σ H => ∃ W : Nat -> St -> Hp -> Prop,(∃ m,W m σ H) /\ ∀ m σ H,W m σ H ->
  c σ H fun b H1 => if b = true then ∃ N : St -> Hp -> Prop,(∀ σ' H',N σ' H' -> ∃ m',m' < m /\ W m' σ' H') /\ tb { D with nx := N,ct := N,bk := D.nx } σ H1 else D.nx σ H1
theorem JG {c : Expr} {body : List Stmt} {tc : TT} {tb : TS} (hp : PassesOwn (model X.prog X.w) X.A X.env X.xe) (hc : PT X c tc) (hb : PSs X body tb) : PS X (.While c body [] pos) (VF tc tb) := by
  intro pins s σ H D I h
  obtain ⟨W,⟨m0,w0⟩,turn⟩ := h
  refine wpAny_While (codeAny_whileLoop (fun n s' => ∃ σ' H',Inv X pins σ' H' s' /\ W n σ' H') ?_ m0 ⟨σ,H,I,w0⟩)
  rintro n s1 ⟨σ1,H1,I1,w1⟩
  refine wpAny_passesOwn hp (thn (hc pins s1 σ1 H1 _ I1 (turn n σ1 H1 w1)) fun b s2 ⟨H2,I2,q2⟩ => ?_)
  cases b with
  | true =>
    obtain ⟨N,hN,q2⟩ := q2
    rw [if_pos rfl]
    refine wpAny_passesOwn hp (thn (hb pins s2 σ1 H2 _ I2 q2) fun f s3 q3 => ?_)
    cases f with
    | next =>
      obtain ⟨σ3,H3,I3,n3⟩ := q3
      obtain ⟨m',hm,w3⟩ := hN σ3 H3 n3
      exact ⟨m',hm,σ3,H3,I3,w3⟩
    | cont =>
      obtain ⟨σ3,H3,I3,n3⟩ := q3
      obtain ⟨m',hm,w3⟩ := hN σ3 H3 n3
      exact ⟨m',hm,σ3,H3,I3,w3⟩
    | brk => exact q3
    | ret v => exact q3
  | false =>
    rw [if_neg Bool.false_ne_true]
    exact wpAny_execs_nil ⟨σ1,H2,I2,q2⟩
end
structure It where
  go : Nat -> Hp -> Prop
  yld : Nat -> Hp -> V -> Hp -> Prop
  stop : Nat -> Hp -> Prop
def jw (X : Cx) (pins : List (Addr × Obj)) (H : Hp) (b : Addr) : Prop :=
  H b = none /\ b ≠ X.env.locals /\ b ∉ X.fs /\ (b ∈ X.ex \/ X.s₀.heap.objs.size <= b) /\ (∀ x c,X.env.cells.lookup x = some c -> c ≠ b) /\ ∀ p ∈ X.pn ++ pins,p.1 ≠ b
theorem Inv.fpOk {X : Cx} {pins : List (Addr × Obj)} {σ : St} {H H' : Hp} {s : Shared} {b : Addr} (I : Inv X pins σ H s) (hb : s.heap.objs.size <= b) (hn : H' b = none) : jw X pins H' b := by
  refine ⟨hn,Nat.ne_of_gt (Nat.lt_of_lt_of_le I.lt hb),I.nofs hb,.inr (Nat.le_trans I.sz hb),fun x c e z => ?_,fun p hp z => ?_⟩
  · obtain ⟨v,q⟩ := I.cell x c e
    exact absurd (Nat.lt_of_lt_of_le q.lt (by rw [z];exact hb)) (Nat.lt_irrefl _)
  · exact absurd (Nat.lt_of_lt_of_le (Heap.lt_size (I.pin p hp).1) (by rw [z];exact hb)) (Nat.lt_irrefl _)
structure Zg (P : Program) (w : World) (K : PySem.W.Frag) (tg : Expr) (J : It) (fp : List Addr) (it : Addr) (tn : Nat -> Heap -> Prop) : Prop where
  mem : it ∈ fp
  obj : ∀ i h,tn i h -> ∀ b ∈ fp,∃ o,h.get? b = some o /\ ∀ v,o.data ≠ .cell v
  keep : ∀ i h h',tn i h -> (∀ b ∈ fp,∀ o,h.get? b = some o -> h'.get? b = some o) -> tn i h'
  item : ∀ (X : Cx),X.prog = P -> X.w = w -> X.K = K -> X.calm = true -> ∀ (i : Nat) (pins : List (Addr × Obj)) (s : Shared) (σ : St) (H : Hp) (E : Value -> Shared -> Prop),Inv X pins σ H s -> (∀ b ∈ fp,jw X pins H b) -> tn i s.heap -> J.go i H ->
    wpAny (model P w) X.A (pyNext (.ref it)) (fun r s1 => ∃ u,r = some u /\
      wpAny (model P w) X.A (letOwnedTupleGo tg (.ref it) u) (fun _ s2 => ∃ x H',Inv X pins σ H' s2 /\ RelV x u /\ J.yld i H x H' /\ tn (i + 1) s2.heap /\ ∀ b ∈ fp,H' b = none) E s1) E s
  done : ∀ (X : Cx),X.prog = P -> X.w = w -> X.K = K -> X.calm = true -> ∀ (i : Nat) (pins : List (Addr × Obj)) (s : Shared) (σ : St) (H : Hp) (E : Value -> Shared -> Prop),Inv X pins σ H s -> (∀ b ∈ fp,jw X pins H b) -> tn i s.heap -> J.stop i H ->
    wpAny (model P w) X.A (pyNext (.ref it)) (fun r s1 => r = none /\ Inv X pins σ H s1) E s
  self : ∀ (A : Around) (i : Nat) (s : Shared) (Q : Value -> Shared -> Prop) (E : Value -> Shared -> Prop),tn i s.heap -> Q (.ref it) s -> wpAny (model P w) A (pyIter (.ref it)) Q E s
abbrev TI := St -> Hp -> (It -> Hp -> Prop) -> Prop
def PIE (X : Cx) (pins : List (Addr × Obj)) (σ : St) (tg : Expr) (R : It -> Hp -> Prop) (itv : Value) (s2 : Shared) : Prop :=
  ∃ (it : Addr) (fp : List Addr) (tn : Nat -> Heap -> Prop) (J : It) (H' : Hp),itv = .ref it /\ Inv X pins σ H' s2 /\ Zg X.prog X.w X.K tg J fp it tn /\ tn 0 s2.heap /\ (∀ b ∈ fp,jw X pins H' b) /\ R J H'
def PI (X : Cx) (tg iter : Expr) (wi : TI) : Prop :=
  ∀ (pins : List (Addr × Obj)) (s : Shared) (σ : St) (H : Hp) (R : It -> Hp -> Prop),Inv X pins σ H s -> wi σ H R ->
    wpAny (model X.prog X.w) X.A (eval iter X.env) (fun v s1 => wpAny (model X.prog X.w) X.A (pyIter v) (PIE X pins σ tg R) X.xe s1) X.xe s
theorem Xn {M : Model} {A : Around} {E : Value -> Shared -> Prop} {s : Shared} {tg : Expr} {it : Addr} {u : Value} {o : Obj} {n : String} {vs : Array Value} {Q : Unit -> Shared -> Prop} (ho : s.heap.get? it = some o) (hc : o.cls = .type n) (hd : o.data = .fields vs)
    (hn : ["enumerate", "zip", "dict_itemiterator", "dict_reverseitemiterator", "odict_iterator", "itertools.zip_longest", "itertools.pairwise"].contains n = false) (hQ : Q () s) : wpAny M A (letOwnedTupleGo tg (.ref it) u) Q E s := by
  unfold letOwnedTupleGo
  cases tg <;> first
    | exact wpAny_pure hQ
    | (cases u <;> first
        | exact wpAny_pure hQ
        | (refine wpAny_bind (wpAny_load ho ?_)
           rw [hc,hd]
           show wpAny M A (if (["enumerate", "zip", "dict_itemiterator", "dict_reverseitemiterator", "odict_iterator", "itertools.zip_longest", "itertools.pairwise"].contains n && vs[0]? == some (rawInt _)) = true then _ else _) Q E s
           rw [if_neg (by intro h;rw [hn,Bool.false_and] at h;cases h)]
           exact wpAny_pure hQ))
def Itl (K : PySem.W.Frag) (a : Addr) : It :=
  ⟨fun i H => ∃ xs x,SqL K H a xs /\ xs[i]? = some x,fun i H x H' => H' = H /\ ∀ xs,SqL K H a xs -> xs[i]? = some x,fun i H => ∃ xs,SqL K H a xs /\ xs.length <= i⟩
def Itt (K : PySem.W.Frag) (a : Addr) : It :=
  ⟨fun i H => ∃ xs x,SqT K H a xs /\ xs[i]? = some x,fun i H x H' => H' = H /\ ∀ xs,SqT K H a xs -> xs[i]? = some x,fun i H => ∃ xs,SqT K H a xs /\ xs.length <= i⟩
def Itr (lo : Int) (n : Nat) : It := ⟨fun i _ => i < n,fun i H x H' => H' = H /\ x = .int (lo + i),fun i _ => n <= i⟩
theorem QU {P : Program} {w : World} {K : PySem.W.Frag} {tg : Expr} (a it : Addr) : Zg P w K tg (Itl K a) [it] it (fun i h => h.IsListIter it a i) where
  mem := by simp
  obj := fun i h st b hb => by
    have e : b = it := by simpa using hb
    subst e
    obtain ⟨o,e,c,d⟩ := st
    exact ⟨o,e,fun v z => by rw [d] at z;cases z⟩
  keep := fun i h h' st k => st.at fun o e => k it (by simp) o e
  item := by
    intro X hP hw hK hc i pins s σ H E I hf st hg
    subst hP hw hK
    obtain ⟨xs,x,hq,hx⟩ := hg
    obtain ⟨its,rv,p,hz⟩ := I.list hq
    obtain ⟨u,hu,ru⟩ := rv.get hx
    obtain ⟨f0,f1,f2,f3,f4,f5⟩ := hf it (by simp)
    refine wpAny_pyNext_list_item st p.isList (x := u) (by simpa using hu) fun h' st' sb => ?_
    have I1 : Inv X pins σ H { s with heap := h' } := I.turned (t' := s.toks) (fun b o hb e => (sb.2 b hb).trans e) f0 f1 f3 f4 f5
    obtain ⟨o,e,c,d⟩ := id st'
    exact ⟨u,rfl,Xn (s := { s with heap := h' }) e c d (by decide) ⟨x,H,I1,ru,⟨rfl,fun ys hy => by rw [I.list_inj hy hq];exact hx⟩,st',fun b hb => (hf b hb).1⟩⟩
  done := by
    intro X hP hw hK hc i pins s σ H E I hf st hg
    subst hP hw hK
    obtain ⟨xs,hq,hx⟩ := hg
    obtain ⟨its,rv,p,hz⟩ := I.list hq
    obtain ⟨f0,f1,f2,f3,f4,f5⟩ := hf it (by simp)
    have hl := rv.length
    exact wpAny_pyNext_list_end (I.ok.hd hc) st p.isList (by simp;omega) fun h' eb => ⟨rfl,I.turned (t' := s.toks) (fun b o hb e => eb b o hb e) f0 f1 f3 f4 f5⟩
  self := fun _ _ _ _ _ st h => wpAny_pyIter_listiter st h
theorem Zk {P : Program} {w : World} {K : PySem.W.Frag} {tg : Expr} (a it : Addr) : Zg P w K tg (Itt K a) [it] it (fun i h => h.IsTupleIter it a i) where
  mem := by simp
  obj := fun i h st b hb => by
    have e : b = it := by simpa using hb
    subst e
    obtain ⟨o,e,c,d⟩ := st
    exact ⟨o,e,fun v z => by rw [d] at z;cases z⟩
  keep := fun i h h' st k => st.at fun o e => k it (by simp) o e
  item := by
    intro X hP hw hK hc i pins s σ H E I hf st hg
    subst hP hw hK
    obtain ⟨xs,x,hq,hx⟩ := hg
    obtain ⟨its,rv,p,hz⟩ := I.tuple hq
    obtain ⟨u,hu,ru⟩ := rv.get hx
    obtain ⟨f0,f1,f2,f3,f4,f5⟩ := hf it (by simp)
    refine wpAny_pyNext_tuple_item st (show s.heap.IsTuple a its.toArray from p) (x := u) (by simpa using hu) fun h' st' sb => ?_
    have I1 : Inv X pins σ H { s with heap := h' } := I.turned (t' := s.toks) (fun b o hb e => (sb.2 b hb).trans e) f0 f1 f3 f4 f5
    obtain ⟨o,e,c,d⟩ := id st'
    exact ⟨u,rfl,Xn (s := { s with heap := h' }) e c d (by decide) ⟨x,H,I1,ru,⟨rfl,fun ys hy => by rw [I.tuple_inj hy hq];exact hx⟩,st',fun b hb => (hf b hb).1⟩⟩
  done := by
    intro X hP hw hK hc i pins s σ H E I hf st hg
    subst hP hw hK
    obtain ⟨xs,hq,hx⟩ := hg
    obtain ⟨its,rv,p,hz⟩ := I.tuple hq
    obtain ⟨f0,f1,f2,f3,f4,f5⟩ := hf it (by simp)
    have hl := rv.length
    exact wpAny_pyNext_tuple_end (I.ok.hd hc) st (show s.heap.IsTuple a its.toArray from p) (by simp;omega) fun h' eb => ⟨rfl,I.turned (t' := s.toks) (fun b o hb e => eb b o hb e) f0 f1 f3 f4 f5⟩
  self := fun _ _ _ _ _ st h => wpAny_pyIter_tupleiter st h
theorem Zl {P : Program} {w : World} {K : PySem.W.Frag} {tg : Expr} (it : Addr) (lo : Int) (n : Nat) : Zg P w K tg (Itr lo n) [it] it (fun i h => IsRangeIter h it (lo + (i : Nat) * 1) ((n : Int) - (i : Nat)) 1) where
  mem := by simp
  obj := fun i h st b hb => by
    have e : b = it := by simpa using hb
    subst e
    exact ⟨_,st,fun v z => by
      have z' : Data.fields _ = Data.cell v := z
      cases z'⟩
  keep := fun i h h' st k => k it (by simp) _ st
  item := by
    intro X hP hw hK hc i pins s σ H E I hf st hg
    subst hP hw hK
    obtain ⟨f0,f1,f2,f3,f4,f5⟩ := hf it (by simp)
    have W := Walks.range (prog := X.prog) (w := X.w) (I.ok.hd hc) it lo 1 n
    refine W.item i s _ _ hg st fun v h' tk hv st' kk => ?_
    obtain ⟨t,rfl⟩ := hv
    have I1 : Inv X pins σ H { s with heap := h',toks := tk } := I.turned (fun b o hb e => kk b o (by simpa using hb) e) f0 f1 f3 f4 f5
    refine ⟨_,rfl,Xn (s := { s with heap := h',toks := tk }) (n := "range_iterator") st' rfl rfl (by decide) ⟨.int (lo + i),H,I1,⟨t,?_⟩,⟨rfl,rfl⟩,st',fun b hb => (hf b hb).1⟩⟩
    rw [Int.mul_one]
  done := by
    intro X hP hw hK hc i pins s σ H E I hf st hg
    subst hP hw hK
    obtain ⟨f0,f1,f2,f3,f4,f5⟩ := hf it (by simp)
    exact wpAny_pyNext_range_end (I.ok.hd hc) st (by have : n <= i := hg;omega) fun h' eb => ⟨rfl,I.turned (t' := s.toks) (fun b o hb e => eb b o hb e) f0 f1 f3 f4 f5⟩
  self := fun _ _ _ _ _ st h => wpAny_pyIter_rangeiter st h
end L2
namespace L2
open PySem PySem.Spec PyProof.Rows
section
variable {X : Cx} {tg : Expr}
inductive InL (K : PySem.W.Frag) (x : V) (H : Hp) (R : It -> Hp -> Prop) : Prop
  | mk (a : Addr) (h : x = .ref a) (e : ∃ xs,SqL K H a xs) (r : R (Itl K a) H) : InL K x H R
inductive InT (K : PySem.W.Frag) (x : V) (H : Hp) (R : It -> Hp -> Prop) : Prop
  | mk (a : Addr) (h : x = .ref a) (e : ∃ xs,SqT K H a xs) (r : R (Itt K a) H) : InT K x H R
def VB (K : PySem.W.Frag) (tl : TE) : TI := fun σ H R => tl σ H fun x H1 => InL K x H1 R
def Yf (K : PySem.W.Frag) (tl : TE) : TI := fun σ H R => tl σ H fun x H1 => InT K x H1 R
theorem qV {l : Expr} {tl : TE} (hl : PE X l tl) : PI X tg l (VB X.K tl) := by
  intro pins s σ H R I h
  refine thn (hl pins s σ H _ I h) fun v s1 ⟨x,H1,I1,r1,q1⟩ => ?_
  obtain ⟨a,e,⟨xs,hq⟩,q⟩ := q1
  subst e
  cases r1
  obtain ⟨its,rv,p,hz⟩ := I1.list hq
  refine wpAny_pyIter_list p.isList ?_
  refine ⟨s1.heap.objs.size,[s1.heap.objs.size],_,_,H1,rfl,I1.kept (t' := s1.toks) fun b o e => Heap.get?_push_of_some _ e,QU a _,⟨_,Heap.get?_push_size _ rfl,rfl,rfl⟩,fun b hb => ?_,q⟩
  have e : b = s1.heap.objs.size := by simpa using hb
  subst e
  exact I1.fpOk (Nat.le_refl _) (I1.hok.fresh (Nat.le_refl _))
theorem jG {l : Expr} {tl : TE} (hl : PE X l tl) : PI X tg l (Yf X.K tl) := by
  intro pins s σ H R I h
  refine thn (hl pins s σ H _ I h) fun v s1 ⟨x,H1,I1,r1,q1⟩ => ?_
  obtain ⟨a,e,⟨xs,hq⟩,q⟩ := q1
  subst e
  cases r1
  obtain ⟨its,rv,p,hz⟩ := I1.tuple hq
  refine wpAny_pyIter_tuple (show s1.heap.IsTuple a its.toArray from p) ?_
  refine ⟨s1.heap.objs.size,[s1.heap.objs.size],_,_,H1,rfl,I1.kept (t' := s1.toks) fun b o e => Heap.get?_push_of_some _ e,Zk a _,⟨_,Heap.get?_push_size _ rfl,rfl,rfl⟩,fun b hb => ?_,q⟩
  have e : b = s1.heap.objs.size := by simpa using hb
  subst e
  exact I1.fpOk (Nat.le_refl _) (I1.hok.fresh (Nat.le_refl _))
theorem JF {pins : List (Addr × Obj)} {σ : St} {H : Hp} {s : Shared} {R : It -> Hp -> Prop} {E : Value -> Shared -> Prop} {lo hi : Int} {t u v : Tok} {tk : Nat} (I : Inv X pins σ H s) (h1 : -(2 ^ 62) <= lo) (h2 : lo < 2 ^ 62) (h3 : -(2 ^ 62) <= hi) (h4 : hi < 2 ^ 62)
    (q : R (Itr lo (hi - lo).toNat) H) : wpAny (model X.prog X.w) X.A (pyIter (.ref s.heap.objs.size)) (PIE X pins σ tg R) E { s with heap := s.heap.push { cls := .type "range",data := .fields #[.int lo t,.int hi u,.int 1 v] },toks := tk } := by
  refine wpAny_pyIter_range (IsRange.new ..) (small_one h1 h2 h3 h4) ?_
  have I1 : Inv X pins σ H { s with heap := s.heap.push { cls := .type "range",data := .fields #[.int lo t,.int hi u,.int 1 v] },toks := tk } := I.kept fun b o e => Heap.get?_push_of_some _ e
  refine ⟨(s.heap.push { cls := .type "range",data := .fields #[.int lo t,.int hi u,.int 1 v] }).objs.size,[(s.heap.push { cls := .type "range",data := .fields #[.int lo t,.int hi u,.int 1 v] }).objs.size],_,_,H,rfl,
    I1.kept (t' := tk) fun b o e => Heap.get?_push_of_some _ e,Zl _ lo (hi - lo).toNat,?_,fun b hb => ?_,q⟩
  · have e1 : lo + ((0 : Nat) : Int) * 1 = lo := by simp
    have e2 : (((hi - lo).toNat : Nat) : Int) - ((0 : Nat) : Int) = Builtin.Range.rangeSize lo hi 1 := by rw [rangeSize_one];split <;> omega
    show IsRangeIter _ _ (lo + ((0 : Nat) : Int) * 1) ((((hi - lo).toNat : Nat) : Int) - ((0 : Nat) : Int)) 1
    rw [e1,e2]
    exact Heap.get?_push_size _ rfl
  · have e : b = (s.heap.push { cls := .type "range",data := .fields #[.int lo t,.int hi u,.int 1 v] }).objs.size := by simpa using hb
    subst e
    exact I1.fpOk (Nat.le_refl _) (I1.hok.fresh (Nat.le_refl _))
inductive WW (vs : List V) (H : Hp) (R : It -> Hp -> Prop) : Prop
  | mk (j : Int) (h : vs = [.int j]) (h1 : -(2 ^ 62) <= j) (h2 : j < 2 ^ 62) (r : R (Itr 0 j.toNat) H) : WW vs H R
def WM (ta : TA) : TI := fun σ H R => ta σ H fun vs H1 => WW vs H1 R
theorem zV {a : Expr} {ta : TA} {p pos : Pos} (hg : Gl X "range") (hm : X.mg "range" = none) (ha : PA X [a] ta) (hs : starEach [a] X.env = [(false,eval a X.env)] := by rfl) : PI X tg (.Call (.Name "range" p) [a] [] pos) (WM ta) := by
  intro pins s σ H R I h
  refine Call_ (jK I hg hm boot_range (PyProof.Rows.callWith_type1 (thn (ha pos pins s σ H _ I h) fun us s1 ⟨vs,H1,I1,r1,q1⟩ => ?_) hs rfl))
  obtain ⟨j,e,q1,q2,q⟩ := q1
  subst e
  cases r1 with
  | cons r rr =>
    cases rr
    obtain ⟨t,rfl⟩ := r
    exact call_range_1 (JF I1 (by omega) (by omega) q1 q2 (by simpa using q))
def W9 (wi : TI) (g : TG) (tb : TS) : TS := fun D σ H => wi σ H fun J H1 => ∃ W : Nat -> Nat -> St -> Hp -> Prop,(∃ m,W 0 m σ H1) /\ ∀ i m σ H,W i m σ H ->
  (J.stop i H /\ D.nx σ H) \/ (J.go i H /\ ∃ N : St -> Hp -> Prop,(∀ σ' H',N σ' H' -> ∃ m',m' < m /\ W (i + 1) m' σ' H') /\ ∀ x H',J.yld i H x H' -> g x σ H' fun σ2 H2 => tb { D with nx := N,ct := N,bk := D.nx } σ2 H2)
def zD (fp : List Addr) (h : Heap) : List (Addr × Obj) := fp.filterMap fun b => (h.get? b).map fun o => (b,o)
theorem zS {fp : List Addr} {h : Heap} {b : Addr} {o : Obj} (hb : b ∈ fp) (e : h.get? b = some o) : (b,o) ∈ zD fp h := List.mem_filterMap.mpr ⟨b,hb,by rw [e];rfl⟩
theorem jj {fp : List Addr} {h : Heap} {p : Addr × Obj} (hp : p ∈ zD fp h) : p.1 ∈ fp /\ h.get? p.1 = some p.2 := by
  obtain ⟨b,hb,e⟩ := List.mem_filterMap.mp hp
  cases q : h.get? b with
  | none => rw [q] at e;cases e
  | some o =>
    rw [q] at e
    have e' : (b,o) = p := Option.some.inj e
    subst e'
    exact ⟨hb,q⟩
theorem Inv.pinned {pins : List (Addr × Obj)} {σ : St} {H : Hp} {s : Shared} {fp : List Addr} (I : Inv X pins σ H s) (hf : ∀ b ∈ fp,jw X pins H b) (ho : ∀ b ∈ fp,∃ o,s.heap.get? b = some o /\ ∀ v,o.data ≠ .cell v) : Inv X (pins ++ zD fp s.heap) σ H s :=
  I.pins_of fun p hp => (List.mem_append.mp hp).elim (fun z => I.pin p (List.mem_append_right _ z)) fun z => by
    obtain ⟨hb,e⟩ := jj z
    obtain ⟨f0,f1,f2,_⟩ := hf p.1 hb
    obtain ⟨o,e',d⟩ := ho p.1 hb
    rw [e] at e';cases e'
    exact ⟨e,f0,f1,f2,d⟩
theorem Inv.unpinned {pins pl : List (Addr × Obj)} {σ : St} {H : Hp} {s : Shared} (I : Inv X (pins ++ pl) σ H s) : Inv X pins σ H s := I.pins_of fun p hp => I.pin p (List.mem_append_right _ (List.mem_append_left _ hp))
theorem qy {iter : Expr} {body : List Stmt} {wi : TI} {g : TG} {tb : TS} {pos : Pos} (hp : PassesOwn (model X.prog X.w) X.A X.env X.xe) (hc : X.calm = true) (hi : PI X tg iter wi) (hg : PG X tg g) (hb : PSs X body tb)
    (hs : ∀ x,foldedSetIterable iter X.env x = pure x := by intro _;rfl) : PS X (.For tg iter body [] pos) (W9 wi g tb) := by
  intro pins s σ H D I h
  refine wpAny_For (thn (hi pins s σ H _ I h) fun v s1 h1 => thn h1 fun itv s2 h2 => ?_) hs
  obtain ⟨it,fp,tn,J,H2,e,I2,T,st2,f2,W,⟨m0,w0⟩,turn⟩ := h2
  subst e
  have stat : ∀ {H' : Hp},(∀ b ∈ fp,H' b = none) -> ∀ b ∈ fp,jw X pins H' b := fun hn b hb => ⟨hn b hb,(f2 b hb).2⟩
  refine codeAny_forLoop_any (fun n s' => ∃ i σ' H',Inv X pins σ' H' s' /\ tn i s'.heap /\ (∀ b ∈ fp,H' b = none) /\ W i n σ' H') ?_ m0 ⟨0,σ,H2,I2,st2,fun b hb => (f2 b hb).1,w0⟩
  rintro n s3 ⟨i,σ3,H3,I3,st3,fr3,w3⟩
  rcases turn i n σ3 H3 w3 with ⟨stop,qn⟩ | ⟨go,N,hN,step⟩
  · refine wpAny_passesOwn hp (thn (T.done X rfl rfl rfl hc i pins s3 σ3 H3 X.xe I3 (stat fr3) st3 stop) fun r s4 ⟨hr,I4⟩ => ?_)
    subst hr
    exact wpAny_execs_nil ⟨σ3,H3,I4,qn⟩
  · refine wpAny_passesOwn hp (thn (T.item X rfl rfl rfl hc i pins s3 σ3 H3 X.xe I3 (stat fr3) st3 go) fun r s4 ⟨u,hr,h4⟩ => ?_)
    subst hr
    refine wpAny_passesOwn hp (thn h4 fun _ s5 ⟨x,H5,I5,r5,y5,st5,fr5⟩ => ?_)
    have I5' := I5.pinned (stat fr5) (T.obj _ _ st5)
    refine wpAny_passesOwn hp (thn (hg _ s5 σ3 H5 x u _ I5' r5 (step x H5 y5)) fun _ s6 ⟨σ6,H6,I6,q6⟩ => ?_)
    refine wpAny_passesOwn hp (thn (hb _ s6 σ6 H6 _ I6 q6) fun f s7 q7 => ?_)
    have again : ∀ {σ7 : St} {H7 : Hp},Inv X (pins ++ zD fp s5.heap) σ7 H7 s7 -> N σ7 H7 -> ∃ m,m < n /\ ∃ i σ' H',Inv X pins σ' H' s7 /\ tn i s7.heap /\ (∀ b ∈ fp,H' b = none) /\ W i m σ' H' := fun {σ7 H7} I7 n7 => by
      obtain ⟨m',hm,w7⟩ := hN σ7 H7 n7
      refine ⟨m',hm,i + 1,σ7,H7,I7.unpinned,T.keep _ _ _ st5 fun b hb o e => (I7.pin (b,o) (List.mem_append_right _ (List.mem_append_right _ (zS hb e)))).1,fun b hb => ?_,w7⟩
      obtain ⟨o,e,d⟩ := T.obj _ _ st5 b hb
      exact (I7.pin (b,o) (List.mem_append_right _ (List.mem_append_right _ (zS hb e)))).2.1
    cases f with
    | next => obtain ⟨σ7,H7,I7,n7⟩ := q7;exact again I7 n7
    | cont => obtain ⟨σ7,H7,I7,n7⟩ := q7;exact again I7 n7
    | brk => obtain ⟨σ7,H7,I7,q7⟩ := q7;exact ⟨σ7,H7,I7.unpinned,q7⟩
    | ret v => obtain ⟨x7,σ7,H7,I7,r7,q7⟩ := q7;exact ⟨x7,σ7,H7,I7.unpinned,r7,q7⟩
end
theorem xJ {K : PySem.W.Frag} {a : Addr} {xs : List V} {g : TG} {tb : TS} {D : wc} {σ : St} {H : Hp} (Pv : Nat -> St -> Hp -> Prop) (h0 : Pv 0 σ H) (hl : ∀ i σ H,i <= xs.length -> Pv i σ H -> SqL K H a xs)
    (hs : ∀ i x σ H,xs[i]? = some x -> Pv i σ H -> g x σ H fun σ2 H2 => tb { D with nx := Pv (i + 1),ct := Pv (i + 1),bk := D.nx } σ2 H2) (hd : ∀ σ H,Pv xs.length σ H -> D.nx σ H) :
    ∃ W : Nat -> Nat -> St -> Hp -> Prop,(∃ m,W 0 m σ H) /\ ∀ i m σ H,W i m σ H ->
      ((Itl K a).stop i H /\ D.nx σ H) \/ ((Itl K a).go i H /\ ∃ N : St -> Hp -> Prop,(∀ σ' H',N σ' H' -> ∃ m',m' < m /\ W (i + 1) m' σ' H') /\ ∀ x H',(Itl K a).yld i H x H' -> g x σ H' fun σ2 H2 => tb { D with nx := N,ct := N,bk := D.nx } σ2 H2) := by
  refine ⟨fun i m σ H => m = xs.length - i /\ i <= xs.length /\ Pv i σ H,⟨xs.length,by simp,Nat.zero_le _,h0⟩,?_⟩
  rintro i m σ H ⟨rfl,hi,p⟩
  have q := hl i σ H hi p
  by_cases hlt : i < xs.length
  · refine .inr ⟨⟨xs,xs[i],q,by simp [hlt]⟩,Pv (i + 1),fun σ' H' p' => ⟨xs.length - (i + 1),by omega,rfl,hlt,p'⟩,fun x H' y => ?_⟩
    obtain ⟨e,y⟩ := y
    subst e
    exact hs i x σ _ (y xs q) p
  · have e : i = xs.length := by omega
    subst e
    exact .inl ⟨⟨xs,q,Nat.le_refl _⟩,hd σ H p⟩
theorem Ve {K : PySem.W.Frag} {a : Addr} {xs : List V} {g : TG} {tb : TS} {D : wc} {σ : St} {H : Hp} (Pv : Nat -> St -> Hp -> Prop) (h0 : Pv 0 σ H) (hl : ∀ i σ H,i <= xs.length -> Pv i σ H -> SqT K H a xs)
    (hs : ∀ i x σ H,xs[i]? = some x -> Pv i σ H -> g x σ H fun σ2 H2 => tb { D with nx := Pv (i + 1),ct := Pv (i + 1),bk := D.nx } σ2 H2) (hd : ∀ σ H,Pv xs.length σ H -> D.nx σ H) :
    ∃ W : Nat -> Nat -> St -> Hp -> Prop,(∃ m,W 0 m σ H) /\ ∀ i m σ H,W i m σ H ->
      ((Itt K a).stop i H /\ D.nx σ H) \/ ((Itt K a).go i H /\ ∃ N : St -> Hp -> Prop,(∀ σ' H',N σ' H' -> ∃ m',m' < m /\ W (i + 1) m' σ' H') /\ ∀ x H',(Itt K a).yld i H x H' -> g x σ H' fun σ2 H2 => tb { D with nx := N,ct := N,bk := D.nx } σ2 H2) := by
  refine ⟨fun i m σ H => m = xs.length - i /\ i <= xs.length /\ Pv i σ H,⟨xs.length,by simp,Nat.zero_le _,h0⟩,?_⟩
  rintro i m σ H ⟨rfl,hi,p⟩
  have q := hl i σ H hi p
  by_cases hlt : i < xs.length
  · refine .inr ⟨⟨xs,xs[i],q,by simp [hlt]⟩,Pv (i + 1),fun σ' H' p' => ⟨xs.length - (i + 1),by omega,rfl,hlt,p'⟩,fun x H' y => ?_⟩
    obtain ⟨e,y⟩ := y
    subst e
    exact hs i x σ _ (y xs q) p
  · have e : i = xs.length := by omega
    subst e
    exact .inl ⟨⟨xs,q,Nat.le_refl _⟩,hd σ H p⟩
theorem qq {lo : Int} {n : Nat} {g : TG} {tb : TS} {D : wc} {σ : St} {H : Hp} (Pv : Nat -> St -> Hp -> Prop) (h0 : Pv 0 σ H)
    (hs : ∀ i σ H,i < n -> Pv i σ H -> g (.int (lo + i)) σ H fun σ2 H2 => tb { D with nx := Pv (i + 1),ct := Pv (i + 1),bk := D.nx } σ2 H2) (hd : ∀ σ H,Pv n σ H -> D.nx σ H) :
    ∃ W : Nat -> Nat -> St -> Hp -> Prop,(∃ m,W 0 m σ H) /\ ∀ i m σ H,W i m σ H ->
      ((Itr lo n).stop i H /\ D.nx σ H) \/ ((Itr lo n).go i H /\ ∃ N : St -> Hp -> Prop,(∀ σ' H',N σ' H' -> ∃ m',m' < m /\ W (i + 1) m' σ' H') /\ ∀ x H',(Itr lo n).yld i H x H' -> g x σ H' fun σ2 H2 => tb { D with nx := N,ct := N,bk := D.nx } σ2 H2) := by
  refine ⟨fun i m σ H => m = n - i /\ i <= n /\ Pv i σ H,⟨n,by simp,Nat.zero_le _,h0⟩,?_⟩
  rintro i m σ H ⟨rfl,hi,p⟩
  by_cases hlt : i < n
  · refine .inr ⟨hlt,Pv (i + 1),fun σ' H' p' => ⟨n - (i + 1),by omega,rfl,hlt,p'⟩,fun x H' y => ?_⟩
    obtain ⟨e,y⟩ := y
    subst e y
    exact hs i σ _ hlt p
  · have e : i = n := by omega
    subst e
    exact .inl ⟨Nat.le_refl _,hd σ H p⟩
end L2
namespace L2
open PySem PySem.Spec PyProof.Rows
abbrev R2 := V -> V -> Hp -> VK -> Prop
def OpR (X : Cx) (f : Value -> Value -> Sem Value) (r : R2) : Prop :=
  ∀ (pins : List (Addr × Obj)) (s : Shared) (σ : St) (H : Hp) (x y : V) (v u : Value) (Q : VK),Inv X pins σ H s -> RelV x v -> RelV y u -> r x y H Q ->
    wpAny (model X.prog X.w) X.A (f v u) (EP X pins σ Q) X.xe s
def UnR (X : Cx) (f : Value -> Sem Value) (r : V -> Hp -> VK -> Prop) : Prop :=
  ∀ (pins : List (Addr × Obj)) (s : Shared) (σ : St) (H : Hp) (x : V) (v : Value) (Q : VK),Inv X pins σ H s -> RelV x v -> r x H Q ->
    wpAny (model X.prog X.w) X.A (f v) (EP X pins σ Q) X.xe s
def CallR (X : Cx) (f : Value) (r : List V -> Hp -> VK -> Prop) : Prop :=
  ∀ (pins : List (Addr × Obj)) (s : Shared) (σ : St) (H : Hp) (xs : List V) (us : List Value) (Q : VK),Inv X pins σ H s -> Vals xs us -> r xs H Q ->
    wpAny (model X.prog X.w) X.A (call f us) (EP X pins σ Q) X.xe s
def tOp (r : R2) (ta tb : TE) : TE := fun σ H Q => ta σ H fun x H1 => tb σ H1 fun y H2 => r x y H2 Q
def tUn (r : V -> Hp -> VK -> Prop) (ta : TE) : TE := fun σ H Q => ta σ H fun x H1 => r x H1 Q
inductive rI (C : Int -> Int -> Prop) (g : Int -> Int -> V) (x : V) (y : V) (H : Hp) (Q : VK) : Prop
  | mk (i j : _) (_ : x = .int i) (_ : y = .int j) (_ : C i j) (_ : Q (g i j) H) : rI C g x y H Q
inductive rI0 (g : Int -> Int -> V) (x : V) (y : V) (H : Hp) (Q : VK) : Prop
  | mk (i j : _) (_ : x = .int i) (_ : y = .int j) (_ : Q (g i j) H) : rI0 g x y H Q
inductive rU (g : Int -> V) (x : V) (H : Hp) (Q : VK) : Prop
  | mk (i : _) (_ : x = .int i) (_ : Q (g i) H) : rU g x H Q
section
variable {X : Cx} {a b c : Expr} {ta tb tc : TE} {pos : Pos}
theorem Wj (ha : PE X a ta) (hb : PE X b tb) {pins : List (Addr × Obj)} {s : Shared} {σ : St} {H : Hp} {R : V -> V -> Hp -> Prop} (I : Inv X pins σ H s)
    (h : ta σ H fun x H1 => tb σ H1 fun y H2 => R x y H2) {Q : Value -> Shared -> Prop} {f : Value -> Value -> Sem Value}
    (hf : ∀ v u s2 x y H2,Inv X pins σ H2 s2 -> RelV x v -> RelV y u -> R x y H2 -> wpAny (model X.prog X.w) X.A (f v u) Q X.xe s2) :
    wpAny (model X.prog X.w) X.A (eval a X.env) (fun v s₁ => wpAny (model X.prog X.w) X.A (eval b X.env) (fun u s₂ => wpAny (model X.prog X.w) X.A (f v u) Q X.xe s₂) X.xe s₁) X.xe s := by
  refine thn (ha pins s σ H _ I h) fun v s1 ⟨x,H1,I1,r1,q1⟩ => ?_
  refine thn (hb pins s1 σ H1 _ I1 q1) fun u s2 ⟨y,H2,I2,r2,q2⟩ => ?_
  exact hf v u s2 x y H2 I2 r1 r2 q2
theorem zp {op : Operator} {r : R2} (ho : OpR X (binaryOp op) r) (ha : PE X a ta) (hb : PE X b tb) : PE X (.BinOp a op b pos) (tOp r ta tb) := by
  intro pins s σ H Q I h
  exact wpAny_BinOp (Wj ha hb I h fun v u s2 x y H2 I2 rx ry q => ho pins s2 σ H2 x y v u Q I2 rx ry q)
theorem yN {op : UnaryOp} {r : V -> Hp -> VK -> Prop} (ho : UnR X (unaryOp op) r) (ha : PE X a ta) : PE X (.UnaryOp op a pos) (tUn r ta) := by
  intro pins s σ H Q I h
  exact UnaryOp_ (thn (ha pins s σ H _ I h) fun v s1 ⟨x,H1,I1,r1,q1⟩ => ho pins s1 σ H1 x v Q I1 r1 q1)
theorem opI {f : Value -> Value -> Sem Value} {C : Int -> Int -> Prop} {g : Int -> Int -> Int}
    (rule : ∀ (i j : Int) (t u : Tok) (s : Shared) (Q : Value -> Shared -> Prop) (E : Value -> Shared -> Prop),C i j -> Q (.int (g i j) s.toks) { s with toks := s.toks + 1 } -> wpAny (model X.prog X.w) X.A (f (.int i t) (.int j u)) Q E s) :
    OpR X f (rI C fun i j => .int (g i j)) := by
  intro pins s σ H x y v u Q I rx ry h
  obtain ⟨i,j,rfl,rfl,hc,q⟩ := h
  obtain ⟨t,rfl⟩ := rx
  obtain ⟨t',rfl⟩ := ry
  exact rule i j t t' s _ _ hc ⟨.int (g i j),H,I.tok _,⟨_,rfl⟩,q⟩
theorem WI {f : Value -> Value -> Sem Value} {g : Int -> Int -> Int}
    (rule : ∀ (i j : Int) (t u : Tok) (s : Shared) (Q : Value -> Shared -> Prop) (E : Value -> Shared -> Prop),Q (.int (g i j) s.toks) { s with toks := s.toks + 1 } -> wpAny (model X.prog X.w) X.A (f (.int i t) (.int j u)) Q E s) :
    OpR X f (rI0 fun i j => .int (g i j)) := by
  intro pins s σ H x y v u Q I rx ry h
  obtain ⟨i,j,rfl,rfl,q⟩ := h
  obtain ⟨t,rfl⟩ := rx
  obtain ⟨t',rfl⟩ := ry
  exact rule i j t t' s _ _ ⟨.int (g i j),H,I.tok _,⟨_,rfl⟩,q⟩
theorem XT {f : Value -> Value -> Sem Value} {g : Int -> Int -> Bool}
    (rule : ∀ (i j : Int) (t u : Tok) (s : Shared) (Q : Value -> Shared -> Prop) (E : Value -> Shared -> Prop),Q (.bool (g i j)) s -> wpAny (model X.prog X.w) X.A (f (.int i t) (.int j u)) Q E s) :
    OpR X f (rI0 fun i j => .bl (g i j)) := by
  intro pins s σ H x y v u Q I rx ry h
  obtain ⟨i,j,rfl,rfl,q⟩ := h
  obtain ⟨t,rfl⟩ := rx
  obtain ⟨t',rfl⟩ := ry
  exact rule i j t t' s _ _ ⟨.bl (g i j),H,I,rfl,q⟩
def WZ (i j : Int) : Prop := 0 < j /\ j < 1073741824
def Yj (i j : Int) : Prop := 0 <= j /\ j <= 1000000 /\ i.natAbs < 2 ^ 64
def CMul (i j : Int) : Prop := (-(2 ^ 64) < i /\ i < 2 ^ 64) \/ (-(2 ^ 64) < j /\ j < 2 ^ 64)
theorem CMul.ok {i j : Int} (h : CMul i j) : IntMulOk i j := by
  rcases h with ⟨h1,h2⟩ | ⟨h1,h2⟩
  · exact .of_left (intBits_le_64 h1 h2)
  · exact .of_right (intBits_le_64 h1 h2)
theorem zI : OpR X (binaryOp .Add) (rI0 fun i j => .int (i + j)) := WI fun _ _ _ _ _ _ _ q => add_int q
theorem qz : OpR X (binaryOp .Sub) (rI0 fun i j => .int (i - j)) := WI fun _ _ _ _ _ _ _ q => sub_int q
theorem je : OpR X (binaryOp .Mult) (rI CMul fun i j => .int (i * j)) := opI fun _ _ _ _ _ _ _ hc q => mul_int q hc.ok
theorem yf : OpR X (binaryOp .FloorDiv) (rI WZ fun i j => .int (i / j)) := opI fun i j _ _ _ _ _ hc q => by
  have h1 : (0 : Int) < j := hc.1
  have h2 : j < 1073741824 := hc.2
  exact floordiv_int (by omega) (by rw [Int.fdiv_eq_ediv_of_nonneg i (by omega)];exact q) (.inl (PyProof.noPylong_small (by omega)))
theorem ja : OpR X (binaryOp .Mod) (rI (fun _ j => 0 < j) fun i j => .int (i % j)) := opI fun i j _ _ _ _ _ hc q => by
  have h1 : (0 : Int) < j := hc
  exact mod_int' (by omega) (by rw [Int.fmod_eq_emod_of_nonneg i (by omega)];exact q)
theorem JS : OpR X (binaryOp .Pow) (rI Yj fun i j => .int (i ^ j.toNat)) := opI fun _ _ _ _ _ _ _ hc q => pow_int_small hc.1 hc.2.1 hc.2.2 q
theorem unI {f : Value -> Sem Value} {g : Int -> Int}
    (rule : ∀ (i : Int) (t : Tok) (s : Shared) (Q : Value -> Shared -> Prop) (E : Value -> Shared -> Prop),Q (.int (g i) s.toks) { s with toks := s.toks + 1 } -> wpAny (model X.prog X.w) X.A (f (.int i t)) Q E s) :
    UnR X f (rU fun i => .int (g i)) := by
  intro pins s σ H x v Q I rx h
  obtain ⟨i,rfl,q⟩ := h
  obtain ⟨t,rfl⟩ := rx
  exact rule i t s _ _ ⟨.int (g i),H,I.tok _,⟨_,rfl⟩,q⟩
theorem vw : UnR X (unaryOp .USub) (rU fun i => .int (-i)) := unI fun _ _ _ _ _ q => neg_int q
end
def Ww : V -> V -> Bool
  | .non,.non => true | .non,.int _ => true | .int _,.non => true | .non,.bl _ => true | .bl _,.non => true | .non,.str _ => true | .str _,.non => true
  | .int _,.int _ => true | .bl _,.bl _ => true | .str _,.str _ => true | .byt _,.byt _ => true
  | .int _,.str _ => true | .str _,.int _ => true | .bl _,.str _ => true | .str _,.bl _ => true
  | _,_ => false
def rEq : R2 := fun x y H Q => Ww x y = true /\ Q (.bl (decide (x = y))) H
def rNe : R2 := fun x y H Q => Ww x y = true /\ Q (.bl (!decide (x = y))) H
theorem Ql {i j : Int} : decide (V.int i = V.int j) = (i == j) := by
  rw [Bool.eq_iff_iff]
  simp
theorem Xs {i j : Bool} : decide (V.bl i = V.bl j) = (i == j) := by
  rw [Bool.eq_iff_iff]
  simp
theorem Qk {i j : Str} : decide (V.str i = V.str j) = (i == j) := by
  rw [Bool.eq_iff_iff]
  simp
theorem Qm {i j : Array UInt8} : decide (V.byt i = V.byt j) = (i.toList == j.toList) := by
  rw [Bool.eq_iff_iff]
  cases i
  cases j
  simp
section
variable {X : Cx} {a b c : Expr} {ta tb tc : TE} {pos : Pos}
theorem zP {pins : List (Addr × Obj)} {σ : St} {H : Hp} {s : Shared} {Q : VK} {k k' : Bool} (I : Inv X pins σ H s) (q : Q (.bl k) H) (e : k = k') : EP X pins σ Q (.bool k') s := by
  subst e
  exact ⟨.bl k,H,I,rfl,q⟩
theorem qB : OpR X (compareOp .Eq) rEq := by
  intro pins s σ H x y v u Q I rx ry h
  obtain ⟨hs,q⟩ := h
  cases x with
  | non =>
    cases rx
    cases y with
    | non => cases ry;exact PySem.EqNone.eq_none_none (zP I q (by simp))
    | bl j => cases ry;exact PySem.EqNone.eq_none_bool (zP I q (by simp))
    | int j => obtain ⟨t',rfl⟩ := ry;exact PySem.EqNone.eq_none_int (zP I q (by simp))
    | str j => obtain ⟨t',rfl⟩ := ry;exact PySem.EqNone.eq_none_str (zP I q (by simp))
    | _ => exact absurd (show false = true from hs) Bool.false_ne_true
  | bl i =>
    cases rx
    cases y with
    | non => cases ry;exact PySem.EqNone.eq_bool_none (zP I q (by simp))
    | bl j => cases ry;exact eq_bool (zP I q Xs)
    | str j => obtain ⟨t',rfl⟩ := ry;exact PySem.EqMixed.eq_bool_str (zP I q (by simp))
    | _ => exact absurd (show false = true from hs) Bool.false_ne_true
  | int i =>
    obtain ⟨t,rfl⟩ := rx
    cases y with
    | non => cases ry;exact PySem.EqNone.eq_int_none (zP I q (by simp))
    | int j => obtain ⟨t',rfl⟩ := ry;exact eq_int (zP I q Ql)
    | str j => obtain ⟨t',rfl⟩ := ry;exact PySem.EqMixed.eq_int_str (zP I q (by simp))
    | _ => exact absurd (show false = true from hs) Bool.false_ne_true
  | str i =>
    obtain ⟨t,rfl⟩ := rx
    cases y with
    | non => cases ry;exact PySem.EqNone.eq_str_none (zP I q (by simp))
    | bl j => cases ry;exact PySem.EqMixed.eq_str_bool (zP I q (by simp))
    | int j => obtain ⟨t',rfl⟩ := ry;exact PySem.EqMixed.eq_str_int (zP I q (by simp))
    | str j => obtain ⟨t',rfl⟩ := ry;exact eq_str (zP I q Qk)
    | _ => exact absurd (show false = true from hs) Bool.false_ne_true
  | byt i =>
    obtain ⟨t,rfl⟩ := rx
    cases y with
    | byt j => obtain ⟨t',rfl⟩ := ry;exact PySem.W.eq_bytes (zP I q Qm)
    | _ => exact absurd (show false = true from hs) Bool.false_ne_true
  | _ => cases y <;> exact absurd (show false = true from hs) Bool.false_ne_true
theorem JT : OpR X (compareOp .NotEq) rNe := by
  intro pins s σ H x y v u Q I rx ry h
  obtain ⟨hs,q⟩ := h
  cases x with
  | non =>
    cases rx
    cases y with
    | non => cases ry;exact PySem.EqNone.ne_none_none (zP I q (by simp))
    | bl j => cases ry;exact PySem.EqNone.ne_none_bool (zP I q (by simp))
    | int j => obtain ⟨t',rfl⟩ := ry;exact PySem.EqNone.ne_none_int (zP I q (by simp))
    | str j => obtain ⟨t',rfl⟩ := ry;exact PySem.EqNone.ne_none_str (zP I q (by simp))
    | _ => exact absurd (show false = true from hs) Bool.false_ne_true
  | bl i =>
    cases rx
    cases y with
    | non => cases ry;exact PySem.EqNone.ne_bool_none (zP I q (by simp))
    | bl j => cases ry;exact ne_bool (zP I q (congrArg not Xs))
    | str j => obtain ⟨t',rfl⟩ := ry;exact PySem.EqMixed.ne_bool_str (zP I q (by simp))
    | _ => exact absurd (show false = true from hs) Bool.false_ne_true
  | int i =>
    obtain ⟨t,rfl⟩ := rx
    cases y with
    | non => cases ry;exact PySem.EqNone.ne_int_none (zP I q (by simp))
    | int j => obtain ⟨t',rfl⟩ := ry;exact ne_int (zP I q (congrArg not Ql))
    | str j => obtain ⟨t',rfl⟩ := ry;exact PySem.EqMixed.ne_int_str (zP I q (by simp))
    | _ => exact absurd (show false = true from hs) Bool.false_ne_true
  | str i =>
    obtain ⟨t,rfl⟩ := rx
    cases y with
    | non => cases ry;exact PySem.EqNone.ne_str_none (zP I q (by simp))
    | bl j => cases ry;exact PySem.EqMixed.ne_str_bool (zP I q (by simp))
    | int j => obtain ⟨t',rfl⟩ := ry;exact PySem.EqMixed.ne_str_int (zP I q (by simp))
    | str j => obtain ⟨t',rfl⟩ := ry;exact ne_str (zP I q (congrArg not Qk))
    | _ => exact absurd (show false = true from hs) Bool.false_ne_true
  | byt i =>
    obtain ⟨t,rfl⟩ := rx
    cases y with
    | byt j => obtain ⟨t',rfl⟩ := ry;exact PySem.W.ne_bytes (zP I q (congrArg not Qm))
    | _ => exact absurd (show false = true from hs) Bool.false_ne_true
  | _ => cases y <;> exact absurd (show false = true from hs) Bool.false_ne_true
theorem Z8 : OpR X (compareOp .Lt) (rI0 fun i j => .bl (decide (i < j))) := XT fun _ _ _ _ _ _ _ q => lt_int q
theorem WG : OpR X (compareOp .LtE) (rI0 fun i j => .bl (decide (i <= j))) := XT fun _ _ _ _ _ _ _ q => le_int q
theorem wD : OpR X (compareOp .Gt) (rI0 fun i j => .bl (decide (j < i))) := XT fun _ _ _ _ _ _ _ q => gt_int q
theorem WH : OpR X (compareOp .GtE) (rI0 fun i j => .bl (decide (j <= i))) := XT fun _ _ _ _ _ _ _ q => ge_int q
theorem VU : OpR X (compareOp .Is) (fun x y H Q => y = .non /\ Q (.bl (decide (x = .non))) H) := by
  intro pins s σ H x y v u Q I rx ry h
  obtain ⟨rfl,q⟩ := h
  cases ry
  refine is_none_gen (zP I q ?_)
  cases x <;> first
    | (cases rx;rfl)
    | (obtain ⟨t,rfl⟩ := rx;rfl)
theorem OpR.or {f : Value -> Value -> Sem Value} {r r' : R2} (h : OpR X f r) (h' : OpR X f r') : OpR X f (fun x y H Q => r x y H Q \/ r' x y H Q) := by
  intro pins s σ H x y v u Q I rx ry q
  rcases q with q | q
  · exact h pins s σ H x y v u Q I rx ry q
  · exact h' pins s σ H x y v u Q I rx ry q
theorem zE (b : Expr) {op : CmpOp} (h : op ≠ .In := by decide) (h2 : op ≠ .NotIn := by decide) : behindInMarks op b = false := by
  have e1 : (op == CmpOp.In) = false := by cases op <;> first | rfl | exact absurd rfl h
  have e2 : (op == CmpOp.NotIn) = false := by cases op <;> first | rfl | exact absurd rfl h2
  cases b <;> simp [behindInMarks,e1,e2]
theorem qm {op : CmpOp} {r : R2} (ho : OpR X (compareOp op) r) (ha : PE X a ta) (hb : PE X b tb) (hm : behindInMarks op b = false) : PE X (.Compare a [op] [b] pos) (tOp r ta tb) := by
  intro pins s σ H Q I h
  exact wpAny_Compare1 (Wj ha hb I h fun v u s2 x y H2 I2 rx ry q => ho pins s2 σ H2 x y v u Q I2 rx ry q) hm
def Wp (t : TE) : TT := fun σ H Q => t σ H fun x H' => IsB x H' Q
theorem zG {op : CmpOp} {r : R2} (ho : OpR X (compareOp op) r) (ha : PE X a ta) (hb : PE X b tb) (hm : behindInMarks op b = false) : PT X (.Compare a [op] [b] pos) (Wp (tOp r ta tb)) := by
  intro pins s σ H Q I h
  refine wpAny_isTrue_Compare1 (thn (ha pins s σ H _ I h) fun v s1 ⟨x,H1,I1,r1,q1⟩ => thn (hb pins s1 σ H1 _ I1 q1) fun u s2 ⟨y,H2,I2,r2,q2⟩ =>
    thn (ho pins s2 σ H2 x y v u _ I2 r1 r2 q2) fun c s3 ⟨z,H3,I3,r3,k,e,q3⟩ => ?_) hm
  subst e
  cases r3
  exact wpAny_truthy_bool ⟨H3,I3,q3⟩
theorem vO : (sizeLine : Nat) < 2 ^ 63 := by rw [sizeLine_eq];decide
inductive xP (x : V) (y : V) (H : Hp) (Q : VK) : Prop
  | mk (i j : _) (_ : x = .str i) (_ : y = .str j) (_ : i.length + j.length <= sizeLine) (_ : Q (.str (i ++ j)) H) : xP x y H Q
theorem Zz : OpR X (binaryOp .Add) (xP) := by
  intro pins s σ H x y v u Q I rx ry h
  obtain ⟨i,j,rfl,rfl,hz,q⟩ := h
  obtain ⟨t,rfl⟩ := rx
  obtain ⟨t',rfl⟩ := ry
  exact add_str (fun t' tk => ⟨.str (i ++ j),H,I.tok _,⟨_,rfl⟩,q⟩) hz
theorem jO {x : V} {us : List Value} (r : Vals [x] us) : ∃ u,us = [u] /\ RelV x u := by
  cases r with
  | cons r1 r2 => cases r2;exact ⟨_,rfl,r1⟩
theorem vv {x y : V} {us : List Value} (r : Vals [x,y] us) : ∃ u w',us = [u,w'] /\ RelV x u /\ RelV y w' := by
  cases r with
  | cons r1 r2 =>
    cases r2 with
    | cons r3 r4 => cases r4;exact ⟨_,_,rfl,r1,r3⟩
inductive vZ (xs : List V) (H : Hp) (Q : VK) : Prop
  | mk (i : _) (_ : xs = [.int i]) (_ : Q (.int (if i < 0 then -i else i)) H) : vZ xs H Q
theorem jr : CallR X (.builtin "abs") (vZ) := by
  intro pins s σ H xs us Q I r h
  obtain ⟨i,rfl,q⟩ := h
  obtain ⟨u,rfl,t,rfl⟩ := jO r
  exact call_abs_int fun u tk => ⟨.int (if i < 0 then -i else i),H,I.tok _,⟨_,rfl⟩,q⟩
inductive vd (xs : List V) (H : Hp) (Q : VK) : Prop
  | mk (i j : _) (_ : xs = [.int i,.int j]) (_ : Q (.int (if j > i then j else i)) H) : vd xs H Q
theorem xi (hc : X.calm = true) : CallR X (.builtin "max") (vd) := by
  intro pins s σ H xs us Q I r h
  obtain ⟨i,j,rfl,q⟩ := h
  obtain ⟨u,w',rfl,⟨t,rfl⟩,⟨t',rfl⟩⟩ := vv r
  refine max_two_ints (I.ok.hd hc) fun h' tk k => ⟨_,H,I.kept k,?_,q⟩
  by_cases hj : j > i
  · rw [if_pos hj,if_pos hj];exact ⟨_,rfl⟩
  · rw [if_neg hj,if_neg hj];exact ⟨_,rfl⟩
inductive vc (xs : List V) (H : Hp) (Q : VK) : Prop
  | mk (i j : _) (_ : xs = [.int i,.int j]) (_ : Q (.int (if j < i then j else i)) H) : vc xs H Q
theorem wM (hc : X.calm = true) : CallR X (.builtin "min") (vc) := by
  intro pins s σ H xs us Q I r h
  obtain ⟨i,j,rfl,q⟩ := h
  obtain ⟨u,w',rfl,⟨t,rfl⟩,⟨t',rfl⟩⟩ := vv r
  refine min_two_ints (I.ok.hd hc) fun h' tk k => ⟨_,H,I.kept k,?_,q⟩
  by_cases hj : j < i
  · rw [if_pos hj,if_pos hj];exact ⟨_,rfl⟩
  · rw [if_neg hj,if_neg hj];exact ⟨_,rfl⟩
theorem jB : CallR X (.type "int") (fun xs H Q => (∃ i,xs = [.int i] /\ Q (.int i) H) \/ ∃ k,xs = [.bl k] /\ Q (.int (if k then 1 else 0)) H) := by
  intro pins s σ H xs us Q I r h
  rcases h with ⟨i,rfl,q⟩ | ⟨k,rfl,q⟩
  · obtain ⟨u,rfl,t,rfl⟩ := jO r
    exact call_int_int ⟨.int i,H,I,⟨_,rfl⟩,q⟩
  · obtain ⟨u,rfl,r1⟩ := jO r
    cases r1
    exact call_int_bool ⟨.int (if k then 1 else 0),H,I.tok _,⟨_,rfl⟩,q⟩
inductive j8 (xs : List V) (H : Hp) (Q : VK) : Prop
  | mk (i : _) (_ : xs = [.int i]) (_ : i.natAbs.log2 < 1920) (_ : Q (.str (toString i)) H) : j8 xs H Q
theorem yp : CallR X (.type "str") (j8) := by
  intro pins s σ H xs us Q I r h
  obtain ⟨i,rfl,hz,q⟩ := h
  obtain ⟨u,rfl,t,rfl⟩ := jO r
  exact PySem.P.str_of_int hz ⟨.str _,H,I.tok _,⟨_,rfl⟩,q⟩
inductive xq (xs : List V) (H : Hp) (Q : VK) : Prop
  | mk (i j : _) (_ : xs = [.int i,.int j]) (_ : WZ i j) (_ : ∀ p,H p = none -> Q (.ref p) (upd H p (.tup [.int (i / j),.int (i % j)]))) : xq xs H Q
theorem Za : CallR X (.builtin "divmod") (xq) := by
  intro pins s σ H xs us Q I r h
  obtain ⟨i,j,rfl,⟨h1,h2⟩,q⟩ := h
  obtain ⟨u,w',rfl,⟨t,rfl⟩,⟨t',rfl⟩⟩ := vv r
  refine divmod_int (by omega) ?_ (.inl (PyProof.noPylong_small (by omega)))
  rw [Int.fdiv_eq_ediv_of_nonneg i (by omega),Int.fmod_eq_emod_of_nonneg i (by omega)]
  have hn : H s.heap.objs.size = none := I.hok.fresh (Nat.le_refl _)
  refine ⟨.ref s.heap.objs.size,_,?_,rfl,q _ hn⟩
  refine I.laid (fun b o e => Heap.get?_push_of_some _ e) (Nat.le_refl _) ⟨by simp only [List.length_cons,List.length_nil];rw [sizeLine_eq];decide,[.int (i / j) s.toks,.int (i % j) (s.toks + 1)],.cons ⟨_,rfl⟩ (.cons ⟨_,rfl⟩ .nil),?_⟩
  exact ⟨⟨_,Heap.get?_push_size s.heap rfl,rfl,0,rfl⟩,_,Heap.get?_push_size s.heap rfl,rfl⟩
end
end L2
namespace L2
open PySem PySem.Spec PyProof.Rows
structure ObjM (h : Heap) (x dx C : Addr) (mA : Str -> Option Value) : Prop where
  obj : h.get? x = some (PySem.W.instObj C dx)
  ns : h.Ns1 dx mA
  ne : dx ≠ x
section
variable {prog : Program} {w : World} {A : Around} {E : Value -> Shared -> Prop} {s : Shared} {K : PySem.W.Frag} {x dx C f : Addr} {mA : Str -> Option Value} {name : Str} {v : Value}
end
def putF (f : Str) (v : V) : List (Str × V) -> List (Str × V)
  | [] => [(f,v)]
  | (g,x) :: r => if g = f then (g,v) :: r else (g,x) :: putF f v r
section
variable {P : Program} {w : World} {H H' : Hp} {h h' : Heap} {a C dx : Addr} {fs fs' : List (Str × V)}
end
structure Cls (K : PySem.W.Frag) (C : Addr) : Prop where
  pg : PySem.W.plainGet K C Str.empty = true
  hd : PySem.W.hasDictIn K C = true
  po : PySem.W.plainOver K C = true
  sa : PySem.W.findIn K (.ref C) "__setattr__" = some (some (.builtin "object.__setattr__"))
theorem Cls.get {K : PySem.W.Frag} {C : Addr} (c : Cls K C) (f : Str) : PySem.W.plainGet K C f = true := c.pg
structure Con (K : PySem.W.Frag) (C : Addr) (f : Str) (v : V) (u : Value) : Prop where
  at_ : PySem.W.findIn K (.ref C) f = some (some u)
  rel : RelV v u
  get : PySem.W.specialIn K u "__get__" = some none
  cp : PySem.W.copiedNames.contains f = false
structure Meth (K : PySem.W.Frag) (C : Addr) (m : Str) (f : Addr) : Prop where
  at_ : PySem.W.findIn K (.ref C) m = some (some (.ref f))
  fn : PySem.W.isFn K (.ref f) = true
  kp : PySem.W.keepIn K (.ref f) = true
section
variable {X : Cx} {pins : List (Addr × Obj)} {σ : St} {H : Hp} {s : Shared} {a C dx : Addr} {fs : List (Str × V)} {f : Str} {v : V} {A : Around} {E : Value -> Shared -> Prop}
end
section
variable {X : Cx} {o e value : Expr} {f : Str} {pos pos' tpos : Pos} {ta tv : TE}
end
section
variable {X : Cx} {pins : List (Addr × Obj)} {σ : St} {H : Hp} {s : Shared} {A : Around} {E : Value -> Shared -> Prop} {Q : Value -> Shared -> Prop} {c : Value} {b : Bool}
inductive vV (K : PySem.W.Frag) (H : Hp) : V -> Value -> Prop where
  | non : vV K H .non (.type "NoneType")
  | bl (x : Bool) : vV K H (.bl x) (.type "bool")
  | int (i : Int) : vV K H (.int i) (.type "int")
  | str (x : Str) : vV K H (.str x) (.type "str")
  | flt (x : UInt64) : vV K H (.flt x) (.type "float")
  | lst {a : Addr} {xs : List V} (e : H a = some (.lst xs)) : vV K H (.ref a) (.type "list")
  | frz {a : Addr} {o : Obj} {xs : List V} (e : H a = some (.frz o (.lst xs))) : vV K H (.ref a) (.type "list")
  | tup {a : Addr} {xs : List V} (e : H a = some (.tup xs)) : vV K H (.ref a) (.type "tuple")
  | dK {a : Addr} {kvs : List (Key × V)} (e : H a = some (.dK kvs)) : vV K H (.ref a) (.type "dict")
  | dT {a : Addr} {kvs : List (List Key × V)} (e : H a = some (.dT kvs)) : vV K H (.ref a) (.type "dict")
  | ins {a C dx : Addr} {fs : List (Str × V)} (e : H a = some (.ins C dx fs)) (cl : Cls K C) (ha : PySem.W.findIn K (.ref C) "__class__" = some (some (.builtin "object.__class__")))
      (hn : PySem.W.specialIn K (.builtin "object.__class__") "__get__" = some (some (.builtin "getset_descriptor.__get__"))) (htk : PySem.W.takesIn K (.builtin "object.__class__") = some true)
      (hm : PySem.W.mroIn K C (.type "object") = some true) : vV K H (.ref a) (.ref C)
end
end L2
namespace L2
open PySem PySem.Spec PyProof.Rows
structure Room (k : Nat) (A : Around) : Prop where
  hd : A.handled = none
  dp : A.depth + 3 * k + 5 < recursionLimit
  un : A.units + 16 * k + 200 < cLine
  gd : A.guards = some []
theorem Room.mono {j k : Nat} {A : Around} (r : Room k A) (h : j <= k) : Room j A := ⟨r.hd,by have := r.dp;omega,by have := r.un;omega,r.gd⟩
theorem Room.deeper {k : Nat} {A : Around} (r : Room (k + 1) A) (env : Env) : Room k (A.deeper env) :=
  ⟨r.hd,by have := r.dp;show A.depth + 1 + 3 * k + 5 < _;omega,by have := r.un;show A.units + 3 + 16 * k + 200 < _;omega,r.gd⟩
theorem Room.depth {k : Nat} {A : Around} (r : Room k A) : A.depth < recursionLimit := by have := r.dp;omega
theorem Room.units {k : Nat} {A : Around} (r : Room k A) : A.units + 64 < cLine := by have := r.un;omega
theorem Room.units0 {k : Nat} {A : Around} (r : Room k A) : A.units < cLine := by have := r.un;omega
def XG : TA := fun _ H Q => Q [] H
def qr (ta : TE) (tr : TA) : TA := fun σ H Q => ta σ H fun x H1 => tr σ H1 fun xs H2 => Q (x :: xs) H2
section
variable {X : Cx} {e : Expr} {es : List Expr} {te : TE} {t : TA} {pos : Pos}
theorem zc : PA X [] XG := fun _ _ _ _ H Q I h => Calls.spliced_nil ⟨[],H,I,.nil,h⟩
theorem za (ha : PE X e te) (hr : PA X es t) (hs : starEach (e :: es) X.env = (false,eval e X.env) :: starEach es X.env := by rfl) : PA X (e :: es) (qr te t) := by
  intro pos pins s σ H Q I h
  rw [hs]
  show wpAny _ _ (spliced ((false,eval e X.env) :: backTo pos (starEach es X.env))) _ _ s
  refine Calls.spliced_cons (thn (ha pins s σ H _ I h) fun u s1 ⟨x,H1,I1,r1,q1⟩ => ?_)
  exact thn (hr pos pins s1 σ H1 _ I1 q1) fun us s2 ⟨xs,H2,I2,r2,q2⟩ => ⟨x :: xs,H2,I2,.cons r1 r2,q2⟩
def W0 (t : TA) : TE := fun σ H Q => t σ H fun xs H1 => xs.length <= sizeLine /\ ∀ p,H1 p = none -> Q (.ref p) (upd H1 p (.tup xs))
def W7 (t : TA) : TE := fun σ H Q => t σ H fun xs H1 => xs.length <= sizeLine /\ ∀ p,H1 p = none -> Q (.ref p) (upd H1 p (.lst xs))
theorem zQ {x1} (h : PA X es t) : PE X (.Tuple es x1 pos) (W0 t) := by
  intro pins s σ H Q I hq
  refine wpAny_Tuple_spliced (thn (h pos pins s σ H _ I hq) fun us s1 ⟨xs,H1,I1,r,z,q⟩ => ⟨by rw [<- r.length];exact z,?_⟩)
  have hf : H1 s1.heap.objs.size = none := I1.hok.fresh (Nat.le_refl _)
  refine ⟨.ref s1.heap.objs.size,upd H1 s1.heap.objs.size (.tup xs),I1.laid (t' := s1.toks) (fun b u e => Heap.get?_push_of_some _ e) (Nat.le_refl _) ?_,rfl,q _ hf⟩
  exact ⟨z,us,r,⟨_,Heap.get?_push_size _ rfl,rfl,_,rfl⟩,_,Heap.get?_push_size _ rfl,rfl⟩
theorem zA (h : PA X es t) : PE X (.List es pos) (W7 t) := by
  intro pins s σ H Q I hq
  refine wpAny_List_spliced (thn (h pos pins s σ H _ I hq) fun us s1 ⟨xs,H1,I1,r,z,q⟩ => ⟨by rw [<- r.length];exact z,?_⟩)
  have hf : H1 s1.heap.objs.size = none := I1.hok.fresh (Nat.le_refl _)
  refine ⟨.ref s1.heap.objs.size,upd H1 s1.heap.objs.size (.lst xs),I1.laid (t' := s1.toks) (fun b u e => Heap.get?_push_of_some _ e) (Nat.le_refl _) ?_,rfl,q _ hf⟩
  exact ⟨z,us,0,r,Heap.get?_push_size _ rfl⟩
end
abbrev Sp := List V -> Hp -> VK -> XK -> Prop
abbrev CXT := List Env -> Hp -> Shared -> XK -> Value -> Shared -> Prop
structure Env0 (P : Program) (w : World) (K : PySem.W.Frag) (mg : Str -> Option Value) (base : Heap) (A : Around) (outer : List Env) (s : Shared) (H : Hp) : Prop where
  frames : A.frames = some outer
  mod : Mod K mg base
  bs : ∀ b o,base.get? b = some o -> s.heap.get? b = some o /\ H b = none
  bsz : base.objs.size <= s.heap.objs.size
  funs : s.heap.FunFrames base outer
  frf : ∀ b ∈ frs outer,H b = none
  hok : HOk P w H s.heap
  bare : AllBare s.gens
def CE (outer : List Env) (P : Program) (w : World) (H : Hp) (s : Shared) (Q : VK) (u : Value) (s' : Shared) : Prop :=
  ∃ v H',s'.os = s.os /\ AllBare s'.gens /\ Un (frs outer) [] H H' s.heap s'.heap /\ HOk P w H' s'.heap /\ RelV v u /\ Q v H'
def CR (CX : CXT) (outer : List Env) (P : Program) (w : World) (H : Hp) (s : Shared) (Q : VK) (E : XK) (r : Result) (s' : Shared) : Prop :=
  match r with
  | .ok (.ret u) => CE outer P w H s Q u s'
  | .ok _ => False
  | .error e => CX outer H s E e s'
structure FnOk (P : Program) (w : World) (K : PySem.W.Frag) (mg : Str -> Option Value) (base : Heap) (CX : CXT) (k : Nat) (f : Addr) (fd : FuncData) (ps : List Str) (sp : Sp) : Prop where
  len : ∀ vs H Q E,sp vs H Q E -> vs.length = ps.length
  run : ∀ (A : Around) (outer : List Env) (s : Shared) (H : Hp) (args : Args) (us : List Value) (vs : List V) (Q : VK) (E : XK),Room k A -> Env0 P w K mg base A outer s H -> BindsTo s fd args (ps.zip us) -> Vals vs us -> sp vs H Q E ->
    codeAny (model P w) A (.call (.ref f) args) (CR CX outer P w H s Q E) s
theorem FnOk.mono {P : Program} {w : World} {K : PySem.W.Frag} {mg : Str -> Option Value} {base : Heap} {CX : CXT} {j k : Nat} {f : Addr} {fd : FuncData} {ps : List Str} {sp : Sp} (F : FnOk P w K mg base CX j f fd ps sp) (h : j <= k) :
    FnOk P w K mg base CX k f fd ps sp := ⟨F.len,fun A outer s H args us vs Q E hr => F.run A outer s H args us vs Q E (hr.mono h)⟩
theorem Env0.in1 {P : Program} {w : World} {K : PySem.W.Frag} {mg : Str -> Option Value} {base : Heap} {A : Around} {outer : List Env} {s : Shared} {H : Hp} (e : Env0 P w K mg base A outer s H) :
    Env0 P w K mg base A.in1 outer s H := ⟨e.frames,e.mod,e.bs,e.bsz,e.funs,e.frf,e.hok,e.bare⟩
section
variable {X : Cx} {pins : List (Addr × Obj)} {σ : St} {H : Hp} {s s' : Shared}
theorem Inv.env0 (I : Inv X pins σ H s) : Env0 X.prog X.w X.K X.mg X.base X.A X.stack s H :=
  ⟨I.ok.frames,I.ok.mod,I.bs,Nat.le_trans I.ok.bsz I.sz,I.stack,I.stkFree,I.hok,I.bare⟩
theorem Inv.after {Q : VK} {u : Value} (I : Inv X pins σ H s) (h : CE X.stack X.prog X.w H s Q u s') : EP X pins σ Q u s' := by
  obtain ⟨v,H',os,bare,un,hok,r,q⟩ := h
  obtain ⟨hh,g,d,t,os'⟩ := s'
  obtain rfl : os' = s.os := os
  exact ⟨v,H',I.call (h' := hh) (g' := g) (d' := d) (t' := t) (ch := []) un hok bare (fun b z => absurd z (by simp)),r,q⟩
end
def Vk (sp : Sp) (dvs : List V) (E : XK) (t : TA) : TE := fun σ H Q => t σ H fun vs H1 => sp (vs ++ dvs) H1 Q E
def Binds (K : PySem.W.Frag) (fd : FuncData) (ps : List Str) (ds : List Value) : Prop :=
  ∀ (s : Shared) (us : List Value),K.In s.heap -> (us ++ ds).length = ps.length -> BindsTo s fd ⟨us,[]⟩ (ps.zip (us ++ ds))
theorem Binds.all {K : PySem.W.Frag} {fd : FuncData} {ps : List Str} (h : ∀ us : List Value,us.length = ps.length -> bindArgs fd ⟨us,[]⟩ = pure (ps.zip us)) : Binds K fd ps [] := fun s us _ hl => by
  rw [List.append_nil] at hl ⊢
  exact .of_eq (h us hl)
def ZH (CX : CXT) (X : Cx) (E : XK) : Prop := ∀ (pins : List (Addr × Obj)) (σ : St) (H : Hp) (s : Shared) (e : Value) (s' : Shared),Inv X pins σ H s -> CX X.stack H s E e s' -> X.xe e s'
section
variable {X : Cx} {CX : CXT} {k : Nat} {f C : Addr} {fd : FuncData} {ps : List Str} {sp : Sp} {dvs : List V} {ds : List Value} {E : XK} {x m : Str} {p pos apos : Pos} {e o : Expr} {es : List Expr} {ta : TE} {t : TA}
theorem VM {pins : List (Addr × Obj)} {σ : St} {H : Hp} {s : Shared} {Q : VK} {us : List Value} {vs : List V} (F : FnOk X.prog X.w X.K X.mg X.base CX k f fd ps sp) (hr : Room k X.A) (hb : Binds X.K fd ps ds) (hd : Vals dvs ds) (hx : ZH CX X E)
    (I : Inv X pins σ H s) (r : Vals vs us) (h : sp (vs ++ dvs) H Q E) : wpAny (model X.prog X.w) X.A (call (.ref f) us) (EP X pins σ Q) X.xe s := by
  have r2 : Vals (vs ++ dvs) (us ++ ds) := r.append hd
  have hl : (us ++ ds).length = ps.length := by rw [<- r2.length];exact F.len _ _ _ _ h
  refine wpAny_call (codeAny_mono (F.run X.A X.stack s H ⟨us,[]⟩ (us ++ ds) (vs ++ dvs) Q E hr I.env0 (hb s us I.kIn hl) r2 h) fun r s' hq => ?_)
  cases r with
  | error e => exact hx pins σ H s e s' I hq
  | ok fl =>
    cases fl with
    | ret u => exact I.after hq
    | next => exact False.elim hq
    | brk => exact False.elim hq
    | cont => exact False.elim hq
theorem XR (F : FnOk X.prog X.w X.K X.mg X.base CX k f fd ps sp) (hr : Room k X.A) (hg : Gl X x) (hm : X.mg x = some (.ref f)) (hk : PySem.W.keepIn X.K (.ref f) = true) (hb : Binds X.K fd ps ds) (hd : Vals dvs ds) (hx : ZH CX X E)
    (ha : PA X (e :: es) t) (hdb : (x == ("__debug__" : Str)) = false := by decide) (he : starEach (e :: es) X.env = (false,eval e X.env) :: starEach es X.env := by rfl) (hpl : (backTo pos (starEach es X.env)).any (·.1) = false := by rfl) :
    PE X (.Call (.Name x p) (e :: es) [] pos) (Vk sp dvs E t) := by
  intro pins s σ H Q I h
  refine wpAny_Call_Name_kw (X7 I hg hm ?_ hdb)
  refine PySem.W.callWith_K (h₀ := X.base) I.ok.mod.kin hk (thn (ha pos pins s σ H _ I h) fun us s1 ⟨vs,H1,I1,r,q⟩ => ⟨I1.kIn,?_⟩) he hpl
  exact VM F hr hb hd hx I1 r q
structure Mk (K : PySem.W.Frag) (C f : Addr) : Prop where
  makes : PySem.W.makesIn K C = true
  init : PySem.W.findIn K (.ref C) "__init__" = some (some (.ref f))
  fn : PySem.W.isFn K (.ref f) = true
  kp : PySem.W.keepIn K (.ref C) = true
end
section
variable {X : Cx} {CX : CXT} {k : Nat} {f C : Addr} {fd : FuncData} {ps ks : List Str} {sp : Sp} {E : XK} {x m : Str} {p pos apos kpos : Pos} {e o : Expr} {es : List Expr} {kws : List Keyword} {te ta : TE} {t tk : TA} {nm : Option Str}
structure KBinds (K : PySem.W.Frag) (fd : FuncData) (ps ks : List Str) (g : List Value -> List Value -> List Value) (gV : List V -> List V -> List V) : Prop where
  to : ∀ (s : Shared) (us ws : List Value),K.In s.heap -> (g us ws).length = ps.length -> BindsTo s fd ⟨us,ks.zip ws⟩ (ps.zip (g us ws))
  rel : ∀ {vs : List V} {us : List Value} {zs : List V} {ws : List Value},Vals vs us -> Vals zs ws -> Vals (gV vs zs) (g us ws)
variable {g : List Value -> List Value -> List Value} {gV : List V -> List V -> List V}
end
structure zy (N P : List Str) (sc : Scope) : Prop where
  kind : sc.kind = .function
  co : sc.isCoroutine = false
  gen : sc.isGenerator = false
  nd : N.Nodup
  pre : N.take P.length = P
  par : ∀ x ∈ P,sc.names.lookup x = some .local \/ sc.names.lookup x = some .cell
  nofree : ∀ y ∈ sc.names,y.2 ≠ .free
theorem wN {kindOf : Str -> Option NameKind} {x : Str} : ∀ {binds : List (Str × Value)} {m : Str -> Option Value},(∀ v,(x,v) ∉ binds) -> bindL kindOf binds m x = m x
  | [],_,_ => rfl
  | (n,v) :: r,m,h => by
    unfold bindL
    rw [wN fun w hw => h w (List.mem_cons_of_mem _ hw)]
    split
    · have : x ≠ n := by rintro rfl;exact h v List.mem_cons_self
      simp [this]
    · rfl
theorem wP {kindOf : Str -> Option NameKind} {x : Str} : ∀ {binds : List (Str × Value)} {m : Str -> Option Value},(∀ v,(x,v) ∉ binds) -> bindC kindOf binds m x = m x
  | [],_,_ => rfl
  | (n,v) :: r,m,h => by
    unfold bindC
    rw [wP fun w hw => h w (List.mem_cons_of_mem _ hw)]
    split
    · rfl
    · have : x ≠ n := by rintro rfl;exact h v List.mem_cons_self
      simp [this]
theorem wO {kindOf : Str -> Option NameKind} {x : Str} {v : Value} : ∀ {P : List Str} {vs : List Value} {i : Nat} {m : Str -> Option Value},P.Nodup -> P[i]? = some x -> vs[i]? = some v -> kindOf x = some .local ->
    bindL kindOf (P.zip vs) m x = some v
  | [],_,_,_,_,h,_,_ => by simp at h
  | _ :: _,[],_,_,_,_,h,_ => by simp at h
  | p :: P,w :: vs,0,m,nd,h1,h2,hk => by
    simp at h1 h2;subst h1;subst h2
    show bindL kindOf ((p,w) :: P.zip vs) m p = _
    unfold bindL
    rw [wN fun v hv => (List.nodup_cons.mp nd).1 (List.of_mem_zip hv).1,if_pos hk]
    simp
  | p :: P,w :: vs,i + 1,m,nd,h1,h2,hk => by
    show bindL kindOf ((p,w) :: P.zip vs) m x = _
    unfold bindL
    exact wO (i := i) (List.nodup_cons.mp nd).2 (by simpa using h1) (by simpa using h2) hk
theorem wQ {kindOf : Str -> Option NameKind} {x : Str} {v : Value} : ∀ {P : List Str} {vs : List Value} {i : Nat} {m : Str -> Option Value},P.Nodup -> P[i]? = some x -> vs[i]? = some v -> kindOf x ≠ some .local ->
    bindC kindOf (P.zip vs) m x = some v
  | [],_,_,_,_,h,_,_ => by simp at h
  | _ :: _,[],_,_,_,_,h,_ => by simp at h
  | p :: P,w :: vs,0,m,nd,h1,h2,hk => by
    simp at h1 h2;subst h1;subst h2
    show bindC kindOf ((p,w) :: P.zip vs) m p = _
    unfold bindC
    rw [wP fun v hv => (List.nodup_cons.mp nd).1 (List.of_mem_zip hv).1,if_neg hk]
    simp
  | p :: P,w :: vs,i + 1,m,nd,h1,h2,hk => by
    show bindC kindOf ((p,w) :: P.zip vs) m x = _
    unfold bindC
    exact wQ (i := i) (List.nodup_cons.mp nd).2 (by simpa using h1) (by simpa using h2) hk
def x6 (N : List Str) (vs : List V) : St := vs.map some ++ List.replicate (N.length - vs.length) none
def Jb (CX : CXT) (P : Program) (w : World) (K : PySem.W.Frag) (mg : Str -> Option Value) (base : Heap) (N : List Str) (qual : Str) (scope : Scope) (f : Addr) (cd : Value) (A : Around) (outer : List Env) (s : Shared) (H : Hp) (E : XK) : Cx where
  prog := P
  w := w
  K := K
  mg := mg
  base := base
  A := A.deeper (envOfC qual scope s.heap.objs.size f cd)
  N := N
  s₀ := s
  H₀ := H
  env := envOfC qual scope s.heap.objs.size f cd
  outer := outer
  stack := envOfC qual scope s.heap.objs.size f cd :: outer
  ex := []
  calm := true
  fn := fun _ => true
  pn := []
  xe := fun e s' => wpAny (model P w) (A.deeper (envOfC qual scope s.heap.objs.size f cd)) (leaving (envOfC qual scope s.heap.objs.size f cd) e) (fun _ s'' => CX outer H s E e s'') (fun e' s'' => CX outer H s E e' s'') s'
theorem y9 {sc : Scope} {n : Nat} {x : Str} (h : sc.names.lookup x = some .cell) : ∃ c,(cellsFrom n sc.names []).lookup x = some c := by
  have q := PySem.W.cellsFrom_some sc.names n [] (.inl h)
  exact Option.isSome_iff_exists.mp q
theorem Q8 {CX : CXT} {P : Program} {w : World} {K : PySem.W.Frag} {mg : Str -> Option Value} {base : Heap} {N ps : List Str} {qual : Str} {scope : Scope} {f : Addr} {cd : Value} {A : Around} {outer : List Env} {s s1 : Shared} {H : Hp} {E : XK} {us : List Value} {vs : List V}
    (S : zy N ps scope) (hd : A.handled = none) (e0 : Env0 P w K mg base A outer s H) (hl : vs.length = ps.length) (r : Vals vs us)
    (x : InCallC s s.heap.objs.size (bindL (envOfC qual scope s.heap.objs.size f cd).kindOf (ps.zip us) fun _ => none) (cellsFrom (s.heap.objs.size + 1) scope.names []) (bindC (envOfC qual scope s.heap.objs.size f cd).kindOf (ps.zip us) fun _ => none) s1) :
    Inv (Jb CX P w K mg base N qual scope f cd A outer s H E) [] (x6 N vs) H s1 := by
  have hpl : ps.length <= N.length := by have := congrArg List.length S.pre;rw [List.length_take] at this;omega
  obtain ⟨h1,tk,rfl,hk⟩ := x.done
  have noA : ∀ b : Addr,b ∉ (Jb CX P w K mg base N qual scope f cd A outer s H E).ex := fun b z => absurd (show b ∈ ([] : List Addr) from z) (by simp)
  refine ⟨⟨e0.mod,S.kind,rfl,rfl,Nat.le_refl _,fun y z c h1 h2 => ?_,fun y hy => ?_,fun y c _ h => ?_,fun _ => hd,Around.frames_deeper e0.frames,.inr ⟨rfl,rfl⟩,fun b z => absurd z (noA b),e0.bs,e0.bsz,fun b _ _ => noA b,fun b z => absurd z (noA b),e0.funs,e0.frf⟩,
    rfl,e0.bare,Un.kept hk,⟨_,x.toInCall.ns,fun i y v h1 h2 h3 => ?_⟩,fun y c h => ⟨_,x.cell y c h⟩,e0.hok.fresh (Nat.le_refl _),fun y c h => ?_,fun p hp => absurd (show p ∈ ([] : List (Addr × Obj)) from hp) (by simp),e0.hok.kept hk,?_⟩
  · exact name_of_addr x.apart (PySem.mem_of_lookup h1) (PySem.mem_of_lookup h2)
  · have hy : scope.names.lookup y = some .cell \/ scope.names.lookup y = some .free := hy
    rcases hy with hy | hy
    · exact y9 hy
    · exact absurd rfl (S.nofree _ (PySem.mem_of_lookup hy))
  · exact Nat.le_of_lt (x.above y c (PySem.mem_of_lookup h))
  · have hi : i < vs.length := by
      unfold x6 at h2
      by_cases hi : i < vs.length
      · exact hi
      · rw [List.getElem?_append_right (by simpa using hi)] at h2
        rw [List.getElem?_replicate] at h2
        split at h2 <;> cases h2
    have ha : vs[i]? = some v := by
      unfold x6 at h2
      rw [List.getElem?_append_left (by simpa using hi),List.getElem?_map] at h2
      cases e : vs[i]? with
      | none => rw [e] at h2;cases h2
      | some a => rw [e] at h2;cases h2;rfl
    obtain ⟨u,hu,rv⟩ := r.get ha
    have hp : ps[i]? = some y := by
      rw [<- S.pre,List.getElem?_take_of_lt (by omega)];exact h1
    have ndP : ps.Nodup := by rw [<- S.pre];exact S.nd.sublist (List.take_sublist _ _)
    refine ⟨u,rv,?_⟩
    rcases S.par y (List.mem_of_getElem? hp) with k | k
    · exact .inl ⟨k,wO ndP hp hu k⟩
    · obtain ⟨c,e⟩ := y9 (n := s.heap.objs.size + 1) k
      refine .inr ⟨.inl k,c,e,?_⟩
      have q := x.cell y c e
      rw [wQ ndP hp hu (by show scope.names.lookup y ≠ _;rw [k];decide)] at q
      exact q
  · exact e0.hok.fresh (Nat.le_of_lt (x.above y c (PySem.mem_of_lookup h)))
  · unfold x6
    show _ = N.length
    rw [List.length_append,List.length_map,List.length_replicate]
    omega
theorem WO {CX : CXT} {P : Program} {w : World} {K : PySem.W.Frag} {mg : Str -> Option Value} {base : Heap} {k : Nat} {f : Addr} {name qual : Str} {params : Arguments} {body : List Stmt} {scope : Scope} {dV kV doc pm cdv ct oc : Value} {an od : Option Addr}
    {osl : Array (Option Value)} {N ps : List Str} {sp : Sp} (lk : K.lookup f = some ⟨oc,od,.func (PySem.W.fnOf name qual params body scope dV kV doc pm an cdv ct),osl⟩) (hcd : PySem.W.codeIn K cdv qual = true) (S : zy N ps scope)
    (len : ∀ vs H Q E,sp vs H Q E -> vs.length = ps.length)
    (hbody : ∀ (A : Around) (outer : List Env) (s : Shared) (H : Hp) (vs : List V) (Q : VK) (E : XK),Room k (A.deeper (envOfC qual scope s.heap.objs.size f cdv)) -> sp vs H Q E ->
      ∃ t,PSs (Jb CX P w K mg base N qual scope f cdv A outer s H E) body t /\ t { nx := fun _ H' => Q .non H',rt := Q } (x6 N vs) H) :
    FnOk P w K mg base CX (k + 1) f (PySem.W.fnOf name qual params body scope dV kV doc pm an cdv ct) ps sp := by
  refine ⟨len,fun A outer s H args us vs Q E hr e0 hb r hsp => ?_⟩
  have hl := len _ _ _ _ hsp
  have KX : K.In s.heap := e0.mod.kin.keeps fun b o e => (e0.bs b o e).1
  have lim : s.heap.NoLimit := e0.mod.nolimit.keeps fun b o e => (e0.bs b o e).1
  have hkind : ∀ y ∈ ps.zip us,scope.names.lookup y.1 = some .local \/ (scope.names.lookup y.1 = some .cell /\ ((cellsFrom (s.heap.objs.size + 1) scope.names []).lookup y.1).isSome = true) := fun ⟨n,v⟩ hy => by
    rcases S.par n (List.of_mem_zip hy).1 with q | q
    · exact .inl q
    · exact .inr ⟨q,PySem.W.cellsFrom_some _ _ _ (.inl q)⟩
  refine codeAny_call_function hr.depth (KX _ _ lk) rfl S.co S.gen rfl (PySem.W.codeRec_of KX hcd) (hb _ _ _ _ ?_)
  refine wpAny_newFunctionEnv_cells S.kind hkind fun env he s1 x => ?_
  subst he
  refine ⟨lim.keeps x.toInCall.keep,codeAny_func ?_⟩
  obtain ⟨t,ht,hq⟩ := hbody A outer s H vs Q E (hr.deeper _) hsp
  have I : Inv (Jb CX P w K mg base N qual scope f cdv A outer s H E) [] (x6 N vs) H s1 := Q8 S hr.hd e0 hl r x
  refine wpAny_mono (ht [] s1 (x6 N vs) H _ I hq) (fun fl s' hs => ?_) fun e s' hs => hs
  have fin : ∀ {σ' : St} {H' : Hp} {v : V} {u : Value},Inv (Jb CX P w K mg base N qual scope f cdv A outer s H E) [] σ' H' s' -> RelV v u -> Q v H' -> CE outer P w H s Q u s' :=
    fun {σ' H' v u} J rv q => ⟨v,H',J.os,J.bare,J.base,J.hok,rv,q⟩
  cases fl with
  | ret u =>
    obtain ⟨v,σ',H',J,rv,q⟩ := hs
    exact fin J rv q
  | next =>
    obtain ⟨σ',H',J,q⟩ := hs
    exact fin (v := V.non) (u := Value.none) J rfl q
  | brk =>
    obtain ⟨_,_,_,q⟩ := hs
    exact False.elim q
  | cont =>
    obtain ⟨_,_,_,q⟩ := hs
    exact False.elim q
end L2
namespace L2
open PySem PySem.Spec PyProof.Rows
section
variable {X : Cx} {x : Str} {p pos : Pos} {e : Expr} {es : List Expr} {t : TA} {id T : String} {r : List V -> Hp -> VK -> Prop}
def tCB (r : List V -> Hp -> VK -> Prop) (t : TA) : TE := fun σ H Q => t σ H fun vs H1 => r vs H1 Q
theorem zo (hc : CallR X (.builtin id) r) (hg : Gl X x) (hm : X.mg x = none) (hv : bootBuiltins x = some (.builtin id)) (ha : PA X (e :: es) t) (hn : x ≠ "__name__" := by decide) (hdb : (x == ("__debug__" : Str)) = false := by decide)
    (he : starEach (e :: es) X.env = (false,eval e X.env) :: starEach es X.env := by rfl) (hpl : (backTo pos (starEach es X.env)).any (·.1) = false := by rfl) : PE X (.Call (.Name x p) (e :: es) [] pos) (tCB r t) := by
  intro pins s σ H Q I h
  refine wpAny_Call_Name_kw (jK I hg hm hv ?_ hn hdb)
  exact PyProof.Rows.callWith_builtin1 (thn (ha pos pins s σ H _ I h) fun us s1 ⟨vs,H1,I1,r1,q1⟩ => hc pins s1 σ H1 vs us Q I1 r1 q1) he hpl
theorem zM (hc : CallR X (.type T) r) (hg : Gl X x) (hm : X.mg x = none) (hv : bootBuiltins x = some (.type T)) (ha : PA X (e :: es) t) (hn : x ≠ "__name__" := by decide) (hdb : (x == ("__debug__" : Str)) = false := by decide)
    (he : starEach (e :: es) X.env = (false,eval e X.env) :: starEach es X.env := by rfl) (hpl : (backTo pos (starEach es X.env)).any (·.1) = false := by rfl) : PE X (.Call (.Name x p) (e :: es) [] pos) (tCB r t) := by
  intro pins s σ H Q I h
  refine wpAny_Call_Name_kw (jK I hg hm hv ?_ hn hdb)
  exact PyProof.Rows.callWith_type1 (thn (ha pos pins s σ H _ I h) fun us s1 ⟨vs,H1,I1,r1,q1⟩ => hc pins s1 σ H1 vs us Q I1 r1 q1) he hpl
end
end L2
namespace HT
open PySem PyProof.Rows
section
open PySem.SeqAt
open PySem.AutoSeq1 (wpAny_loadPart')
open PySem.MeetsSeq PySem.MeetsSeq2 PySem.MeetsSeq3
end
section
variable {prog : Program} {w : World} {A : Around} {E : Value -> Shared -> Prop} {s : Shared}
def sIx (n d : Nat) : Option Int -> Nat
  | none => d
  | some v => if v < 0 then (v + (n : Int)).toNat else min v.toNat n
theorem sIx_none (n d : Nat) : sIx n d none = d := rfl
theorem sIx_nat (n d k : Nat) : sIx n d (some (k : Int)) = min k n := by
  show (if (k : Int) < 0 then ((k : Int) + (n : Int)).toNat else min (k : Int).toNat n) = min k n
  rw [if_neg (by omega),Int.toNat_natCast]
end
end HT
namespace L2
open PySem PySem.Spec PyProof.Rows
abbrev TO := St -> Hp -> (Option Int -> Hp -> Prop) -> Prop
def PO (X : Cx) (e : Option Expr) (t : TO) : Prop :=
  ∀ (pins : List (Addr × Obj)) (s : Shared) (σ : St) (H : Hp) (Q : Option Int -> Hp -> Prop),Inv X pins σ H s -> t σ H Q ->
    wpAny (model X.prog X.w) X.A (evalPart e X.env) (fun u s' => ∃ o H',Inv X pins σ H' s' /\ IsPart u o /\ Q o H') X.xe s
def XF : TO := fun _ H Q => Q none H
def Wq (t : TE) : TO := fun σ H Q => t σ H fun x H1 => IsI x H1 fun i H1 => Q (some i) H1
section
variable {X : Cx} {e : Expr} {te : TE} {lo hi : Option Expr} {tl th : TO} {pos p2 : Pos}
theorem qS : PO X none XF := by
  intro pins s σ H Q I h
  rw [evalPart_none]
  exact wpAny_pure ⟨none,H,I,.none,h⟩
theorem qe (h : PE X e te) : PO X (some e) (Wq te) := by
  intro pins s σ H Q I hw
  rw [evalPart_some]
  refine thn (h pins s σ H _ I hw) fun u s1 ⟨x,H1,I1,r1,q1⟩ => ?_
  obtain ⟨i,rfl,q⟩ := q1
  obtain ⟨t,rfl⟩ := r1
  exact ⟨some i,H1,I1,.int i t,q⟩
def SlR (X : Cx) (r : V -> Option Int -> Option Int -> Hp -> VK -> Prop) : Prop :=
  ∀ (pins : List (Addr × Obj)) (s : Shared) (σ : St) (H : Hp) (x : V) (v vl vu : Value) (lo hi : Option Int) (sl : Addr) (Q : VK),Inv X pins σ H s -> RelV x v -> s.heap.IsSliceOf sl vl vu .none -> IsPart vl lo -> IsPart vu hi -> r x lo hi H Q ->
    ∃ T id,typeLookup (.type T) "__getitem__" = pure (some (.builtin id)) /\ s.TypeIs v T /\ wpAny (model X.prog X.w) X.A (getItem v (.ref sl)) (EP X pins σ Q) X.xe s
def tSl (r : V -> Option Int -> Option Int -> Hp -> VK -> Prop) (te : TE) (tl th : TO) : TE := fun σ H Q => te σ H fun x H1 => tl σ H1 fun l H2 => th σ H2 fun u H3 => r x l u H3 Q
theorem qh {r : V -> Option Int -> Option Int -> Hp -> VK -> Prop} (hr : SlR X r) (he : PE X e te) (hl : PO X lo tl) (hu : PO X hi th) : PE X (.Subscript e (.Slice lo hi none p2) pos) (tSl r te tl th) := by
  intro pins s σ H Q I h
  refine Subscript_ (thn (he pins s σ H _ I h) fun v s1 ⟨x,H1,I1,r1,q1⟩ => ?_)
  refine wpAny_Slice (thn (hl pins s1 σ H1 _ I1 q1) fun vl s2 ⟨l,H2,I2,pl,q2⟩ => thn (hu pins s2 σ H2 _ I2 q2) fun vu s3 ⟨u,H3,I3,pu,q3⟩ => ?_)
  rw [evalPart_none]
  refine wpAny_pure ?_
  have I4 : Inv X pins σ H3 { s3 with heap := s3.heap.push { cls := .type "slice",data := .fields #[vl,vu,.none] } } := I3.kept (t' := s3.toks) fun b ob q => Heap.get?_push_of_some _ q
  obtain ⟨T,id,hT,ht,hg⟩ := hr pins { s3 with heap := s3.heap.push { cls := .type "slice",data := .fields #[vl,vu,.none] } } σ H3 x v vl vu l u s3.heap.objs.size Q I4 r1 (Heap.IsSliceOf.new ..) pl pu q3
  show wpAny (model X.prog X.w) X.A (subscriptTail e (.Slice lo hi none p2) v (.ref s3.heap.objs.size)) (EP X pins σ Q) X.xe { s3 with heap := s3.heap.push { cls := .type "slice",data := .fields #[vl,vu,.none] } }
  exact tail_any (ops := [.ref s3.heap.objs.size,v]) ht hT hg (by with_unfolding_all rfl)
def qb (xs : List V) (lo hi : Option Int) : List V := (xs.drop (HT.sIx xs.length 0 lo)).take (HT.sIx xs.length xs.length hi - HT.sIx xs.length 0 lo)
theorem y6 (xs : List V) (lo hi : Option Int) : (qb xs lo hi).length <= xs.length := by
  unfold qb
  rw [List.length_take,List.length_drop]
  omega
end
end L2
namespace L2
open PySem PySem.Spec PyProof.Rows
def ixN (n : Nat) (i : Int) : Option Nat := if 0 <= i then (if i < n then some i.toNat else none) else if -(n : Int) <= i then some (i + n).toNat else none
def atI {α : Type} (xs : List α) (i : Int) : Option α := (ixN xs.length i).bind fun j => xs[j]?
theorem Qe {n : Nat} {i : Int} {j : Nat} (h : ixN n i = some j) : seqIndex? i n = some j /\ j < n /\ -(n : Int) <= i /\ i < n := by
  unfold ixN at h
  by_cases h0 : 0 <= i
  · rw [if_pos h0] at h
    by_cases h1 : i < n
    · rw [if_pos h1] at h
      have e : i.toNat = j := Option.some.inj h
      exact ⟨by rw [seqIndex_of h0 h1,e],by omega,by omega,h1⟩
    · rw [if_neg h1] at h;cases h
  · rw [if_neg h0] at h
    by_cases h1 : -(n : Int) <= i
    · rw [if_pos h1] at h
      have e : (i + n).toNat = j := Option.some.inj h
      exact ⟨by rw [seqIndex_neg (by omega) h1,e],by omega,h1,by omega⟩
    · rw [if_neg h1] at h;cases h
theorem yq {α : Type} {xs : List α} {i : Int} {v : α} (h : atI xs i = some v) : ∃ j,seqIndex? i xs.length = some j /\ xs[j]? = some v /\ j < xs.length /\ -(xs.length : Int) <= i /\ i < xs.length := by
  unfold atI at h
  cases e : ixN xs.length i with
  | none => rw [e] at h;cases h
  | some j =>
    rw [e] at h
    obtain ⟨h1,h2,h3,h4⟩ := Qe e
    exact ⟨j,h1,h,h2,h3,h4⟩
theorem qE {α : Type} {xs : List α} {j : Nat} {v : α} (h : xs[j]? = some v) : atI xs (j : Int) = some v := by
  have hj : j < xs.length := (List.getElem?_eq_some_iff.mp h).1
  have e : ixN xs.length (j : Int) = some j := by
    unfold ixN
    rw [if_pos (by omega),if_pos (by omega)];simp
  unfold atI;rw [e];exact h
theorem Zf {α : Type} (xs : List α) (v : α) : atI (xs ++ [v]) (-1) = some v := by
  have hl : (xs ++ [v]).length = xs.length + 1 := by simp
  have e : ixN (xs ++ [v]).length (-1) = some xs.length := by
    unfold ixN
    rw [hl,if_neg (by decide),if_pos (by omega)]
    congr 1
    omega
  unfold atI
  rw [e]
  show (xs ++ [v])[xs.length]? = some v
  simp
def Vj (b : Expr) : Prop := ∀ o i,subscripted b false o i = operate [o,i] (getItem o i)
def IxR (X : Cx) (r : R2) : Prop :=
  ∀ (value slice : Expr) (pins : List (Addr × Obj)) (s : Shared) (σ : St) (H : Hp) (x y : V) (v u : Value) (Q : VK),Inv X pins σ H s -> RelV x v -> RelV y u -> r x y H Q ->
    subscripted slice false v u = operate [v,u] (getItem v u) -> wpAny (model X.prog X.w) X.A (subscriptTail value slice v u) (EP X pins σ Q) X.xe s
def MtR (X : Cx) (id : String) (r : V -> List V -> Hp -> VK -> Prop) : Prop :=
  ∀ (pins : List (Addr × Obj)) (s : Shared) (σ : St) (H : Hp) (x : V) (xs : List V) (v : Value) (us : List Value) (Q : VK),Inv X pins σ H s -> RelV x v -> Vals xs us -> r x xs H Q ->
    wpAny (model X.prog X.w) X.A (call (.builtin id) (v :: us)) (EP X pins σ Q) X.xe s
section
variable {X : Cx} {a b : Expr} {ta tb : TE} {pos : Pos}
theorem IxR.or {r r' : R2} (h : IxR X r) (h' : IxR X r') : IxR X (fun x y H Q => r x y H Q \/ r' x y H Q) := by
  intro value slice pins s σ H x y v u Q I rx ry q hs
  rcases q with q | q
  · exact h value slice pins s σ H x y v u Q I rx ry q hs
  · exact h' value slice pins s σ H x y v u Q I rx ry q hs
theorem MtR.or {id : String} {r r' : V -> List V -> Hp -> VK -> Prop} (h : MtR X id r) (h' : MtR X id r') : MtR X id (fun x xs H Q => r x xs H Q \/ r' x xs H Q) := by
  intro pins s σ H x xs v us Q I rx rs q
  rcases q with q | q
  · exact h pins s σ H x xs v us Q I rx rs q
  · exact h' pins s σ H x xs v us Q I rx rs q
theorem zr {r : R2} (hr : IxR X r) (ha : PE X a ta) (hb : PE X b tb) (hs : Vj b) : PE X (.Subscript a b pos) (tOp r ta tb) := by
  intro pins s σ H Q I h
  exact Subscript_ (Wj ha hb I h fun v u s2 x y H2 I2 rx ry q => hr a b pins s2 σ H2 x y v u Q I2 rx ry q (hs _ _))
inductive XJ (K : PySem.W.Frag) (x : V) (y : V) (H : Hp) (Q : VK) : Prop
  | mk (p xs i v : _) (_ : x = .ref p) (_ : y = .int i) (_ : SqL K H p xs) (_ : atI xs i = some v) (_ : Q v H) : XJ K x y H Q
inductive XI (K : PySem.W.Frag) (x : V) (y : V) (H : Hp) (Q : VK) : Prop
  | mk (p xs i v : _) (_ : x = .ref p) (_ : y = .int i) (_ : SqT K H p xs) (_ : atI xs i = some v) (_ : Q v H) : XI K x y H Q
inductive VN (x : V) (y : V) (H : Hp) (Q : VK) : Prop
  | mk (z i c : _) (_ : x = .str z) (_ : y = .int i) (_ : z.length <= sizeLine) (_ : atI z.cps.toList i = some c) (_ : Q (.str ⟨#[c]⟩) H) : VN  x y H Q
theorem zJ : IxR X (XJ X.K) := by
  intro value slice pins s σ H x y v u Q I rx ry h hs
  obtain ⟨p,xs,i,z,rfl,rfl,hq,he,q⟩ := h
  cases rx
  obtain ⟨t,rfl⟩ := ry
  obtain ⟨its,r,pl,hz⟩ := I.list hq
  obtain ⟨j,h1,h2,h3,h4,h5⟩ := yq he
  obtain ⟨w,ew,rw'⟩ := r.get h2
  have hl := r.length
  have hn := vO
  have fin : EP X pins σ Q w s := ⟨z,H,I,rw',q⟩
  by_cases h0 : 0 <= i
  · have hj : i.toNat = j := by
      rw [seqIndex_of h0 h5] at h1
      exact Option.some.inj h1
    exact item_listR pl.isList h0 (by omega) (by rw [hj];simpa using ew) fin hs
  · have hj : (i + (its.toArray.size : Int)).toNat = j := by
      rw [seqIndex_neg (by omega) h4] at h1
      rw [List.size_toArray,<- hl]
      exact Option.some.inj h1
    exact subscriptTail_builtinR (x := w) pl.isList.typeIs slot_list_getitem.lookup
      (wpAny_getItem_list_neg (Q := fun r s' => r = w /\ EP X pins σ Q r s') pl.isList (by omega) (by rw [List.size_toArray] <;> omega) (by omega) (by rw [hj];simpa using ew) ⟨rfl,fin⟩) hs
theorem zL : IxR X (XI X.K) := by
  intro value slice pins s σ H x y v u Q I rx ry h hs
  obtain ⟨p,xs,i,z,rfl,rfl,hq,he,q⟩ := h
  cases rx
  obtain ⟨t,rfl⟩ := ry
  obtain ⟨its,r,pl,hz⟩ := I.tuple hq
  obtain ⟨j,h1,h2,h3,h4,h5⟩ := yq he
  obtain ⟨w,ew,rw'⟩ := r.get h2
  have hl := r.length
  have hn := vO
  have fin : EP X pins σ Q w s := ⟨z,H,I,rw',q⟩
  exact subscriptTail_builtinR (x := w) pl.typeIs slot_tuple_getitem.lookup
    (getItem_tuple (j := j) (Q := fun r s' => r = w /\ EP X pins σ Q r s') pl (by omega) (by omega) (by rw [List.size_toArray,<- hl];exact h1) (by simpa using ew) ⟨rfl,fin⟩) hs
theorem Xj : IxR X VN := by
  intro value slice pins s σ H x y v u Q I rx ry h hs
  obtain ⟨z,i,c,rfl,rfl,hz,he,q⟩ := h
  obtain ⟨t,rfl⟩ := rx
  obtain ⟨t',rfl⟩ := ry
  obtain ⟨j,h1,h2,h3,h4,h5⟩ := yq he
  have hl : z.cps.toList.length = z.length := by simp [Str.length]
  rw [hl] at h1 h4 h5
  have hn := vO
  exact tail_any (typeIs_str s z t) slot_str_getitem.lookup (getItem_str (c := c) (by
    have e1 : decide (i < -(2 ^ 63 : Int)) = false := decide_eq_false (by omega)
    have e2 : decide (i ≥ 2 ^ 63) = false := decide_eq_false (by omega)
    rw [e1,e2,Bool.or_false]) (by rw [h1];simpa using h2) ⟨.str ⟨#[c]⟩,H,I.tok _,⟨_,rfl⟩,q⟩) hs
def rIx (K : PySem.W.Frag) : R2 := fun x y H Q => XJ K x y H Q \/ XI K x y H Q \/ VN x y H Q
theorem Wb : IxR X (rIx X.K) := zJ.or (zL.or Xj)
theorem ZC (its : List Value) (n j : Nat) (u : Value) : Obj.mapSeq (·.setIfInBounds j u) { cls := .type "list",data := .seq its.toArray n } = { cls := .type "list",data := .seq (its.set j u).toArray n } := by
  simp [Obj.mapSeq]
theorem Inv.lst {pins : List (Addr × Obj)} {σ : St} {H : Hp} {s : Shared} {p : Addr} {xs : List V} (I : Inv X pins σ H s) (h : H p = some (.lst xs)) :
    ∃ (its : List Value) (n : Nat),Vals xs its /\ s.heap.get? p = some { cls := .type "list",data := .seq its.toArray n } /\ xs.length <= sizeLine := by
  obtain ⟨z,its,n,r,e⟩ := I.hok p _ h
  exact ⟨its,n,r,e,z⟩
theorem Inv.lstUpd {pins : List (Addr × Obj)} {σ : St} {H : Hp} {s : Shared} {p : Addr} {xs ys : List V} {its its' : List Value} {n n' : Nat} {f : Obj -> Obj} (I : Inv X pins σ H s) (h : H p = some (.lst xs))
    (ho : s.heap.get? p = some { cls := .type "list",data := .seq its.toArray n }) (hf : f { cls := .type "list",data := .seq its.toArray n } = { cls := .type "list",data := .seq its'.toArray n' }) (r : Vals ys its') (hz : ys.length <= sizeLine) (t : Nat) :
    Inv X pins σ (upd H p (.lst ys)) { s with heap := s.heap.update p f,toks := t } := by
  have e : (s.heap.update p f).get? p = some { cls := .type "list",data := .seq its'.toArray n' } := by
    rw [Heap.get?_update_self f ho (by rw [hf] <;> rfl),hf]
  refine I.write (x := p) (e := p) (by rw [h];trivial) (.inl rfl) (fun b u hb q => (Heap.get?_update_other _ _ (Ne.symm hb)).trans q) ⟨_,e⟩ ?_
  exact ⟨hz,its',n',r,e⟩
inductive Vv (o : V) (i : V) (v : V) (H : Hp) (Q : Hp -> Prop) : Prop
  | mk (p xs k j : _) (_ : o = .ref p) (_ : i = .int k) (_ : H p = some (.lst xs)) (_ : ixN xs.length k = some j) (_ : Q (upd H p (.lst (xs.set j v)))) : Vv  o i v H Q
theorem jT : WR X Vv := by
  intro pins s σ H o i v ov iv u Q I ro ri rv h
  obtain ⟨p,xs,k,j,rfl,rfl,hp,hj,q⟩ := h
  cases ro
  obtain ⟨t,rfl⟩ := ri
  obtain ⟨its,n,r,ho,hz⟩ := I.lst hp
  obtain ⟨h1,h2,h3,h4⟩ := Qe hj
  have hl := r.length
  have hn := vO
  have I' : Inv X pins σ (upd H p (.lst (xs.set j v))) { s with heap := s.heap.update p (Obj.mapSeq (·.setIfInBounds j u)) } :=
    I.lstUpd hp ho (ZC its n j u) (r.set rv j) (by rw [List.length_set];exact hz) s.toks
  by_cases h0 : 0 <= k
  · have hk : k.toNat = j := by
      rw [seqIndex_of h0 h4] at h1
      exact Option.some.inj h1
    exact PySem.W.ki_setAt ho h0 (by omega) (by rw [List.size_toArray,<- hl];exact h4) (by rw [hk];exact ⟨_,I',q⟩)
  · have hk : (k + (its.toArray.size : Int)).toNat = j := by
      rw [seqIndex_neg (by omega) h3] at h1
      rw [List.size_toArray,<- hl]
      exact Option.some.inj h1
    exact PySem.W.ki_setBack ho (by omega) (by rw [List.size_toArray,<- hl];exact h3) (by omega) (by rw [hk];exact ⟨_,I',q⟩)
theorem w9 (lo hi : Option Int) (n : Nat) : (sliceBounds lo hi none n).1 = ((HT.sIx n 0 lo : Nat) : Int) /\ (sliceBounds lo hi none n).2.1 = ((HT.sIx n n hi : Nat) : Int) /\ (sliceBounds lo hi none n).2.2 = 1 := by
  refine ⟨?_,?_,rfl⟩
  · cases lo with
    | none => simp [sliceBounds,HT.sIx]
    | some i =>
      simp only [sliceBounds,HT.sIx,Option.getD_none,show (1 : Int) > 0 by decide,if_true]
      by_cases h : i < 0
      · simp only [h,if_true] <;> omega
      · simp only [h,if_false] <;> omega
  · cases hi with
    | none => simp [sliceBounds,HT.sIx]
    | some i =>
      simp only [sliceBounds,HT.sIx,Option.getD_none,show (1 : Int) > 0 by decide,if_true]
      by_cases h : i < 0
      · simp only [h,if_true] <;> omega
      · simp only [h,if_false] <;> omega
theorem v1 (its : List Value) (lo hi : Option Int) : slicePick its.toArray lo hi none = ((its.drop (HT.sIx its.length 0 lo)).take (HT.sIx its.length its.length hi - HT.sIx its.length 0 lo)).toArray := by
  obtain ⟨h1,h2,h3⟩ := w9 lo hi its.toArray.size
  unfold slicePick
  rw [h1,h2,h3]
  simp only [sliceRange_one,pick_run,List.size_toArray] <;> rfl
inductive Wz (K : PySem.W.Frag) (x : V) (lo : Option Int) (hi : Option Int) (H : Hp) (Q : VK) : Prop
  | mk (a xs : _) (_ : x = .ref a) (_ : SqL K H a xs) (_ : ∀ p,H p = none -> Q (.ref p) (upd H p (.lst (qb xs lo hi)))) : Wz K x lo hi H Q
theorem qC : SlR X (Wz X.K) := by
  intro pins s σ H x v vl vu lo hi sl Q I rx hs pl pu h
  obtain ⟨a,xs,rfl,hx,q⟩ := h
  cases rx
  obtain ⟨its,r,ht,hz⟩ := I.list hx
  have hlen := r.length
  refine ⟨"list",_,slot_list_getitem.lookup,ht.isList.typeIs,?_⟩
  refine wpAny_getItem_list_slice ht.isList hs pl pu .none (by simp) ?_ (by rw [List.size_toArray] <;> omega)
  rw [v1,<- hlen]
  refine ⟨.ref s.heap.objs.size,_,I.laid (t' := s.toks) (o := .lst (qb xs lo hi)) (fun b ob q => Heap.get?_push_of_some _ q) (Nat.le_refl _) ?_,rfl,q _ (I.hok.fresh (Nat.le_refl _))⟩
  exact ⟨Nat.le_trans (y6 xs lo hi) hz,_,0,(r.drop (HT.sIx xs.length 0 lo)).take (HT.sIx xs.length xs.length hi - HT.sIx xs.length 0 lo),Heap.get?_push_size _ rfl⟩
def jf : V -> Bool
  | .non => true
  | .bl _ => true
  | .int _ => true
  | .str _ => true
  | _ => false
def eqV : V -> V -> Bool
  | .non,.non => true
  | .bl a,.bl b => a == b
  | .bl a,.int b => (if a then 1 else 0) == b
  | .int a,.bl b => a == (if b then 1 else 0)
  | .int a,.int b => a == b
  | .str a,.str b => a == b
  | _,_ => false
theorem Xr {A : Around} {s : Shared} {y x : V} {u v : Value} (ry : RelV y u) (rx : RelV x v) (fy : jf y = true) (fx : jf x = true) : SeqAt.EqAt A s u v (eqV y x) := by
  cases y with
  | non =>
    cases ry
    cases x with
    | non => cases rx;exact SeqAt.EqAt.same _
    | bl b => cases rx;exact SeqAt.EqAt.none_bool b
    | int b => obtain ⟨t,rfl⟩ := rx;exact SeqAt.EqAt.none_int b t
    | str b => obtain ⟨t,rfl⟩ := rx;exact SeqAt.EqAt.none_str b t
    | _ => exact absurd (show false = true from fx) Bool.false_ne_true
  | bl a =>
    cases ry
    cases x with
    | non => cases rx;exact SeqAt.EqAt.bool_none a
    | bl b => cases rx;exact SeqAt.EqAt.bool_bool a b
    | int b => obtain ⟨t,rfl⟩ := rx;exact SeqAt.EqAt.bool_int a b t
    | str b => obtain ⟨t,rfl⟩ := rx;exact SeqAt.EqAt.bool_str a b t
    | _ => exact absurd (show false = true from fx) Bool.false_ne_true
  | int a =>
    obtain ⟨t',rfl⟩ := ry
    cases x with
    | non => cases rx;exact SeqAt.EqAt.int_none a t'
    | bl b => cases rx;exact SeqAt.EqAt.int_bool a t' b
    | int b => obtain ⟨t,rfl⟩ := rx;exact SeqAt.EqAt.int_int a t' b t
    | str b => obtain ⟨t,rfl⟩ := rx;exact SeqAt.EqAt.int_str a t' b t
    | _ => exact absurd (show false = true from fx) Bool.false_ne_true
  | str a =>
    obtain ⟨t',rfl⟩ := ry
    cases x with
    | non => cases rx;exact SeqAt.EqAt.str_none a t'
    | bl b => cases rx;exact SeqAt.EqAt.str_bool a t' b
    | int b => obtain ⟨t,rfl⟩ := rx;exact SeqAt.EqAt.str_int a t' b t
    | str b => obtain ⟨t,rfl⟩ := rx;exact SeqAt.EqAt.str_str a t' b t
    | _ => exact absurd (show false = true from fx) Bool.false_ne_true
  | _ => exact absurd (show false = true from fy) Bool.false_ne_true
def eqU (x : V) (u : Value) : Bool := match u with
  | .none => eqV .non x
  | .bool b => eqV (.bl b) x
  | .int i _ => eqV (.int i) x
  | .str z _ => eqV (.str z) x
  | _ => false
theorem Xq {x y : V} {u : Value} (r : RelV y u) (f : jf y = true) : eqU x u = eqV y x := by
  cases y with
  | non => cases r;rfl
  | bl b => cases r;rfl
  | int i => obtain ⟨t,rfl⟩ := r;rfl
  | str z => obtain ⟨t,rfl⟩ := r;rfl
  | _ => exact absurd (show false = true from f) Bool.false_ne_true
theorem xO {x : V} : ∀ {xs : List V} {us : List Value},Vals xs us -> xs.all jf = true -> us.any (eqU x) = xs.any fun y => eqV y x
  | _,_,.nil,_ => rfl
  | y :: xs,u :: us,.cons r t,f => by
    rw [List.all_cons,Bool.and_eq_true] at f
    rw [List.any_cons,List.any_cons,Xq r f.1,xO t f.2]
theorem jZ {A : Around} {s : Shared} {x : V} {v : Value} (rx : RelV x v) (fx : jf x = true) : ∀ {xs : List V} {us : List Value},Vals xs us -> xs.all jf = true -> ∀ u ∈ us,SeqAt.EqAt A s u v (eqU x u)
  | _,_,.nil,_ => fun u hu => by cases hu
  | y :: xs,u :: us,.cons r t,f => fun u' hu => by
    rw [List.all_cons,Bool.and_eq_true] at f
    rcases List.mem_cons.mp hu with rfl | hu
    · rw [Xq r f.1];exact Xr r rx f.1 fx
    · exact jZ rx fx t f.2 u' hu
def inV (x : V) (xs : List V) : Bool := xs.any fun y => eqV y x
inductive rIn (K : PySem.W.Frag) (neg : Bool) (x : V) (y : V) (H : Hp) (Q : VK) : Prop
  | mk (p xs : _) (_ : y = .ref p) (_ : (SqL K H p xs \/ SqT K H p xs)) (_ : jf x = true) (_ : xs.all jf = true) (_ : Q (.bl (if neg then !inV x xs else inV x xs)) H) : rIn K neg x y H Q
theorem wC : OpR X (compareOp .In) (rIn X.K false) := by
  intro pins s σ H x y v u Q I rx ry h
  obtain ⟨p,xs,rfl,hq,fx,fs,q⟩ := h
  cases ry
  rcases hq with hq | hq
  · obtain ⟨its,r,pl,hz⟩ := I.list hq
    refine SeqAt.in_listAt (eqU x) pl.isList (fun w hw => jZ rx fx r fs w (by simpa using hw)) ⟨.bl _,H,I,rfl,?_⟩
    rw [show its.toArray.any (eqU x) = its.any (eqU x) by simp,xO r fs]
    exact q
  · obtain ⟨its,r,pl,hz⟩ := I.tuple hq
    refine SeqAt.in_tupleAt (eqU x) pl (fun w hw => jZ rx fx r fs w (by simpa using hw)) ⟨.bl _,H,I,rfl,?_⟩
    rw [show its.toArray.any (eqU x) = its.any (eqU x) by simp,xO r fs]
    exact q
theorem ye : OpR X (compareOp .NotIn) (rIn X.K true) := by
  intro pins s σ H x y v u Q I rx ry h
  obtain ⟨p,xs,rfl,hq,fx,fs,q⟩ := h
  cases ry
  rcases hq with hq | hq
  · obtain ⟨its,r,pl,hz⟩ := I.list hq
    refine SeqAt.notIn_listAt (eqU x) pl.isList (fun w hw => jZ rx fx r fs w (by simpa using hw)) ⟨.bl _,H,I,rfl,?_⟩
    rw [show its.toArray.any (eqU x) = its.any (eqU x) by simp,xO r fs]
    exact q
  · obtain ⟨its,r,pl,hz⟩ := I.tuple hq
    refine SeqAt.notIn_tupleAt (eqU x) pl (fun w hw => jZ rx fx r fs w (by simpa using hw)) ⟨.bl _,H,I,rfl,?_⟩
    rw [show its.toArray.any (eqU x) = its.any (eqU x) by simp,xO r fs]
    exact q
inductive jv (K : PySem.W.Frag) (xs : List V) (H : Hp) (Q : VK) : Prop
  | mk (p ys : _) (_ : xs = [.ref p]) (_ : (SqL K H p ys \/ SqT K H p ys)) (_ : Q (.int ys.length) H) : jv K xs H Q
theorem zC : CallR X (.builtin "len") (jv X.K) := by
  intro pins s σ H xs us Q I r h
  obtain ⟨p,ys,rfl,hq,q⟩ := h
  obtain ⟨u,rfl,rx⟩ := jO r
  cases rx
  have hn := vO
  rcases hq with hq | hq
  · obtain ⟨its,r',pl,hz⟩ := I.list hq
    have hlen := r'.length
    exact Calls.call_len_list pl.isList (by simp only [List.size_toArray] <;> omega) ⟨.int ys.length,H,I.tok _,⟨s.toks + 1,by rw [List.size_toArray,hlen]⟩,q⟩
  · obtain ⟨its,r',pl,hz⟩ := I.tuple hq
    have hlen := r'.length
    exact len_tuple pl (by simp only [List.size_toArray] <;> omega) ⟨.int ys.length,H,I.tok _,⟨s.toks + 1,by rw [List.size_toArray,hlen]⟩,q⟩
theorem CallR.or {f : Value} {r r' : List V -> Hp -> VK -> Prop} (h : CallR X f r) (h' : CallR X f r') : CallR X f (fun xs H Q => r xs H Q \/ r' xs H Q) := by
  intro pins s σ H xs us Q I rs q
  rcases q with q | q
  · exact h pins s σ H xs us Q I rs q
  · exact h' pins s σ H xs us Q I rs q
inductive j9 (K : PySem.W.Frag) (xs : List V) (H : Hp) (Q : VK) : Prop
  | mk (p ys : _) (_ : xs = [.ref p]) (_ : (SqL K H p ys \/ SqT K H p ys)) (_ : ∀ l,H l = none -> Q (.ref l) (upd H l (.lst ys))) : j9 K xs H Q
theorem jN : CallR X (.type "list") (j9 X.K) := by
  intro pins s σ H xs us Q I r h
  obtain ⟨p,ys,rfl,hq,q⟩ := h
  obtain ⟨u,rfl,rx⟩ := jO r
  cases rx
  have fin : ∀ (its : List Value),Vals ys its -> ys.length <= sizeLine -> ∀ (h' : Heap) (c' : Nat),(∀ b o',s.heap.get? b = some o' -> h'.get? b = some o') ->
      h'.get? s.heap.objs.size = some { cls := .type "list",dict := none,data := .seq its.toArray c',slots := #[] } -> EP X pins σ Q (.ref s.heap.objs.size) { s with heap := h' } := fun its r' hz h' c' kp e =>
    ⟨.ref s.heap.objs.size,_,I.laid (t' := s.toks) kp (Nat.le_refl _) (show ObjOk X.prog X.w _ h' _ (.lst ys) from ⟨hz,its,c',r',e⟩),rfl,q _ (I.hok.fresh (Nat.le_refl _))⟩
  rcases hq with hq | hq
  · obtain ⟨its,r',pl,hz⟩ := I.list hq
    have hlen := r'.length
    obtain ⟨o,ho,hc,n,hd⟩ := pl.isList
    exact call_list_seq p (.inl rfl) ho hc hd (fun h' c' kp e => fin its r' hz h' c' kp e) (by simp only [List.size_toArray] <;> omega)
  · obtain ⟨its,r',pl,hz⟩ := I.tuple hq
    have hlen := r'.length
    obtain ⟨o,ho,hc,n,hd⟩ := pl
    exact call_list_seq p (.inr rfl) ho hc hd (fun h' c' kp e => fin its r' hz h' c' kp e) (by simp only [List.size_toArray] <;> omega)
inductive jQ (K : PySem.W.Frag) (xs : List V) (H : Hp) (Q : VK) : Prop
  | mk (p ys : _) (_ : xs = [.ref p]) (_ : ((SqL K H p ys /\ ∀ l,H l = none -> Q (.ref l) (upd H l (.tup ys))) \/ (SqT K H p ys /\ Q (.ref p) H))) : jQ K xs H Q
theorem zY : CallR X (.type "tuple") (jQ X.K) := by
  intro pins s σ H xs us Q I r h
  obtain ⟨p,ys,rfl,h⟩ := h
  obtain ⟨u,rfl,rx⟩ := jO r
  cases rx
  rcases h with ⟨hq,q⟩ | ⟨hq,q⟩
  · obtain ⟨its,r',pl,hz⟩ := I.list hq
    have hlen := r'.length
    refine call_tuple_list pl.isList (fun h' kp => ?_) (by simp only [List.size_toArray] <;> omega)
    have I1 : Inv X pins σ H { s with heap := h' } := I.kept (t' := s.toks) kp
    have I2 : Inv X pins σ (upd H h'.objs.size (.tup ys)) { s with heap := h'.push { cls := .type "tuple",data := .seq its.toArray } } :=
      I1.laid (t' := s.toks) (fun b o e => Heap.get?_push_of_some _ e) (Nat.le_refl _) (show ObjOk X.prog X.w _ _ _ (.tup ys) from ⟨hz,its,r',⟨IsTup.new _ _,_,Heap.get?_push_size _ rfl,rfl⟩⟩)
    exact ⟨.ref h'.objs.size,_,I2,rfl,q _ (I1.hok.fresh (Nat.le_refl _))⟩
  · obtain ⟨its,r',pl,hz⟩ := I.tuple hq
    exact call_tuple_same pl ⟨.ref p,H,I,rfl,q⟩
def tyV (K : PySem.W.Frag) (T : String) (x : V) (H : Hp) : Prop := match x with
  | .str _ => T = "str"
  | .int _ => T = "int"
  | .ref p => (T = "list" /\ ∃ xs,SqL K H p xs) \/ (T = "tuple" /\ ∃ o,K.lookup p = some o /\ o.cls = .type "tuple" /\ o.dict = none) \/
      (T = "dict" /\ ((∃ kvs,H p = some (.dK kvs)) \/ ∃ kvs,H p = some (.dT kvs))) \/ (T = "set" /\ ∃ S n,H p = some (.set S n))
  | _ => False
theorem Jj {pins : List (Addr × Obj)} {σ : St} {H : Hp} {s : Shared} {T : String} {x : V} {v : Value} (I : Inv X pins σ H s) (r : RelV x v) (ty : tyV X.K T x H) :
    s.TypeIs v T /\ ∀ a,v = .ref a -> ∃ ob,s.heap.get? a = some ob /\ ob.dict = none := by
  cases x with
  | str z =>
    obtain ⟨t,rfl⟩ := r
    cases (show T = "str" from ty)
    exact ⟨typeIs_str s z t,fun _ e => nomatch e⟩
  | int i =>
    obtain ⟨t,rfl⟩ := r
    cases (show T = "int" from ty)
    exact ⟨typeIs_int s i t,fun _ e => nomatch e⟩
  | ref p =>
    cases r
    rcases ty with ⟨rfl,xs,hq⟩ | ⟨rfl,o,hk,hc,hd⟩ | ⟨rfl,hk⟩ | ⟨rfl,S,n,hk⟩
    · obtain ⟨its,_,pl,_⟩ := I.list hq
      refine ⟨pl.isList.typeIs,fun a e => ?_⟩
      cases e
      obtain ⟨o,n,e,c,hd,_⟩ := pl
      exact ⟨o,e,hd⟩
    · refine ⟨⟨o,I.kIn p o hk,hc⟩,fun a e => ?_⟩
      cases e
      exact ⟨o,I.kIn _ o hk,hd⟩
    · have z : ∃ o,s.heap.get? p = some o /\ o.ExactDict := by
        rcases hk with ⟨kvs,hk⟩ | ⟨kvs,hk⟩
        · obtain ⟨_,_,_,_,o,_,_,e,ex,_⟩ := I.hok p _ hk
          exact ⟨o,e,ex⟩
        · obtain ⟨_,_,_,_,o,_,_,e,ex,_⟩ := I.hok p _ hk
          exact ⟨o,e,ex⟩
      obtain ⟨o,e,ex⟩ := z
      refine ⟨⟨o,e,ex.1⟩,fun a e2 => ?_⟩
      cases e2
      exact ⟨o,e,ex.2.1⟩
    · obtain ⟨o,_,_,_,e,ex,_⟩ := I.hok p _ hk
      refine ⟨⟨o,e,ex.1⟩,fun a e2 => ?_⟩
      cases e2
      exact ⟨o,e,ex.2.1⟩
  | _ => exact False.elim ty
def Ya (K : PySem.W.Frag) (T : String) (r : V -> List V -> Hp -> VK -> Prop) (to : TE) : TE := fun σ H Q => to σ H fun x H1 => tyV K T x H1 /\ r x [] H1 Q
def tBM (K : PySem.W.Frag) (T : String) (r : V -> List V -> Hp -> VK -> Prop) (to : TE) (t : TA) : TE := fun σ H Q => to σ H fun x H1 => tyV K T x H1 /\ t σ H1 fun xs H2 => r x xs H2 Q
variable {o e : Expr} {es : List Expr} {to : TE} {t : TA} {name : Str} {apos cpos : Pos} {T id : String} {r : V -> List V -> Hp -> VK -> Prop}
theorem VT (pa : PlainAttrs T) (slot : Slot T name id) (hty : typeOf (.builtin id) = pure (.type "method_descriptor")) (hm : MtR X id r) (ho : PE X o to)
    (hbase : attributeBase o name X.env (eval o X.env) = eval o X.env := by rfl) (hline : (apos.endLine == cpos.line) = true := by rfl) : PE X (.Call (.Attribute o name apos) [] [] cpos) (Ya X.K T r to) := by
  intro pins s σ H Q I h
  refine wpAny_Call_method0_late hbase hline (thn (ho pins s σ H _ I h) fun v s1 ⟨x,H1,I1,r1,ty,q1⟩ => ?_)
  obtain ⟨h1,h2⟩ := Jj I1 r1 ty
  exact ⟨T,id,pa,slot,hty,h1,h2,Calls.callWith_builtin rfl (PySem.evalArgs_none (hm pins s1 σ H1 x [] v [] Q I1 r1 .nil q1))⟩
theorem jn (pa : PlainAttrs T) (slot : Slot T name id) (hty : typeOf (.builtin id) = pure (.type "method_descriptor")) (hm : MtR X id r) (ho : PE X o to) (ha : PA X (e :: es) t)
    (hbase : attributeBase o name X.env (eval o X.env) = eval o X.env := by rfl)
    (hfew : ((backTo cpos (starEach (e :: es) X.env)).all (fun x => !x.1) && (backToKw cpos (keywordEach [] X.env)).all (fun x => x.1.isSome)
      && decide ((e :: es).length + ([] : List Keyword).length + (if ([] : List Keyword).isEmpty then 0 else 1) < 30)) = true := by rfl)
    (hline : (apos.endLine == cpos.line) = true := by rfl) (hs : starEach (e :: es) X.env = (false,eval e X.env) :: starEach es X.env := by rfl) (hplain : (backTo cpos (starEach es X.env)).any (·.1) = false := by rfl) :
    PE X (.Call (.Attribute o name apos) (e :: es) [] cpos) (tBM X.K T r to t) := by
  intro pins s σ H Q I h
  refine wpAny_Call_method_late hbase hfew hline rfl (thn (ho pins s σ H _ I h) fun v s1 ⟨x,H1,I1,r1,ty,q1⟩ => ?_)
  obtain ⟨h1,h2⟩ := Jj I1 r1 ty
  refine ⟨T,id,pa,slot,hty,h1,h2,?_⟩
  have hA := ha cpos pins s1 σ H1 _ I1 q1
  rw [hs] at hA ⊢
  refine Calls.callWith_builtin (by show (false || (backTo cpos (starEach es X.env)).any (·.1)) = false;rw [hplain] <;> rfl) (Calls.evalArgs_plain ?_)
  exact thn hA fun us s2 ⟨vs,H2,I2,r2,q2⟩ => hm pins s2 σ H2 x vs v us Q I2 r1 r2 q2
/- xs.append(e),list.index on a module's tuple .. are MtR facts of 06m -/
end
end L2
namespace L2
open PySem PySem.Spec PyProof.Rows
def MtM (X : Cx) (id : String) (r : V -> List V -> Hp -> VK -> Prop) : Prop :=
  ∀ (pins : List (Addr × Obj)) (s : Shared) (σ : St) (H : Hp) (x : V) (xs : List V) (v : Value) (us : List Value) (Q : VK),Inv X pins σ H s -> RelV x v -> Vals xs us -> r x xs H Q ->
    wpAny (model X.prog X.w) X.A (call (.builtin id) (v :: us)) (EP X pins σ Q) X.xe s
theorem Vals.one : ∀ {x : V} {us : List Value},Vals [x] us -> ∃ u,us = [u] /\ RelV x u
  | _,_,.cons r .nil => ⟨_,rfl,r⟩
theorem Vals.zero : ∀ {us : List Value},Vals [] us -> us = []
  | _,.nil => rfl
theorem Vals.eraseIdx : ∀ {xs : List V} {us : List Value} (i : Nat),Vals xs us -> Vals (xs.eraseIdx i) (us.eraseIdx i)
  | _,_,_,.nil => .nil
  | _,_,0,.cons _ t => t
  | _,_,i + 1,.cons r t => .cons r (Vals.eraseIdx i t)
theorem Vals.reverse {xs : List V} {us : List Value} (h : Vals xs us) : Vals xs.reverse us.reverse := by
  induction h with
  | nil => exact .nil
  | cons r t ih => rw [List.reverse_cons,List.reverse_cons];exact Vals.append ih (.cons r .nil)
theorem Vals.rep {xs : List V} {us : List Value} (h : Vals xs us) : ∀ k : Nat,Vals (List.replicate k xs).flatten (List.replicate k us).flatten
  | 0 => .nil
  | k + 1 => by
    rw [List.replicate_succ,List.replicate_succ,List.flatten_cons,List.flatten_cons]
    exact Vals.append h (Vals.rep h k)
theorem wI (its : List Value) : ∀ (k : Nat) (acc : List Value),
    List.foldl (fun x1 x2 => x1 ++ x2) acc.toArray (List.replicate k its.toArray) = (acc ++ (List.replicate k its).flatten).toArray
  | 0,acc => by simp
  | k + 1,acc => by
    have e : acc.toArray ++ its.toArray = (acc ++ its).toArray := by simp
    have e2 : (acc ++ its) ++ (List.replicate k its).flatten = acc ++ (List.replicate (k + 1) its).flatten := by
      rw [List.replicate_succ,List.flatten_cons,List.append_assoc]
    rw [<- e2,<- wI its k (acc ++ its),<- e,List.replicate_succ,List.foldl_cons]
section
variable {X : Cx} {pins : List (Addr × Obj)} {σ : St} {H : Hp} {s : Shared} {l b : Addr} {xs ys zs : List V}
theorem Inv.lset {its its' : List Value} {n : Nat} {f : Array Value -> Array Value} {t' : Nat} (I : Inv X pins σ H s) (hH : H l = some (.lst xs))
    (e : s.heap.get? l = some { cls := .type "list",data := .seq its.toArray n }) (hf : f its.toArray = its'.toArray) (hv : Vals ys its') (hz : ys.length <= sizeLine) :
    Inv X pins σ (upd H l (.lst ys)) { s with heap := s.heap.update l (Obj.mapSeq f),toks := t' } := by
  have q := PySem.IsL.update e f
  rw [hf] at q
  refine I.write (x := l) (e := l) (by rw [hH];exact trivial) (.inl rfl) (fun b' u hb hu => (Heap.get?_update_other s.heap (Obj.mapSeq f) (Ne.symm hb)).trans hu) ⟨_,q⟩ ?_
  exact ⟨hz,its',_,hv,q⟩
theorem Inv.lnew {its : List Value} {t' : Nat} (I : Inv X pins σ H s) (hv : Vals ys its) (hz : ys.length <= sizeLine) :
    Inv X pins σ (upd H s.heap.objs.size (.lst ys)) { s with heap := s.heap.push { cls := .type "list",data := .seq its.toArray },toks := t' } :=
  I.laid (fun _ _ q => Heap.get?_push_of_some _ q) (Nat.le_refl _) ⟨hz,its,0,hv,Heap.get?_push_size _ rfl⟩
theorem Inv.fresh (I : Inv X pins σ H s) : H s.heap.objs.size = none := I.hok.fresh (Nat.le_refl _)
theorem Inv.lstM (I : Inv X pins σ H s) (hH : H l = some (.lst xs)) : xs.length <= sizeLine /\ ∃ (its : List Value) (n : Nat),Vals xs its /\ xs.length = its.length /\ s.heap.get? l = some { cls := .type "list",data := .seq its.toArray n } := by
  obtain ⟨z,its,n,r,e⟩ := I.hok l _ hH
  exact ⟨z,its,n,r,r.length,e⟩
theorem yQ {n : Nat} (h : n <= sizeLine) : Builtin.List.listTooLong n = false := by
  unfold Builtin.List.listTooLong
  exact decide_eq_false (by omega)
end
section
variable {X : Cx}
inductive Z5 (x : V) (vs : List V) (H : Hp) (Q : VK) : Prop
  | mk (l xs y : _) (_ : x = .ref l) (_ : vs = [y]) (_ : H l = some (.lst xs)) (_ : xs.length < sizeLine) (_ : Q .non (upd H l (.lst (xs ++ [y])))) : Z5  x vs H Q
theorem qA : MtM X "list.append" Z5 := by
  intro pins s σ H x vs v us Q I rx rv h
  obtain ⟨l,xs,y,rfl,rfl,hH,hz,q⟩ := h
  cases rx
  obtain ⟨u,rfl,ru⟩ := rv.one
  obtain ⟨z,its,n,r,hl,e⟩ := I.lstM hH
  refine call_meets F.slot_list_append ⟨_,e,rfl⟩ F.entry_list_append (F.args_list_append_2 _ _) (PySem.list_append l its.toArray n u (by rw [List.size_toArray];omega)) ⟨e,?_⟩
  refine ⟨.non,_,I.lset (its' := its ++ [u]) hH e (by simp) (r.append (.cons ru .nil)) ?_,rfl,q⟩
  rw [List.length_append,List.length_singleton]
  omega
inductive Z4 (x : V) (vs : List V) (H : Hp) (Q : VK) : Prop
  | mk (l b xs zs : _) (_ : x = .ref l) (_ : vs = [.ref b]) (_ : H l = some (.lst xs)) (_ : H b = some (.lst zs)) (_ : xs.length + zs.length <= sizeLine) (_ : Q .non (upd H l (.lst (xs ++ zs)))) : Z4  x vs H Q
theorem Q7 : MtM X "list.extend" Z4 := by
  intro pins s σ H x vs v us Q I rx rv h
  obtain ⟨l,b,xs,zs,rfl,rfl,hH,hB,hz,q⟩ := h
  cases rx
  obtain ⟨u,rfl,ru⟩ := rv.one
  cases ru
  obtain ⟨z,its,n,r,hl,e⟩ := I.lstM hH
  obtain ⟨z2,its2,n2,r2,hl2,e2⟩ := I.lstM hB
  have hsz : its.toArray.size + its2.toArray.size <= sizeLine := by rw [List.size_toArray,List.size_toArray];omega
  have hlong : ¬ (!its.toArray.isEmpty && Builtin.List.listTooLong (its.toArray.size + its2.toArray.size)) = true := by
    rw [yQ hsz,Bool.and_false]
    exact Bool.false_ne_true
  refine call_meets F.slot_list_extend ⟨_,e,rfl⟩ F.entry_list_extend (F.args_list_extend_2 _ _)
    (AutoSeq1.list_extend_list_list_0 l its.toArray n b its2.toArray n2 hlong (by rw [List.size_toArray];omega) (by omega)) ⟨e,e2,?_⟩
  refine ⟨.non,_,I.lset (its' := its ++ its2) hH e (by simp) (r.append r2) ?_,rfl,q⟩
  rw [List.length_append]
  omega
inductive yL (x : V) (vs : List V) (H : Hp) (Q : VK) : Prop
  | mk (l xs : _) (_ : x = .ref l) (_ : vs = []) (_ : H l = some (.lst xs)) (_ : Q .non (upd H l (.lst xs.reverse))) : yL  x vs H Q
theorem ZA : MtM X "list.reverse" yL := by
  intro pins s σ H x vs v us Q I rx rv h
  obtain ⟨l,xs,rfl,rfl,hH,q⟩ := h
  cases rx
  have hus := rv.zero
  subst hus
  obtain ⟨z,its,n,r,hl,e⟩ := I.lstM hH
  refine call_meets F.slot_list_reverse ⟨_,e,rfl⟩ F.entry_list_reverse (F.args_list_reverse_1 _) (AutoSeq1.list_reverse_list_0 l its.toArray n (by rw [List.size_toArray];omega)) ⟨e,?_⟩
  refine ⟨.non,_,I.lset (its' := its.reverse) hH e (by simp) r.reverse ?_,rfl,q⟩
  rw [List.length_reverse]
  omega
inductive VO (x : V) (y : V) (H : Hp) (Q : VK) : Prop
  | mk (l b xs zs : _) (_ : x = .ref l) (_ : y = .ref b) (_ : H l = some (.lst xs)) (_ : H b = some (.lst zs)) (_ : xs.length + zs.length <= sizeLine) (_ : ∀ p,H p = none -> Q (.ref p) (upd H p (.lst (xs ++ zs)))) : VO  x y H Q
theorem qP : OpR X (binaryOp .Add) VO := by
  intro pins s σ H x y v u Q I rx ry h
  obtain ⟨l,b,xs,zs,rfl,rfl,hH,hB,hz,q⟩ := h
  cases rx
  cases ry
  obtain ⟨z,its,n,r,hl,e⟩ := I.lstM hH
  obtain ⟨z2,its2,n2,r2,hl2,e2⟩ := I.lstM hB
  refine PySem.P.add_list e e2 ?_ (by rw [List.size_toArray,List.size_toArray];omega)
  have ea : its.toArray ++ its2.toArray = (its ++ its2).toArray := by simp
  rw [ea]
  exact ⟨.ref _,_,I.lnew (t' := s.toks) (r.append r2) (by rw [List.length_append];omega),rfl,q _ I.fresh⟩
inductive WA (x : V) (y : V) (H : Hp) (Q : VK) : Prop
  | mk (l k xs : _) (_ : x = .ref l) (_ : y = .int k) (_ : H l = some (.lst xs)) (_ : -(2 ^ 63) <= k) (_ : k < 2 ^ 63) (_ : xs.length * k.toNat <= sizeLine) (_ : ∀ p,H p = none -> Q (.ref p) (upd H p (.lst (List.replicate k.toNat xs).flatten))) : WA  x y H Q
theorem X6 {α : Type} (xs : List α) (k : Nat) : (List.replicate k xs).flatten.length = k * xs.length := by
  induction k with
  | zero => simp
  | succ k ih => rw [List.replicate_succ,List.flatten_cons,List.length_append,ih,Nat.succ_mul,Nat.add_comm]
theorem xV : OpR X (binaryOp .Mult) WA := by
  intro pins s σ H x y v u Q I rx ry h
  obtain ⟨l,k,xs,rfl,rfl,hH,h1,h2,hz,q⟩ := h
  cases rx
  obtain ⟨t,rfl⟩ := ry
  obtain ⟨z,its,n,r,hl,e⟩ := I.lstM hH
  have hlen : its.toArray.size * k.toNat <= sizeLine := by rw [List.size_toArray,<- hl];exact hz
  have hcap : ¬ its.toArray.size * k.toNat > (2 ^ 63 - 1) / 8 := by
    have : (sizeLine : Nat) <= (2 ^ 63 - 1) / 8 := by decide
    omega
  have hfit : ¬ (!Builtin.List.listFitsIndex k) = true := by
    rw [fitsIndex_both h1 h2]
    exact Bool.false_ne_true
  have hlong : ¬ Builtin.List.listTooLong (its.toArray.size * k.toNat) = true := by
    rw [yQ hlen]
    exact Bool.false_ne_true
  have hnew : List.foldl (fun x1 x2 => x1 ++ x2) #[] (List.replicate (if its.toArray.isEmpty = true then 0 else k.toNat) its.toArray) = (List.replicate k.toNat its).flatten.toArray := by
    have f0 : ∀ m : Nat,List.foldl (fun x1 x2 => x1 ++ x2) #[] (List.replicate m its.toArray) = (List.replicate m its).flatten.toArray := fun m => by
      have := wI its m []
      rw [List.nil_append] at this
      exact this
    rw [f0]
    cases its with
    | nil => simp
    | cons a r' => rw [if_neg (by simp)]
  refine wpAny_binaryOp_repeat_ref (T := "list") (U := "int") (by decide) ⟨_,e,rfl⟩ (fun s' => typeIs_int s' k t) noFill_list_mul F.fills_int_mul F.slot_int_rmul repeat_list F.slot_int_index.lookup
    (call_meets F.slot_int_rmul (typeIs_int s k t) F.entry_int_rmul (F.args_int_rmul_2 _ _) (int___rmul___int_list k t l its.toArray n)
      ⟨e,rfl,⟨_,e,rfl⟩,call_meets F.slot_list_mul ⟨_,e,rfl⟩ F.entry_list_mul (F.args_list_mul_2 _ _) (AutoListH.list___mul___list_int_3 l its.toArray n k t hfit hcap hlong) ⟨e,?_⟩⟩)
  rw [hnew]
  exact ⟨.ref _,_,I.lnew (t' := s.toks) (r.rep k.toNat) (by rw [X6,Nat.mul_comm];exact hz),rfl,q _ I.fresh⟩
end
section
variable {prog : Program} {w : World} {A : Around} {E : Value -> Shared -> Prop} {s : Shared}
end
section
variable {X : Cx}
end
end L2
namespace Att
open PySem PySem.W PySem.Calls PyProof.Rows
theorem vj {P : Params} {h : Heap} : ∀ (ns : List Int) (vs : List Value),WellAll P h vs (ns.map WData.int) -> IntsAre vs ns := by
  intro ns
  induction ns with
  | nil =>
    intro vs w
    rw [List.map_nil] at w
    cases w
    exact .nil
  | cons n ns ih =>
    intro vs w
    rw [List.map_cons] at w
    cases w with
    | cons a b =>
      cases a
      exact .cons _ _ (ih _ b)
theorem QY {l : OpenLaw} {n : Nat} (hn : l.most = some n) {P : Params} {h : Heap} {args : List WData} {vals : List Value}
    (hpre : l.row.toRowW.claim.pre args = true) (hwl : WellAll P h vals args) :
    ∃ a vs ns,vals = [Value.ref a] /\ args = [WData.list (ns.map WData.int)] /\ h.get? a = some { cls := .type "list",data := .seq vs.toArray } /\ IntsAre vs ns /\ ns.length <= n := by
  have hsh : WShape.hasAll [] args [.list .int] = true := (pre_splitW hpre).1
  have hc : l.pre.holds [] { args := args } = true := (pre_splitW hpre).2
  obtain ⟨d,r,rfl,h1,h2⟩ := hasAllW_cons hsh
  obtain rfl := hasAllW_nil h2
  obtain ⟨xs,rfl,h3⟩ := hasW_list h1
  obtain ⟨ns,rfl⟩ := items_int h3
  have hlen : ns.length <= n := by
    unfold OpenLaw.pre at hc
    have h4 : (WTm.not (.lt (.lit (.int (n : Int))) (.len (.arg 0)))).holds [] { args := [.list (ns.map .int)] } = true := by
      have h4 := (holds_andW hc).1
      rw [hn] at h4
      exact h4
    have h5 := condW_of h4 (w_not (w_lt w_lit (w_len_list (w_arg rfl))))
    rw [List.length_map] at h5
    refine Nat.le_of_not_lt fun q => ?_
    have q' : (n : Int) < ((ns.length : Nat) : Int) := by omega
    first
      | (rw [decide_eq_true q'] at h5;exact absurd h5 (by decide))
      | (simp at h5;omega)
  cases hwl with
  | cons w1 w2 =>
    cases w2
    cases w1 with
    | list ho hall => exact ⟨_,_,ns,rfl,rfl,ho,vj ns _ hall,hlen⟩
theorem QZ (l : OpenLaw) (args : List WData) : l.row.toRowW.claim.post args (.bool true) args = true :=
  postW_of (r := l.row.toRowW) (X := (true == true))
    (show WShape.has [] (.bool true) .bool = true by first | rfl | decide | simp [WShape.has,WShape.arms,WShape.armsAll])
    (show (WTm.eq .res (.lit (.bool true))).value [] { args := args,res := some (.bool true),after := args } = some (.bool (true == true)) from w_eq_bool (w_res rfl) w_lit) rfl
theorem attach_call {l : OpenLaw} {n : Nat} {q : Program} {loose : List Str} {XP : (Str -> Option Value) -> Heap -> Prop} {YP : World -> Heap -> Prop} {d : DefRec}
    (hn : l.most = some n) (hdf : d.params.defaults = [])
    (call : ∀ (w : World) (s₀ s₁ : Shared) (mg mb : Str -> Option Value) (fa : Addr) (o : Obj) (pm cd doc : Value) (a : Addr) (vs : List Value) (ns : List Int),
      Ground q loose [] XP w s₀ mg mb s₁.heap -> YP w s₁.heap ->
      s₁.heap.get? fa = some o -> o.data = .func (docDef d.name d.params d.body d.scope pm cd doc) -> s₁.heap.CodeRec cd d.name -> mg d.name = some (.ref fa) ->
      s₁.heap.get? a = some { cls := .type "list",data := .seq vs.toArray } -> IntsAre vs ns -> ns.length <= n -> s₁.gens = #[] ->
      codeAny (model l.prog w) callerA (.call (.ref fa) ⟨[.ref a],[]⟩) (fun r s' => r = .ok (.ret (.bool true)) /\ OldK s₁.heap s'.heap /\ s'.os = s₁.os /\ AllBare s'.gens) s₁) :
    WalkO q loose XP YP l.row.toRowW d [] (fun f vs => PySem.call f vs) := by
  intro w s₀ s₁ mg mb G Y fa o pm cd doc dV kV ho hd hcd hD hmg hg args vals as hpre hlay hrd hwl hlo
  obtain rfl : dV = .none := Dflts.none hD hdf
  obtain rfl : kV = .none := Dflts.noKw hD
  obtain ⟨a,vs,ns,rfl,rfl,hobj,hints,hlen⟩ := QY hn hpre hwl
  refine enter_call (codeAny_mono (call w s₀ s₁ mg mb fa o pm cd doc a vs ns G Y ho (fd_plain hd) hcd hmg hobj hints hlen hg) fun r s' hq => ?_)
  obtain ⟨rfl,h2,h3,h4⟩ := hq
  exact ⟨.inl ⟨.bool true,.bool true,[],rfl,fun _ => rfl,.bool true,QZ l _,fun _ => ⟨List.Pairwise.nil,fun _ hm => (nomatch hm)⟩⟩,h2,h3,h4⟩
section
variable {prog : Program} {w : World} {A : Around} {E : Value -> Shared -> Prop} {s : Shared} {K : Frag}
def ledger (h : Heap) (L d : Addr) : List (Addr × Obj) := (List.range h.objs.size).filterMap fun a => if a = L \/ a = d then none else (h.get? a).map fun o => (a,o)
end
end Att
namespace L2
open PySem PySem.Spec PyProof.Rows
theorem we : ∀ {vs : List Value} {ns : List Int},IntsAre vs ns -> Vals (ns.map V.int) vs
  | _,_,.nil => .nil
  | _,_,.cons n t h => .cons ⟨t,rfl⟩ (we h)
def Wl (H : Hp) : Prop := ∀ b,H b = none \/ ∃ o xs,H b = some (.frz o (.lst xs))
theorem Xi {P : Program} {w : World} {K : PySem.W.Frag} {mg mb : Str -> Option Value} {CX : CXT} {k : Nat} {fa a : Addr} {fd : FuncData} {x : Str} {sp : Sp} {s₁ : Shared} {vs : List Value} {ns : List Int}
    (KX : K.In s₁.heap) (hns : s₁.heap.Ns mainGlobals mg) (hb : s₁.heap.Ns builtinsNs mb) (hbb : ∀ x : Str,x ≠ "__name__" -> mb x = bootBuiltins x) (hlim : s₁.heap.NoLimit) (hg : s₁.gens = #[])
    (ha : s₁.heap.get? a = some { cls := .type "list",data := .seq vs.toArray }) (hi : IntsAre vs ns) (hl : ns.length <= sizeLine) (hr : Room k callerA)
    (F : ∀ base : Heap,K.In base -> base.Ns mainGlobals mg -> FnOk P w K mg base CX k fa fd [x] sp) (hbind : ∀ (s : Shared) (u : Value),BindsTo s fd ⟨[u],[]⟩ [(x,u)])
    (hsp : ∀ H : Hp,Wl H -> SqL K H a (ns.map V.int) -> sp [.ref a] H (fun v _ => v = .bl true) fun _ _ _ => False)
    (hCX : ∀ H e s',CX [] H s₁ (fun _ _ _ => False) e s' -> False) :
    codeAny (model P w) callerA (.call (.ref fa) ⟨[.ref a],[]⟩) (fun r s' => r = .ok (.ret (.bool true)) /\ OldK s₁.heap s'.heap /\ s'.os = s₁.os /\ AllBare s'.gens) s₁ := by
  have rv := we hi
  have lenV := hi.length
  have core : ∀ H : Hp,Wl H -> SqL K H a (ns.map V.int) -> HOk P w H s₁.heap -> (∀ b,H b ≠ none -> b = a) -> (H a ≠ none -> K.lookup a = none) ->
      codeAny (model P w) callerA (.call (.ref fa) ⟨[.ref a],[]⟩) (fun r s' => r = .ok (.ret (.bool true)) /\ OldK s₁.heap s'.heap /\ s'.os = s₁.os /\ AllBare s'.gens) s₁ := by
    intro H hO hS hok hA hK
    have base_of : ∀ {b : Addr} {o : Obj},s₁.heap.get? b = some o -> H b = none -> (ym s₁.heap H).get? b = some o := fun e n => Xl e n
    have noA : ∀ {b : Addr} {o : Obj} {es : Array DictEntry} {ep : Nat},s₁.heap.get? b = some o -> o.data = .dict es ep -> H b = none := fun {b o es ep} e d => by
      cases q : H b with
      | none => rfl
      | some u =>
        have e' : b = a := hA b (by rw [q];simp)
        subst e'
        rw [ha] at e;cases e
        have d' : Data.seq vs.toArray _ = Data.dict es ep := d
        cases d'
    have nsK : ∀ {b : Addr} {m : Str -> Option Value},s₁.heap.Ns b m -> (ym s₁.heap H).Ns b m := fun {b m} ⟨o,es,ep,e,d,r⟩ => ⟨o,es,ep,base_of e (noA e d),d,r⟩
    have hKb : K.In (ym s₁.heap H) := fun b o e => base_of (KX b o e) (by
      cases q : H b with
      | none => rfl
      | some u =>
        have e' : b = a := hA b (by rw [q];simp)
        subst e'
        rw [hK (by rw [q];simp)] at e;cases e)
    have hM : Mod K mg (ym s₁.heap H) := ⟨hKb,nsK hns,⟨mb,nsK hb,hbb⟩,let ⟨mc,h1,h2⟩ := hlim;⟨mc,nsK h1,h2⟩⟩
    have e0 : Env0 P w K mg (ym s₁.heap H) callerA [] s₁ H := ⟨rfl,hM,fun b o e => X5 e,Nat.le_of_eq (Q9 _ _),trivial,fun b hb => absurd (show b ∈ ([] : List Addr) from hb) (by simp),hok,.of_eq hg⟩
    refine codeAny_mono ((F _ hKb (nsK hns)).run callerA [] s₁ H ⟨[.ref a],[]⟩ [.ref a] [.ref a] _ _ hr e0 (hbind s₁ (.ref a)) (.cons rfl .nil) (hsp H hO hS)) fun r s' h => ?_
    cases r with
    | error e => exact (hCX H e s' h).elim
    | ok fl =>
      cases fl with
      | next => exact False.elim h
      | brk => exact False.elim h
      | cont => exact False.elim h
      | ret u =>
        obtain ⟨v,H',os,bare,un,hok',r',q⟩ := h
        have q' : v = .bl true := q
        subst q'
        obtain rfl : u = Value.bool true := r'
        refine ⟨rfl,OldK.of_keep fun b o e => ?_,os,bare⟩
        cases q : H b with
        | none => exact un.keep b o e q (by intro z;exact absurd (show b ∈ ([] : List Addr) from z) (by simp)) (by simp)
        | some u =>
          rcases hO b with z | ⟨ob,xs,z⟩
          · rw [q] at z;cases z
          · have z2 := un.frzs b ob _ z
            obtain ⟨e1,_⟩ := hok b _ z
            obtain ⟨e2,_⟩ := hok' b _ z2
            rw [e] at e1;cases e1
            exact e2
  cases hk : K.lookup a with
  | some o =>
    have e := KX a o hk
    rw [ha] at e
    cases e
    refine core (fun _ => none) (fun _ => .inl rfl) (.inr ⟨_,vs.toArray,_,hk,rfl,rfl,rfl,by rw [List.size_toArray,lenV];exact hl,by simpa using rv⟩) (fun b u z => by have z' : (none : Option HO) = some u := z;cases z') (fun b z => absurd rfl z) fun z => absurd rfl z
  | none =>
    refine core (fun b => if b = a then some (.frz { cls := .type "list",data := .seq vs.toArray } (.lst (ns.map V.int))) else none) (fun b => ?_) (.inl (.inr ⟨{ cls := .type "list",data := .seq vs.toArray },if_pos rfl⟩)) (fun b u z => ?_) (fun b z => ?_) fun _ => hk
    · by_cases hb : b = a
      · exact .inr ⟨_,_,if_pos hb⟩
      · exact .inl (if_neg hb)
    · by_cases hb : b = a
      · have z' := (if_pos hb).symm.trans z
        cases z'
        subst hb
        exact ⟨ha,by rw [List.length_map];exact hl,vs,_,rv,ha⟩
      · have z' := (if_neg hb).symm.trans z
        cases z'
    · by_cases hb : b = a
      · exact hb
      · exact absurd (if_neg hb) z
end L2
namespace L2
open PySem PySem.Spec PyProof.Rows
abbrev KOf {K : PySem.W.Frag} {h : Heap} (_ : K.In h) : PySem.W.Frag := K
theorem walk_of {l : PySem.W.OpenLaw} {n k : Nat} {q : Program} {loose : List Str} {XP : (Str -> Option Value) -> Heap -> Prop} {YP : World -> Heap -> Prop} {d : DefRec} {K : Params -> PySem.W.Frag} {CX : World -> CXT} {sp : World -> Sp} {x : Str}
    (hn : l.most = some n) (hn2 : n <= sizeLine) (hdf : d.params.defaults = []) (hr : Room k callerA)
    (hY : ∀ (w : World) (h : Heap),YP w h -> (K w.params).In h)
    (F : ∀ (w : World) (mg : Str -> Option Value) (fa : Addr) (h : Heap),(K w.params).In h -> h.Ns mainGlobals mg -> mg d.name = some (.ref fa) ->
      ∃ fd : FuncData,(∀ (s : Shared) (u : Value),BindsTo s fd ⟨[u],[]⟩ [(x,u)]) /\
        ∀ base : Heap,(K w.params).In base -> base.Ns mainGlobals mg -> FnOk l.prog w (K w.params) mg base (CX w) k fa fd [x] (sp w))
    (hsp : ∀ (w : World) (H : Hp) (a : Addr) (ns : List Int),ns.length <= n -> Wl H -> SqL (K w.params) H a (ns.map V.int) -> sp w [.ref a] H (fun v _ => v = .bl true) fun _ _ _ => False)
    (hCX : ∀ (w : World) (H : Hp) (s : Shared) (e : Value) (s' : Shared),CX w [] H s (fun _ _ _ => False) e s' -> False) :
    PySem.W.WalkO q loose XP YP l.row.toRowW d [] (fun f vs => PySem.call f vs) := by
  refine Att.attach_call hn hdf fun w s₀ s₁ mg mb fa o pm cd doc a vs ns G Y ho hd hcd hmg hobj hints hlen hg => ?_
  have KX := hY w _ Y
  obtain ⟨fd,hb,hF⟩ := F w mg fa _ KX G.T.g hmg
  exact Xi KX G.T.g G.T.b G.T.builtins G.T.nolimit hg hobj hints (Nat.le_trans hlen hn2) hr hF hb (fun H hO hS => hsp w H a ns hlen hO hS) fun H e s' => hCX w H s₁ e s'
end L2
/- THE LAST THEOREM (shape;LID,My.* are yours):
   My.Adr: a structure of the addresses that your layer names (classes,functions);My.Txt K t: a structure (Prop) of the equations over K;
   My.txt_mk : {K} {implicit addresses ..} (e1 : nsIn K mainGlobals "law" = some (some (.ref f))) (e2 : K.lookup f = some ⟨oc,od,.func (fnOf "law" "law" params body scope dV kV doc pm an cdv ct),sl⟩) (e3 : codeIn K cdv "law" = true) .. : ∃ t,My.Txt K t
set_option maxRecDepth 100000 in
set_option maxHeartbeats 0 in
theorem PySem.Challenge.cw_LID_holds : PySem.Challenge.rw_LID.Holds := by
  w_on;o_law;k_head;(case hw => w_witness2)
  k_fill
  refine L2.walk_of (l := PySem.Challenge.rw_LID) (n := 63) (k := 40) (x := "script") (CX := fun w => ..) (sp := fun _ => My.sp_law) rfl (by decide) rfl ⟨rfl,by decide,by decide⟩ (fun w h Y => PySem.W.kIn_of Y) ?F ?S ?C
  case F =>
    intro w mg fa h KX G hmg
    have T : ∃ t,My.Txt (L2.KOf KX) t := by
      dsimp only [L2.KOf]                          -- K must stand as «<heap const> w.params» for k_is
      refine' My.txt_mk ?e1 ?e2 ?e3 ..
      (case e1 => PySem.W.k_is)                    -- in the order: a name -> its address -> its object -> its parts
      (case e2 => PySem.W.k_is)
      ..
    obtain ⟨t,T⟩ := T
    have e0 := hmg.symm.trans (PySem.W.mg_of KX G T.law)
    cases e0                                       -- fa is the law's own address
    exact ⟨_,fun s u => .of_eq rfl,fun base kb nb => My.law_fn T kb nb⟩     -- if «.of_eq rfl» comes too early: refine' ⟨_,?b,fun base kb nb => My.law_fn T kb nb⟩;exact fun s u => .of_eq rfl
  case S => exact fun w H a ns hl hO hS => ..
  case C => exact ..
(the tactic k_is has no namespace: write k_is) -/
namespace L2
open PySem PySem.Spec PyProof.Rows
def zw (s : Stmt) : Arguments := match s with
  | .FunctionDef _ a _ _ _ _ _ _ _ _ => a
  | _ => { posonlyargs := [],args := [],vararg := none,kwonlyargs := [],kw_defaults := [],kwarg := none,defaults := [] }
def zv (s : Stmt) : List Stmt := match s with
  | .FunctionDef _ _ b _ _ _ _ _ _ _ => b
  | _ => []
def zi (s : Stmt) : Scope := match s with
  | .FunctionDef _ _ _ _ _ _ sc _ _ _ => sc
  | _ => { kind := .function,names := [],isGenerator := false,isCoroutine := false }
abbrev CX0 : CXT := fun _ _ _ _ _ _ => False
abbrev E0 : XK := fun _ _ _ => False
theorem WF {X : Cx} : ZH CX0 X E0 := fun _ _ _ _ _ _ _ h => h.elim
structure Fun (K : PySem.W.Frag) (x qual : Str) (st : Stmt) (f : Addr) (fd : FuncData) : Prop where
  ex : ∃ (oc : Value) (od : Option Addr) (kV doc pm : Value) (an : Option Addr) (cdv ct : Value) (osl : Array (Option Value)),
    fd = PySem.W.fnOf x qual (zw st) (zv st) (zi st) .none kV doc pm an cdv ct /\ K.lookup f = some ⟨oc,od,.func fd,osl⟩ /\ PySem.W.codeIn K cdv qual = true
  kp : PySem.W.keepIn K (.ref f) = true
section
variable {P : Program} {w : World} {K : PySem.W.Frag} {mg : Str -> Option Value} {base : Heap}
theorem Fun.ok {x qual : Str} {st : Stmt} {f : Addr} {fd : FuncData} {N ps : List Str} {k : Nat} {sp : Sp} (F : Fun K x qual st f fd) (S : zy N ps (zi st)) (len : ∀ vs H Q E,sp vs H Q E -> vs.length = ps.length)
    (hbody : ∀ (cdv : Value) (A : Around) (outer : List Env) (s : Shared) (H : Hp) (vs : List V) (Q : VK) (E : XK),Room k (A.deeper (envOfC qual (zi st) s.heap.objs.size f cdv)) -> sp vs H Q E ->
      ∃ t,PSs (Jb CX0 P w K mg base N qual (zi st) f cdv A outer s H E).nox (zv st) t /\ t { nx := fun _ H' => Q .non H',rt := Q } (x6 N vs) H) : FnOk P w K mg base CX0 (k + 1) f fd ps sp := by
  obtain ⟨oc,od,kV,doc,pm,an,cdv,ct,osl,rfl,lk,hcd⟩ := F.ex
  refine WO lk hcd S len fun A outer s H vs Q E hr hsp => ?_
  obtain ⟨t,h,q⟩ := hbody cdv A outer s H vs Q E hr hsp
  exact ⟨t,h.nox,q⟩
theorem Fun.binds {x qual : Str} {st : Stmt} {f : Addr} {fd : FuncData} {ps : List Str} (F : Fun K x qual st f fd)
    (h : ∀ (kV doc pm : Value) (an : Option Addr) (cdv ct : Value) (us : List Value),us.length = ps.length -> bindArgs (PySem.W.fnOf x qual (zw st) (zv st) (zi st) .none kV doc pm an cdv ct) ⟨us,[]⟩ = pure (ps.zip us)) : Binds K fd ps [] := by
  obtain ⟨oc,od,kV,doc,pm,an,cdv,ct,osl,rfl,lk,hcd⟩ := F.ex
  exact .all (h kV doc pm an cdv ct)
theorem zK {x qual : Str} {st : Stmt} {f : Addr} {oc : Value} {od an : Option Addr} {osl : Array (Option Value)} {kV doc pm cdv ct : Value} (l : K.lookup f = some ⟨oc,od,.func (PySem.W.fnOf x qual (zw st) (zv st) (zi st) .none kV doc pm an cdv ct),osl⟩)
    (c : PySem.W.codeIn K cdv qual = true) (k : PySem.W.keepIn K (.ref f) = true) : Fun K x qual st f (PySem.W.fnOf x qual (zw st) (zv st) (zi st) .none kV doc pm an cdv ct) := ⟨⟨oc,od,kV,doc,pm,an,cdv,ct,osl,rfl,l,c⟩,k⟩
end
section
variable {X : Cx}
theorem pv (i : Nat) {x : Str} {pos : Pos} (hN : X.N[i]? = some x := by rfl) (hv : Vis X.env.scope x := by first | exact Or.inl rfl | exact Or.inr (Or.inl rfl) | exact Or.inr (Or.inr rfl)) (hd : (x == ("__debug__" : Str)) = false := by decide)
    (hcd : (x == ("__classdict__" : Str)) = false := by decide) : PE X (.Name x pos) (VG i) := VS hN hv hd hcd
end
theorem qw {c A B : Prop} [Decidable c] (h1 : c -> A) (h2 : ¬ c -> B) : if c then A else B := by
  by_cases h : c
  · rw [if_pos h]
    exact h1 h
  · rw [if_neg h]
    exact h2 h
def Same (H H' : Hp) : Prop := ∀ b o,H b = some o -> H' b = some o
theorem Same.refl (H : Hp) : Same H H := fun _ _ h => h
theorem Same.trans {H H1 H2 : Hp} (a : Same H H1) (b : Same H1 H2) : Same H H2 := fun c o h => b c o (a c o h)
theorem Same.free {H H' : Hp} (e : Same H H') {l : Addr} (h : H' l = Option.none) : H l = Option.none := by
  cases q : H l with
  | none => rfl
  | some o =>
    rw [e l o q] at h
    cases h
theorem Same.seq {K : PySem.W.Frag} {H H' : Hp} {a : Addr} {xs : List V} (e : Same H H') (h : SqL K H a xs) : SqL K H' a xs := by
  rcases h with (h | ⟨o,h⟩) | h
  · exact .inl (.inl (e _ _ h))
  · exact .inl (.inr ⟨o,e _ _ h⟩)
  · exact .inr h
end L2
set_option Elab.async false
set_option linter.all false
namespace L2
inductive Ex1 {α1 : Sort _} (P : α1 -> Prop) : Prop
  | mk (a1 : α1) (h : P a1) : Ex1 P
inductive Ex2 {α1 : Sort _} {α2 : Sort _} (P : α1 -> α2 -> Prop) : Prop
  | mk (a1 : α1) (a2 : α2) (h : P a1 a2) : Ex2 P
inductive Ex3 {α1 : Sort _} {α2 : Sort _} {α3 : Sort _} (P : α1 -> α2 -> α3 -> Prop) : Prop
  | mk (a1 : α1) (a2 : α2) (a3 : α3) (h : P a1 a2 a3) : Ex3 P
inductive Ex4 {α1 : Sort _} {α2 : Sort _} {α3 : Sort _} {α4 : Sort _} (P : α1 -> α2 -> α3 -> α4 -> Prop) : Prop
  | mk (a1 : α1) (a2 : α2) (a3 : α3) (a4 : α4) (h : P a1 a2 a3 a4) : Ex4 P
inductive Ex5 {α1 : Sort _} {α2 : Sort _} {α3 : Sort _} {α4 : Sort _} {α5 : Sort _} (P : α1 -> α2 -> α3 -> α4 -> α5 -> Prop) : Prop
  | mk (a1 : α1) (a2 : α2) (a3 : α3) (a4 : α4) (a5 : α5) (h : P a1 a2 a3 a4 a5) : Ex5 P
inductive Ex6 {α1 : Sort _} {α2 : Sort _} {α3 : Sort _} {α4 : Sort _} {α5 : Sort _} {α6 : Sort _} (P : α1 -> α2 -> α3 -> α4 -> α5 -> α6 -> Prop) : Prop
  | mk (a1 : α1) (a2 : α2) (a3 : α3) (a4 : α4) (a5 : α5) (a6 : α6) (h : P a1 a2 a3 a4 a5 a6) : Ex6 P
inductive WY {α1 : Sort _} {α2 : Sort _} {α3 : Sort _} {α4 : Sort _} {α5 : Sort _} {α6 : Sort _} {α7 : Sort _} {α8 : Sort _} {α9 : Sort _} {α10 : Sort _} {α11 : Sort _} (P : α1 -> α2 -> α3 -> α4 -> α5 -> α6 -> α7 -> α8 -> α9 -> α10 -> α11 -> Prop) : Prop
  | mk (a1 : α1) (a2 : α2) (a3 : α3) (a4 : α4) (a5 : α5) (a6 : α6) (a7 : α7) (a8 : α8) (a9 : α9) (a10 : α10) (a11 : α11) (h : P a1 a2 a3 a4 a5 a6 a7 a8 a9 a10 a11) : WY P
inductive An2 (A1 A2 : Prop) : Prop
  | mk (h1 : A1) (h2 : A2) : An2 A1 A2
inductive An3 (A1 A2 A3 : Prop) : Prop
  | mk (h1 : A1) (h2 : A2) (h3 : A3) : An3 A1 A2 A3
inductive An4 (A1 A2 A3 A4 : Prop) : Prop
  | mk (h1 : A1) (h2 : A2) (h3 : A3) (h4 : A4) : An4 A1 A2 A3 A4
inductive An5 (A1 A2 A3 A4 A5 : Prop) : Prop
  | mk (h1 : A1) (h2 : A2) (h3 : A3) (h4 : A4) (h5 : A5) : An5 A1 A2 A3 A4 A5
inductive An6 (A1 A2 A3 A4 A5 A6 : Prop) : Prop
  | mk (h1 : A1) (h2 : A2) (h3 : A3) (h4 : A4) (h5 : A5) (h6 : A6) : An6 A1 A2 A3 A4 A5 A6
inductive An8 (A1 A2 A3 A4 A5 A6 A7 A8 : Prop) : Prop
  | mk (h1 : A1) (h2 : A2) (h3 : A3) (h4 : A4) (h5 : A5) (h6 : A6) (h7 : A7) (h8 : A8) : An8 A1 A2 A3 A4 A5 A6 A7 A8
inductive An9 (A1 A2 A3 A4 A5 A6 A7 A8 A9 : Prop) : Prop
  | mk (h1 : A1) (h2 : A2) (h3 : A3) (h4 : A4) (h5 : A5) (h6 : A6) (h7 : A7) (h8 : A8) (h9 : A9) : An9 A1 A2 A3 A4 A5 A6 A7 A8 A9
theorem vP {α : Type _} {us : List α} (h : us.length = 1) : ∃ a0,us = [a0] :=
  match us,h with
  | [a0],_ => ⟨a0,rfl⟩
theorem qO {α : Type _} {us : List α} (h : us.length = 2) : ∃ a0 a1,us = [a0,a1] :=
  match us,h with
  | [a0,a1],_ => ⟨a0,a1,rfl⟩
theorem yX {α : Type _} {us : List α} (h : us.length = 3) : ∃ a0 a1 a2,us = [a0,a1,a2] :=
  match us,h with
  | [a0,a1,a2],_ => ⟨a0,a1,a2,rfl⟩
theorem Vz {α : Type _} {us : List α} (h : us.length = 4) : ∃ a0 a1 a2 a3,us = [a0,a1,a2,a3] :=
  match us,h with
  | [a0,a1,a2,a3],_ => ⟨a0,a1,a2,a3,rfl⟩
end L2
set_option Elab.async false
set_option linter.all false
set_option maxRecDepth 100000
set_option maxHeartbeats 4000000
namespace L2
open PySem PySem.Spec PyProof.Rows
def qF (cs : List (Str × Addr)) : List (Str × NameKind) -> List (Str × Addr) -> List (Str × Addr)
  | [],acc => acc
  | (n,k) :: r,acc => qF cs r (if (k == NameKind.free) = true then (n,(cs.lookup n).getD 0) :: acc else acc)
theorem Xw {env : Env} (names : List (Str × NameKind)) : ∀ (acc : List (Str × Addr)),(∀ y ∈ names,y.2 = NameKind.free -> ∃ c,env.cells.lookup y.1 = some c) ->
    (forIn names acc fun (x : Str × NameKind) (cs : List (Str × Addr)) =>
      (if (x.2 == NameKind.free) = true then (cellOf env x.1 >>= fun a => (pure (ForInStep.yield ((x.1,a) :: cs)) : Sem (ForInStep (List (Str × Addr))))) else pure (ForInStep.yield cs))) = (pure (qF env.cells names acc) : Sem (List (Str × Addr))) := by
  induction names with
  | nil => intro acc _;rfl
  | cons y r ih =>
    intro acc h
    obtain ⟨n,k⟩ := y
    rw [List.forIn_cons]
    by_cases hk : (k == NameKind.free) = true
    · obtain ⟨c,hc⟩ := h (n,k) List.mem_cons_self (by simpa using hk)
      have e1 : cellOf env n = pure c := by
        unfold cellOf
        rw [show env.cells.lookup n = some c from hc]
      simp only [hk,if_true,e1,pure_bind]
      rw [ih _ fun z hz => h z (List.mem_cons_of_mem _ hz)]
      show _ = pure (qF env.cells r (if (k == NameKind.free) = true then (n,(env.cells.lookup n).getD 0) :: acc else acc))
      rw [if_pos hk,show env.cells.lookup n = some c from hc]
      all_goals rfl
    · simp only [hk,pure_bind]
      simp only [Bool.false_eq_true,if_false,pure_bind]
      rw [ih _ fun z hz => h z (List.mem_cons_of_mem _ hz)]
      show _ = pure (qF env.cells r (if (k == NameKind.free) = true then (n,(env.cells.lookup n).getD 0) :: acc else acc))
      rw [if_neg hk]
theorem yo {env : Env} {scope : Scope} (h : ∀ y ∈ scope.names,y.2 = NameKind.free -> ∃ c,env.cells.lookup y.1 = some c) : closureFor scope env = pure (qF env.cells scope.names []) := by
  have e := Xw (env := env) scope.names [] h
  unfold closureFor
  refine Eq.trans ?_ (Eq.trans (congrArg (fun m => m >>= fun cs => (pure cs : Sem (List (Str × Addr)))) e) ?_)
  · rfl
  · simp
theorem jL {cs : List (Str × Addr)} {x : Str} : ∀ (names : List (Str × NameKind)) (acc : List (Str × Addr)),(qF cs names acc).lookup x = (if (names.any fun y => y.2 == NameKind.free && x == y.1) = true then some ((cs.lookup x).getD 0) else acc.lookup x)
  | [],acc => by simp [qF]
  | (n,k) :: r,acc => by
    unfold qF
    rw [jL r]
    by_cases hr : (r.any fun y => y.2 == NameKind.free && x == y.1) = true
    · rw [if_pos hr,if_pos (by rw [List.any_cons,hr,Bool.or_true])]
    · rw [if_neg hr]
      by_cases hk : (k == NameKind.free) = true
      · rw [if_pos hk]
        by_cases hx : (x == n) = true
        · rw [if_pos (by rw [List.any_cons];simp only [hk,hx,Bool.and_self,Bool.true_or])]
          have e : x = n := by simpa using hx
          subst e
          simp [List.lookup_cons]
        · rw [if_neg (by rw [List.any_cons];simp only [hk,hx,Bool.and_false,Bool.false_or];exact hr)]
          have hx' : (x == n) = false := by simpa using hx
          simp [List.lookup_cons,hx']
      · rw [if_neg hk,if_neg (by rw [List.any_cons];simp only [hk,Bool.false_and,Bool.false_or];exact hr)]
end L2
set_option Elab.async false
set_option linter.all false
set_option maxRecDepth 100000
set_option maxHeartbeats 4000000
namespace L2
open PySem PySem.Spec PyProof.Rows
abbrev zu (X : Cx) (N' : List Str) (scope : Scope) (C : Addr) (s : Shared) (H : Hp) (ex : List Addr) : Cx where
  prog := X.prog
  w := X.w
  K := X.K
  mg := X.mg
  base := X.base
  A := X.A
  N := N'
  s₀ := s
  H₀ := H
  env := compEnvC scope (qF X.env.cells scope.names []) C X.env
  outer := X.stack
  stack := X.stack
  ex := ex
  fn := fun _ => false
  calm := X.calm
  pn := []
  xe := fun _ _ => False
abbrev xa (ifs : List Expr) (env : Env) : Sem Bool :=
  forIn ifs true fun (c : Expr) (r : Bool) => if r = true then (isTrue c env (eval c env) >>= fun ok => (pure (ForInStep.yield ok) : Sem (ForInStep Bool))) else pure (ForInStep.yield r)
theorem Ze {prog : Program} {w : World} {A : Around} {R : Result -> Shared -> Prop} {s : Shared} {elt tg iter : Expr} {ifs : List Expr} {scope : Scope} {pos : Pos} {it acc : Value} {env : Env} (J : Nat -> Shared -> Prop)
    (turn : ∀ n s,J n s -> wpAny (model prog w) A (pyNext it) (fun r s1 => match r with
      | none => R (.ok .next) s1
      | some v => wpAny (model prog w) A (letOwnedTupleGo tg it v) (fun _ s2 => wpAny (model prog w) A (assign tg env v) (fun _ s3 =>
          wpAny (model prog w) A (xa ifs env) (fun ok s4 =>
            if ok = true then wpAny (model prog w) A (eval elt env) (fun x s5 =>
              wpAny (model prog w) A (call (.builtin "list.append") [acc,x]) (fun _ s6 => ∃ m,m < n /\ J m s6) (fun _ _ => False) s5) (fun _ _ => False) s4
            else ∃ m,m < n /\ J m s4) (fun _ _ => False) s3) (fun _ _ => False) s2) (fun _ _ => False) s1) (fun _ _ => False) s)
    (n : Nat) (h : J n s) : codeAny (model prog w) A (.compLoop (.ListComp elt [⟨tg,iter,ifs,0⟩] scope pos) 0 it acc env) R s := by
  have no : ∀ {α : Type} {t : Sem α} {Q : α -> Shared -> Prop} {E : Value -> Shared -> Prop} {s : Shared},wpAny (model prog w) A t Q (fun _ _ => False) s -> wpAny (model prog w) A t Q E s := fun x => wpAny_mono x (fun _ _ q => q) fun _ _ q => q.elim
  refine codeAny_loop rfl J (fun k u hJ => ?_) n h
  show wpAny _ A ((compTurn (.ListComp elt [⟨tg,iter,ifs,0⟩] scope pos) 0 it acc env).onRaise (fun x => do noteFrame x env;theTreesLotGoes x)) _ _ u
  refine wpAny_noted ?_
  rw [compTurn_list]
  refine wpAny_bind (wpAny_standAt (wpAny_bind (no (wpAny_mono (turn k u hJ) (fun r s1 h1 => ?_) fun _ _ q => q))))
  cases r with
  | none => exact wpAny_pure h1
  | some v =>
    refine wpAny_bind (no (wpAny_mono h1 (fun _ s2 h2 => wpAny_bind (no (wpAny_mono h2 (fun _ s3 h3 => wpAny_bind (no (wpAny_mono h3 (fun ok s4 h4 => ?_) fun _ _ q => q))) fun _ _ q => q))) fun _ _ q => q))
    cases ok with
    | false => exact wpAny_pure ⟨rfl,h4⟩
    | true =>
      have h4' : wpAny (model prog w) A (eval elt env) (fun x s5 => wpAny (model prog w) A (call (.builtin "list.append") [acc,x]) (fun _ s6 => ∃ m,m < k /\ J m s6) (fun _ _ => False) s5) (fun _ _ => False) s4 := h4
      refine wpAny_bind (wpAny_bind (no (wpAny_mono h4' (fun x s5 h5 => wpAny_bind (no (wpAny_mono h5 (fun _ s6 h6 => wpAny_pure (wpAny_pure ⟨rfl,h6⟩)) fun _ _ q => q))) fun _ _ q => q)))
def PF (X : Cx) (ifs : List Expr) (t : TT) : Prop :=
  ∀ (pins : List (Addr × Obj)) (s : Shared) (σ : St) (H : Hp) (Q : Bool -> Hp -> Prop),Inv X pins σ H s -> t σ H Q -> wpAny (model X.prog X.w) X.A (xa ifs X.env) (TP X pins σ Q) X.xe s
def WP : TT := fun _ H Q => Q true H
theorem qH {X : Cx} : PF X [] WP := fun pins s σ H Q I h => wpAny_pure ⟨H,I,h⟩
theorem yc {X : Cx} {c : Expr} {t : TT} (hc : PT X c t) : PF X [c] t := by
  intro pins s σ H Q I h
  unfold xa
  simp only [List.forIn_cons,List.forIn_nil,if_true]
  refine wpAny_bind (wpAny_bind (thn (hc pins s σ H Q I h) fun ok s1 q => wpAny_pure (wpAny_pure q)))
theorem yk {P : Program} {w : World} {H : Hp} {h h' : Heap} {C : Addr} (x : HOk P w H h) (hn : H C = none) (k : ∀ b o,b ≠ C -> h.get? b = some o -> h'.get? b = some o) : HOk P w H h' := fun b u e => by
  refine (x b u e).stay (fun c v hc q => k c v ?_ q) (fun _ q => q) fun _ _ q => q
  rcases hc with z | z
  · rw [z];exact zn e hn
  · exact zn z hn
theorem xg {P : Program} {w : World} {H : Hp} {h : Heap} {a : Addr} {o : HO} (x : HOk P w H h) (hn : H a = none) (new : ObjOk P w (upd H a o) h a o) : HOk P w (upd H a o) h := fun b u e => by
  by_cases hb : b = a
  · subst hb;rw [zd] at e;cases e;exact new
  · rw [zq hb] at e
    exact (x b u e).stay (fun c v _ q => q) (fun c q => by rw [zq (zn q hn)];exact q) fun c xs q => by rw [zq (zn q hn)];exact q
theorem xz {fs ex : List Addr} {H H' : Hp} {h h' : Heap} {a : Addr} {o : HO} (u : Un fs ex H H' h h') (ha : a ∈ ex) (hn : H a = none) : Un fs ex H (upd H' a o) h h' where
  keep := u.keep
  slot := u.slot
  free := fun b ob q n hx => by
    have hb : b ≠ a := fun z => hx (by rw [z];exact ha)
    rw [zq hb];exact u.free b ob q n hx
  there := u.there
  tups := fun b xs q => by rw [zq (zn q hn)];exact u.tups b xs q
  frzs := fun b ob v q => by rw [zq (zn q hn)];exact u.frzs b ob v q
  tbls := fun b ps q => by rw [zq (zn q hn)];exact u.tbls b ps q
theorem Zj {fs ex : List Addr} {H H' : Hp} {h h1 h2 : Heap} {C : Addr} (u : Un fs ex H H' h h1) (hC : h.objs.size <= C) (k : ∀ b o,b ≠ C -> h1.get? b = some o -> h2.get? b = some o) : Un fs ex H H' h h2 where
  keep := fun b o q n hb hx => k b o (Nat.ne_of_lt (Nat.lt_of_lt_of_le (Heap.lt_size q) hC)) (u.keep b o q n hb hx)
  slot := fun b o q n hb hx => let ⟨sl,e⟩ := u.slot b o q n hb hx;⟨sl,k b _ (Nat.ne_of_lt (Nat.lt_of_lt_of_le (Heap.lt_size q) hC)) e⟩
  free := u.free
  there := fun b o q hx => let ⟨o',e⟩ := u.there b o q hx;⟨o',k b _ (Nat.ne_of_lt (Nat.lt_of_lt_of_le (Heap.lt_size q) hC)) e⟩
  tups := u.tups
  frzs := u.frzs
  tbls := u.tbls
def vU (sn on : List (Str × NameKind)) (N fr : List Str) (js : List Nat) : Bool :=
  sn.all (fun y => y.2 != .cell && (y.2 != .local || sn.lookup y.1 == some .local) && (y.2 != .free || (on.lookup y.1 == some .cell || on.lookup y.1 == some .free))) && fr.length == js.length
    && (fr.zip js).all fun p => sn.lookup p.1 == some .free && N[p.2]? == some p.1
structure VE (sn on : List (Str × NameKind)) (N fr : List Str) (js : List Nat) : Prop where
  cell : ∀ y ∈ sn,y.2 ≠ NameKind.cell
  loc : ∀ y ∈ sn,y.2 = NameKind.local -> sn.lookup y.1 = some .local
  free : ∀ y ∈ sn,y.2 = NameKind.free -> on.lookup y.1 = some .cell \/ on.lookup y.1 = some .free
  len : fr.length = js.length
  fr : ∀ (k : Nat) (x : Str),fr[k]? = some x -> sn.lookup x = some .free /\ ∃ j : Nat,js[k]? = some j /\ N[j]? = some x
theorem vT {sn on : List (Str × NameKind)} {N fr : List Str} {js : List Nat} (h : vU sn on N fr js = true) : VE sn on N fr js := by
  unfold vU at h
  rw [Bool.and_eq_true,Bool.and_eq_true,List.all_eq_true,List.all_eq_true] at h
  obtain ⟨⟨h1,h2⟩,h3⟩ := h
  have h2' : fr.length = js.length := by simpa using h2
  refine ⟨fun y hy => ?_,fun y hy e => ?_,fun y hy e => ?_,h2',fun k x e => ?_⟩
  · have := h1 y hy
    simp only [Bool.and_eq_true,bne_iff_ne] at this
    exact this.1.1
  · have := h1 y hy
    simp only [Bool.and_eq_true,Bool.or_eq_true,bne_iff_ne,beq_iff_eq] at this
    exact this.1.2.resolve_left fun z => z e
  · have := h1 y hy
    simp only [Bool.and_eq_true,Bool.or_eq_true,bne_iff_ne,beq_iff_eq] at this
    exact this.2.resolve_left fun z => z e
  · have hk : k < fr.length := (List.getElem?_eq_some_iff.mp e).1
    have hj : k < js.length := by omega
    have hm : (x,js[k]) ∈ fr.zip js := by
      refine List.mem_of_getElem? (i := k) ?_
      rw [List.getElem?_zip_eq_some]
      exact ⟨e,by simp [hj]⟩
    have := h3 _ hm
    simp only [Bool.and_eq_true,beq_iff_eq] at this
    exact ⟨this.1,js[k],by simp [hj],this.2⟩
def upS (n : Nat) (js : List Nat) (σ : St) : St := List.replicate n none ++ js.map fun j => (σ[j]?).join
def tLC (wi : TI) (n : Nat) (js : List Nat) (g : TG) (tf : TT) (te : TE) : TE := fun σ H Q => wi σ H fun J H1 =>
  ∃ W : Nat -> Nat -> List V -> Hp -> Prop,(∃ m,W 0 m [] H1) /\ ∀ i m ys H2,W i m ys H2 ->
    (J.stop i H2 /\ ys.length <= sizeLine /\ ∀ D,H2 D = none -> Q (.ref D) (upd H2 D (.lst ys))) \/
    (J.go i H2 /\ ∃ N : List V -> Hp -> Prop,(∀ zs H',N zs H' -> ∃ m',m' < m /\ W (i + 1) m' zs H') /\ ∀ x H3,J.yld i H2 x H3 -> g x (upS n js σ) H3 fun σ4 H4 => σ4.drop n = (upS n js σ).drop n /\ tf σ4 H4 fun b H5 =>
      if b = true then te σ4 H5 fun y H6 => ys.length < sizeLine /\ N (ys ++ [y]) H6 else N ys H5)
end L2
set_option Elab.async false
set_option linter.all false
set_option maxRecDepth 100000
set_option maxHeartbeats 4000000
namespace L2
open PySem PySem.Spec PyProof.Rows
theorem vJ {env : Env} {x : Str} {k' : NameKind} : ∀ {names : List (Str × NameKind)},(names.map fun (n,k) => if (k == NameKind.free && env.scope.kind == .function && env.kindOf n == some .cell) then (n,NameKind.cell) else (n,k)).lookup x = some k' ->
    ∃ k,names.lookup x = some k /\ (k' = k \/ (k = .free /\ k' = .cell))
  | [],h => by simp at h
  | (n,k) :: r,h => by
    by_cases hx : (x == n) = true
    · refine ⟨k,by simp [List.lookup_cons,hx],?_⟩
      have h : List.lookup x ((if (k == NameKind.free && env.scope.kind == .function && env.kindOf n == some .cell) = true then (n,NameKind.cell) else (n,k)) :: _) = some k' := h
      by_cases hc : (k == NameKind.free && env.scope.kind == .function && env.kindOf n == some .cell) = true
      · rw [if_pos hc,List.lookup_cons,hx] at h
        simp only [Bool.and_eq_true,beq_iff_eq] at hc
        exact .inr ⟨hc.1.1,(Option.some.inj h).symm⟩
      · rw [if_neg hc,List.lookup_cons,hx] at h
        exact .inl (Option.some.inj h).symm
    · have hx' : (x == n) = false := by simpa using hx
      have h : List.lookup x ((if (k == NameKind.free && env.scope.kind == .function && env.kindOf n == some .cell) = true then (n,NameKind.cell) else (n,k)) :: _) = some k' := h
      have h2 : (r.map fun (n,k) => if (k == NameKind.free && env.scope.kind == .function && env.kindOf n == some .cell) then (n,NameKind.cell) else (n,k)).lookup x = some k' := by
        by_cases hc : (k == NameKind.free && env.scope.kind == .function && env.kindOf n == some .cell) = true
        · rw [if_pos hc,List.lookup_cons,hx'] at h;exact h
        · rw [if_neg hc,List.lookup_cons,hx'] at h;exact h
      obtain ⟨k0,e,z⟩ := vJ h2
      exact ⟨k0,by rw [List.lookup_cons,hx'];exact e,z⟩
theorem vK {env : Env} {x : Str} : ∀ {names : List (Str × NameKind)},names.lookup x = some .free -> ∃ k',(names.map fun (n,k) => if (k == NameKind.free && env.scope.kind == .function && env.kindOf n == some .cell) then (n,NameKind.cell) else (n,k)).lookup x = some k' /\ (k' = .cell \/ k' = .free)
  | [],h => by simp at h
  | (n,k) :: r,h => by
    by_cases hx : (x == n) = true
    · rw [List.lookup_cons,hx] at h
      cases (Option.some.inj h)
      show ∃ k',List.lookup x ((if (NameKind.free == NameKind.free && env.scope.kind == .function && env.kindOf n == some .cell) = true then (n,NameKind.cell) else (n,NameKind.free)) :: _) = some k' /\ _
      by_cases hc : (NameKind.free == NameKind.free && env.scope.kind == .function && env.kindOf n == some .cell) = true
      · rw [if_pos hc];exact ⟨.cell,by simp [List.lookup_cons,hx],.inl rfl⟩
      · rw [if_neg hc];exact ⟨.free,by simp [List.lookup_cons,hx],.inr rfl⟩
    · have hx' : (x == n) = false := by simpa using hx
      rw [List.lookup_cons,hx'] at h
      obtain ⟨k',e,z⟩ := vK (env := env) (names := r) h
      refine ⟨k',?_,z⟩
      show List.lookup x ((if (k == NameKind.free && env.scope.kind == .function && env.kindOf n == some .cell) = true then (n,NameKind.cell) else (n,k)) :: _) = some k'
      by_cases hc : (k == NameKind.free && env.scope.kind == .function && env.kindOf n == some .cell) = true
      · rw [if_pos hc,List.lookup_cons,hx'];exact e
      · rw [if_neg hc,List.lookup_cons,hx'];exact e
theorem z9 {cs : List (Str × Addr)} {names : List (Str × NameKind)} {x : Str} {c : Addr} (h : (qF cs names []).lookup x = some c) (hf : ∀ y ∈ names,y.2 = NameKind.free -> ∃ c,cs.lookup y.1 = some c) : cs.lookup x = some c := by
  rw [jL] at h
  by_cases hr : (names.any fun y => y.2 == NameKind.free && x == y.1) = true
  · rw [if_pos hr] at h
    obtain ⟨y,hy,e⟩ := List.any_eq_true.mp hr
    simp only [Bool.and_eq_true,beq_iff_eq] at e
    obtain ⟨c',e'⟩ := hf y hy e.1
    rw [<- e.2] at e'
    rw [e'] at h ⊢
    exact h
  · rw [if_neg hr] at h
    cases h
theorem wL {cs : List (Str × Addr)} {names : List (Str × NameKind)} {x : Str} (h : names.lookup x = some .free) : (qF cs names []).lookup x = some ((cs.lookup x).getD 0) := by
  rw [jL,if_pos]
  exact List.any_eq_true.mpr ⟨(x,.free),PySem.mem_of_lookup h,by simp⟩
theorem jS {n : Nat} {js : List Nat} {σ : St} {i : Nat} {v : V} (h : (upS n js σ)[i]? = some (some v)) : n <= i /\ ((upS n js σ).drop n)[i - n]? = some (some v) /\ ∃ j : Nat,js[i - n]? = some j /\ σ[j]? = some (some v) := by
  unfold upS at h ⊢
  by_cases hi : i < n
  · rw [List.getElem?_append_left (by simpa using hi),List.getElem?_replicate] at h
    split at h <;> cases h
  · have e : (List.replicate n (none : Option V) ++ js.map fun j => (σ[j]?).join).drop n = js.map fun j => (σ[j]?).join := by
      rw [List.drop_append_of_le_length (by simp)];simp
    rw [List.getElem?_append_right (by simpa using hi),List.length_replicate] at h
    refine ⟨by omega,by rw [e];exact h,?_⟩
    rw [List.getElem?_map] at h
    cases ej : js[i - n]? with
    | none => rw [ej] at h;cases h
    | some j =>
      rw [ej] at h
      have h : (σ[j]?).join = some v := Option.some.inj h
      refine ⟨j,rfl,?_⟩
      cases eo : σ[j]? with
      | none => rw [eo] at h;cases h
      | some o => rw [eo] at h;exact congrArg some h
theorem XE {n : Nat} {js : List Nat} {σ : St} : (upS n js σ).length = n + js.length := by unfold upS;simp
section
variable {X : Cx} {elt tg iter : Expr} {ifs : List Expr} {scope : Scope} {pos : Pos} {wi : TI} {g : TG} {tf : TT} {te : TE}
theorem xY {pins : List (Addr × Obj)} {σ : St} {H : Hp} {s : Shared} {fp : List Addr} (own fr : List Str) (js : List Nat) (I : Inv X pins σ H s) (B : VE scope.names X.env.scope.names X.N fr js) (hk : scope.kind = .function)
    (f2 : ∀ b ∈ fp,jw X pins H b) (fl : ∀ b ∈ fp,b < s.heap.objs.size) {D C : Addr} (hD : D = s.heap.objs.size) {h3 h1 : Heap} (e3 : h3 = s.heap.push { cls := .type "list",dict := none,data := .seq ([] : List Value).toArray }) (hC : C = h3.objs.size)
    {m : Str -> Option Value} (hns : h1.Ns C m) (k4 : ∀ b o,h3.get? b = some o -> h1.get? b = some o) {t4 : Nat} :
    Inv (zu X (own ++ fr) scope C { s with heap := h3 } H (D :: fp)) [] (upS own.length js σ) H { s with heap := h1,toks := t4 } := by
  have k3 : ∀ b o,s.heap.get? b = some o -> h3.get? b = some o := fun b o e => by rw [e3];exact Heap.get?_push_of_some _ e
  have I3 : Inv X pins σ H { s with heap := h3 } := I.kept (t' := s.toks) k3
  have hz : h3.objs.size = s.heap.objs.size + 1 := by rw [e3,Heap.size_push]
  have hasF : ∀ y ∈ scope.names,y.2 = NameKind.free -> ∃ c,X.env.cells.lookup y.1 = some c := fun y hy e => I.ok.has y.1 (B.free y hy e)
  have cellLt : ∀ x c,X.env.cells.lookup x = some c -> c < s.heap.objs.size := fun x c e => by
    obtain ⟨v,q⟩ := I.cell x c e
    exact q.lt
  refine ⟨⟨I.ok.mod,hk,I.ok.glob,I.ok.blt,Nat.le_of_eq hC.symm,fun x y c e1 e2 => ?_,fun x hx => ?_,fun x c hf => (nomatch hf),fun hc => I.ok.hd hc,I.ok.frames,.inl rfl,fun b hb => ?_,I3.bs,Nat.le_trans I.ok.bsz I3.sz,fun b o e hb => ?_,fun b hb hf => ?_,I3.stack,I3.stkFree⟩,
    rfl,I.bare,Un.kept k4,⟨m,hns,fun i x v e1 e2 e3' => ?_⟩,fun x c e => ?_,?_,fun x c e => ?_,fun p hp => absurd (show p ∈ ([] : List (Addr × Obj)) from hp) (by simp),I3.hok.kept k4,?_⟩
  · exact I.ok.inj x y c (z9 e1 hasF) (z9 e2 hasF)
  · obtain ⟨k,e,z⟩ : ∃ k,scope.names.lookup x = some k /\ (k = .free) := by
      rcases hx with hx | hx
      · obtain ⟨k,e,z⟩ := vJ hx
        rcases z with z | z
        · subst z;exact absurd rfl (B.cell _ (PySem.mem_of_lookup e))
        · exact ⟨k,e,z.1⟩
      · obtain ⟨k,e,z⟩ := vJ hx
        rcases z with z | z
        · subst z;exact ⟨_,e,rfl⟩
        · exact ⟨k,e,z.1⟩
    subst z
    exact ⟨_,wL e⟩
  · rcases List.mem_cons.mp hb with z | hb
    · subst z
      refine ⟨by rw [hD,hC,hz];exact Nat.ne_of_lt (Nat.lt_succ_self _),fun x c e => ?_⟩
      have := cellLt x c (z9 e hasF)
      rw [hD];exact Nat.ne_of_lt this
    · refine ⟨by rw [hC,hz];exact Nat.ne_of_lt (Nat.lt_succ_of_lt (fl b hb)),fun x c e => ?_⟩
      exact (f2 b hb).2.2.2.2.1 x c (z9 e hasF)
  · rcases List.mem_cons.mp hb with z | hb
    · have := Heap.lt_size (I.bk b o e)
      rw [z,hD] at this
      exact Nat.lt_irrefl _ this
    · rcases (f2 b hb).2.2.2.1 with z | z
      · exact I.ok.noex b o e z
      · exact absurd (Nat.lt_of_lt_of_le (Heap.lt_size (I.ok.bs b o e).1) z) (Nat.lt_irrefl _)
  · have hf' := List.mem_cons.mp (I.stkSub b hf)
    rcases List.mem_cons.mp hb with z | hb
    · rcases hf' with y | y
      · have := I.lt
        rw [<- y,z,hD] at this
        exact Nat.lt_irrefl _ this
      · exact I.nofs (a := b) (by rw [z,hD];exact Nat.le_refl _) y
    · rcases hf' with y | y
      · exact (f2 b hb).2.1 y
      · exact (f2 b hb).2.2.1 y
  · obtain ⟨hn,_,j,ej,es⟩ := jS e2
    have ex : fr[i - own.length]? = some x := by rw [List.getElem?_append_right hn] at e1;exact e1
    obtain ⟨hfx,j',ej',eN⟩ := B.fr _ x ex
    have : j' = j := by rw [ej] at ej';exact (Option.some.inj ej').symm
    subst this
    have hkx := B.free _ (PySem.mem_of_lookup hfx) rfl
    obtain ⟨m0,_,hl⟩ := I.loc
    obtain ⟨u,r,l⟩ := hl j' x v eN es (by rcases hkx with z | z;exact .inr (.inl z);exact .inr (.inr z))
    refine ⟨u,r,.inr ?_⟩
    rcases l with ⟨kl,_⟩ | ⟨_,c,ec,o,eo,ed⟩
    · have kl' : X.env.scope.names.lookup x = some .local := kl
      rcases hkx with z | z
      · exact absurd (z.symm.trans kl') (by decide)
      · exact absurd (z.symm.trans kl') (by decide)
    · obtain ⟨k',e',z⟩ := vK (env := X.env) hfx
      have eq : (qF X.env.cells scope.names []).lookup x = some c := by rw [wL hfx,ec];rfl
      refine ⟨?_,c,eq,o,k4 c o (k3 c o eo),ed⟩
      rcases z with z | z
      · subst z;exact .inl e'
      · subst z;exact .inr e'
  · obtain ⟨v,o,eo,ed⟩ := I.cell x c (z9 e hasF)
    exact ⟨v,o,k4 c o (k3 c o eo),ed⟩
  · exact I3.hok.fresh (Nat.le_of_eq hC.symm)
  · exact I.freeC x c (z9 e hasF)
  · rw [XE,<- B.len]
    show _ = (own ++ fr).length
    rw [List.length_append]
theorem Vy (own fr : List Str) (js : List Nat) (hc : X.calm = true) (hk : scope.kind = .function) (hb : vU scope.names X.env.scope.names X.N fr js = true) (hi : PI X tg iter wi)
    (hg : ∀ C s H ex,PG (zu X (own ++ fr) scope C s H ex) tg g) (hf : ∀ C s H ex,PF (zu X (own ++ fr) scope C s H ex) ifs tf) (he : ∀ C s H ex,PE (zu X (own ++ fr) scope C s H ex) elt te)
    (hs : ∀ x,foldedSetIterable iter X.env x = pure x := by intro _;rfl) : PE X (.ListComp elt [⟨tg,iter,ifs,0⟩] scope pos) (tLC wi own.length js g tf te) := by
  intro pins s σ H Q I h
  have B := vT hb
  have hasF : ∀ y ∈ scope.names,y.2 = NameKind.free -> ∃ c,X.env.cells.lookup y.1 = some c := fun y hy e => I.ok.has y.1 (B.free y hy e)
  rw [eval_ListComp]
  refine wpAny_comprehension_free (use := none) rfl hs (yo hasF) hk (fun y hy e => B.loc y hy e) (thn (hi pins s σ H _ I h) fun v s1 h1 => thn h1 fun itv s2 h2 => ?_)
  obtain ⟨it,fp,tn,J,H2,e,I2,T,st2,f2,W,⟨m0,w0⟩,turn⟩ := h2
  subst e
  have fl : ∀ b ∈ fp,b < s2.heap.objs.size := fun b hb => let ⟨o,e,_⟩ := T.obj _ _ st2 b hb;Heap.lt_size e
  refine wpAny_newObj_type (wpAny_newFunctionEnv B.cell (by intro y hy;simp at hy) (fun h1 hns hsb => ?_) hk)
  dsimp only at hns hsb ⊢
  generalize e3 : s2.heap.push { cls := .type "list",dict := none,data := .seq ([] : List Value).toArray } = h3 at hns hsb ⊢
  have k3 : ∀ b o,s2.heap.get? b = some o -> h3.get? b = some o := fun b o e => by rw [<- e3];exact Heap.get?_push_of_some _ e
  have k4 : ∀ b o,h3.get? b = some o -> h1.get? b = some o := fun b o e => hsb.extBut b o (Nat.ne_of_lt (Heap.lt_size e)) (Heap.get?_push_of_some _ e)
  have I4 : Inv (zu X (own ++ fr) scope h3.objs.size { s2 with heap := h3 } H2 (s2.heap.objs.size :: fp)) [] (upS own.length js σ) H2 { s2 with heap := h1,toks := s2.toks + ([] : List (Str × Value)).length } :=
    xY own fr js I2 B hk f2 fl rfl e3.symm rfl hns k4
  have I3 : Inv X pins σ H2 { s2 with heap := h3 } := I2.kept (t' := s2.toks) k3
  have hz : h3.objs.size = s2.heap.objs.size + 1 := by rw [<- e3,Heap.size_push]
  have hDl : s2.heap.objs.size ≠ h3.objs.size := by rw [hz];exact Nat.ne_of_lt (Nat.lt_succ_self _)
  have hacc : h1.get? s2.heap.objs.size = some { cls := .type "list",data := .seq ([] : List Value).toArray } := k4 _ _ (by rw [<- e3];exact Heap.get?_push_size _ rfl)
  generalize eD : s2.heap.objs.size = D at *
  generalize eC : h3.objs.size = C at *
  have fD : ∀ b ∈ fp,D ≠ b := fun b hb => Nat.ne_of_gt (fl b hb)
  have hx : ∀ x c,(qF X.env.cells scope.names []).lookup x = some c -> c ≠ D := fun x c e => by
    obtain ⟨v,q⟩ := I2.cell x c (z9 e hasF)
    rw [<- eD];exact Nat.ne_of_lt q.lt
  have hx2 : ∀ b ∈ fp,∀ x c,(qF X.env.cells scope.names []).lookup x = some c -> c ≠ b := fun b hb x c e => (f2 b hb).2.2.2.2.1 x c (z9 e hasF)
  have nfs : ∀ b ∈ D :: fp,b ∉ frs X.stack := I4.ok.exfs
  have fpB : ∀ {pins' : List (Addr × Obj)} {H' : Hp} {b : Addr},b ∈ fp -> H' b = none -> (∀ p ∈ pins',p.1 ≠ b) -> jw (zu X (own ++ fr) scope C { s2 with heap := h3 } H2 (D :: fp)) pins' H' b := fun {pins' H' b} hb hn hp =>
    ⟨hn,(I4.ok.exf b (List.mem_cons_of_mem _ hb)).1,nfs b (List.mem_cons_of_mem _ hb),.inl (List.mem_cons_of_mem _ hb),fun x c e => hx2 b hb x c e,fun p h => hp p (by simpa using h)⟩
  have fpD : ∀ {pins' : List (Addr × Obj)} {H' : Hp},H' D = none -> (∀ p ∈ pins',p.1 ≠ D) -> jw (zu X (own ++ fr) scope C { s2 with heap := h3 } H2 (D :: fp)) pins' H' D := fun {pins' H'} hn hp =>
    ⟨hn,hDl,nfs D List.mem_cons_self,.inl List.mem_cons_self,fun x c e => hx x c e,fun p h => hp p (by simpa using h)⟩
  have loop : ∀ s4 : Shared,s4 = { s2 with heap := h1,toks := s2.toks + ([] : List (Str × Value)).length } ->
      codeAny (model X.prog X.w) X.A (.compLoop (.ListComp elt [⟨tg,iter,ifs,0⟩] scope pos) 0 (.ref it) (.ref D) (compEnvC scope (qF X.env.cells scope.names []) C X.env))
        (compPost (model X.prog X.w) X.A X.xe none (EP X pins σ Q) (.ref D) C) s4 := by
    intro s4 e4
    refine Ze (fun n s' => ∃ i ys its H',∃ z : Nat,Inv (zu X (own ++ fr) scope C { s2 with heap := h3 } H2 (D :: fp)) [] (upS own.length js σ) H' s' /\ tn i s'.heap /\ (∀ b ∈ fp,H' b = none) /\ H' D = none /\
      s'.heap.get? D = some { cls := .type "list",data := .seq (its : List Value).toArray z } /\ Vals ys its /\ W i n ys H') ?_ m0 ?_
    · rintro n s5 ⟨i,ys,its,H5,z5,I5,st5,fr5,hD5,ho5,rv5,w5⟩
      have I5' := I5.pinned (fp := [D]) (fun b hb => by rw [List.mem_singleton.mp hb];exact fpD hD5 (fun p hp => absurd hp (by simp))) (fun b hb => by
        rw [List.mem_singleton.mp hb];exact ⟨_,ho5,fun v q => nomatch q⟩)
      have pD : ∀ p ∈ [] ++ zD [D] s5.heap,p.1 = D := fun p hp => by
        rw [List.nil_append] at hp
        exact List.mem_singleton.mp (jj hp).1
      have mD : (D,({ cls := .type "list",data := .seq its.toArray z5 } : Obj)) ∈ [] ++ zD [D] s5.heap := by
        rw [List.nil_append];exact zS (List.mem_singleton.mpr rfl) ho5
      have fp5 : ∀ {H' : Hp},(∀ b ∈ fp,H' b = none) -> ∀ b ∈ fp,jw (zu X (own ++ fr) scope C { s2 with heap := h3 } H2 (D :: fp)) ([] ++ zD [D] s5.heap) H' b := fun hn b hb => fpB hb (hn b hb) fun p hp => by
        rw [pD p hp];exact fD b hb
      rcases turn i n ys H5 w5 with ⟨stop,hlen,q⟩ | ⟨go,N,hN,step⟩
      · refine thn (T.done (zu X (own ++ fr) scope C { s2 with heap := h3 } H2 (D :: fp)) rfl rfl rfl hc i _ s5 _ H5 _ I5' (fp5 fr5) st5 stop) fun r s6 ⟨hr,I6⟩ => ?_
        subst hr
        obtain ⟨m6,hn6,_⟩ := I6.loc
        refine ⟨m6,hn6,fun h7 hs7 => ?_⟩
        obtain ⟨o6,nD6,_⟩ := I6.pin (D,_) (List.mem_append_right _ mD)
        have k7 : ∀ b o,b ≠ C -> s6.heap.get? b = some o -> h7.get? b = some o := fun b o hb e => hs7.extBut b o hb e
        refine ⟨.ref D,upd H5 D (.lst ys),?_,rfl,q D nD6⟩
        refine I3.call' (s' := { s6 with heap := h7 }) (ch := D :: fp) I6.os (xz (Zj I6.base (Nat.le_of_eq eC) k7) List.mem_cons_self (I2.hok.fresh ?_)) (xg (yk I6.hok I6.free k7) nD6 ⟨hlen,its,z5,rv5,k7 D _ hDl o6⟩) I6.bare fun b hb => ?_
        · rw [<- eD];exact Nat.le_refl _
        · rcases List.mem_cons.mp hb with y | hb
          · subst y
            refine ⟨.inr (by rw [<- eD];exact I2.sz),by rw [<- eD];exact Nat.ne_of_gt I2.lt,fun x c e => ?_,fun p hp => ?_⟩
            · obtain ⟨v,q⟩ := I2.cell x c e
              rw [<- eD];exact Nat.ne_of_lt q.lt
            · rw [<- eD];exact Nat.ne_of_lt (Heap.lt_size (I2.pin p hp).1)
          · obtain ⟨_,g1,_,g3,g4,g5⟩ := f2 b hb
            exact ⟨g3,g1,g4,g5⟩
      · refine thn (T.item (zu X (own ++ fr) scope C { s2 with heap := h3 } H2 (D :: fp)) rfl rfl rfl hc i _ s5 _ H5 _ I5' (fp5 fr5) st5 go) fun r s6 ⟨u,hr,h6⟩ => ?_
        subst hr
        refine thn h6 fun _ s7 ⟨x,H7,I7,r7,y7,st7,fr7⟩ => ?_
        have I7' := I7.pinned (fp5 fr7) (T.obj _ _ st7)
        refine thn (hg _ _ _ _ _ s7 _ H7 x u _ I7' r7 (step x H7 y7)) fun _ s8 ⟨σ8,H8,I8,hd8,q8⟩ => ?_
        refine thn (hf _ _ _ _ _ s8 σ8 H8 _ I8 q8) fun ok s9 ⟨H9,I9,q9⟩ => ?_
        have weak : ∀ {H' : Hp} {s' : Shared},Inv (zu X (own ++ fr) scope C { s2 with heap := h3 } H2 (D :: fp)) (([] ++ zD [D] s5.heap) ++ zD fp s7.heap) σ8 H' s' ->
            Inv (zu X (own ++ fr) scope C { s2 with heap := h3 } H2 (D :: fp)) [] (upS own.length js σ) H' s' := fun {H' s'} J => by
          refine (J.unpinned).unpinned.weak (I5.len.trans J.len.symm) fun k v e => ?_
          obtain ⟨hn,e1,_⟩ := jS e
          rw [<- hd8,List.getElem?_drop] at e1
          rw [<- e1]
          congr 1
          omega
        have mF : ∀ b ∈ fp,∀ o,s7.heap.get? b = some o -> (b,o) ∈ ([] ++ zD [D] s5.heap) ++ zD fp s7.heap := fun b hb o e => List.mem_append_right _ (zS hb e)
        have mD' := List.mem_append_left (zD fp s7.heap) mD
        have frB : ∀ {H' : Hp} {s' : Shared},Inv (zu X (own ++ fr) scope C { s2 with heap := h3 } H2 (D :: fp)) (([] ++ zD [D] s5.heap) ++ zD fp s7.heap) σ8 H' s' -> ∀ b ∈ fp,H' b = none := fun {H' s'} J b hb => by
          obtain ⟨o,e,_⟩ := T.obj _ _ st7 b hb
          exact (J.pin (b,o) (List.mem_append_right _ (mF b hb o e))).2.1
        cases ok with
        | false =>
          have q9' : N ys H9 := by simpa using q9
          obtain ⟨m',hm,w'⟩ := hN _ _ q9'
          obtain ⟨o9,nD9,_⟩ := I9.pin (D,_) (List.mem_append_right _ mD')
          exact ⟨m',hm,i + 1,ys,its,H9,z5,weak I9,T.keep _ _ _ st7 fun b hb o e => (I9.pin (b,o) (List.mem_append_right _ (mF b hb o e))).1,frB I9,nD9,o9,rv5,w'⟩
        | true =>
          have q9' : te σ8 H9 fun y H6 => ys.length < sizeLine /\ N (ys ++ [y]) H6 := by simpa using q9
          refine thn (he _ _ _ _ _ s9 σ8 H9 _ I9 q9') fun yv s10 ⟨y,H10,I10,r10,hlt,w10⟩ => ?_
          obtain ⟨m',hm,w'⟩ := hN _ _ w10
          obtain ⟨o10,nD10,_⟩ := I10.pin (D,_) (List.mem_append_right _ mD')
          refine wpAny_list_append_plain (l := D) (items := its.toArray) (hsz := by rw [List.size_toArray,<- rv5.length];exact Nat.le_of_lt hlt) ⟨_,o10⟩ fun h11 hl11 hs11 => ?_
          obtain ⟨z11,e11⟩ := hl11
          refine ⟨m',hm,i + 1,ys ++ [y],its ++ [yv],H10,z11,?_,T.keep _ _ _ st7 fun b hb o e => hs11.extBut b o (Ne.symm (fD b hb)) (I10.pin (b,o) (List.mem_append_right _ (mF b hb o e))).1,frB I10,nD10,?_,rv5.append (.cons r10 .nil),w'⟩
          · exact (weak I10).turned (t' := s10.toks) (it := D) (fun b o hb e => hs11.extBut b o hb e) nD10 hDl (.inl List.mem_cons_self) (fun x c e => hx x c e) fun p hp => absurd (show p ∈ ([] : List (Addr × Obj)) from hp) (by simp)
          · rw [e11];simp
    · subst e4
      exact ⟨0,[],[],H2,0,I4,T.keep _ _ _ st2 fun b hb o e => k4 b o (k3 b o e),fun b hb => (f2 b hb).1,I2.hok.fresh (by rw [<- eD];exact Nat.le_refl _),hacc,.nil,w0⟩
  exact codeAny_compStart_list (loop _ rfl) (T.self X.A 0 _ _ _ (T.keep _ _ _ st2 fun b hb o e => k4 b o (k3 b o e)) (loop _ rfl))
end
end L2
set_option Elab.async false
set_option linter.all false
set_option maxRecDepth 100000
set_option maxHeartbeats 4000000
namespace L2
open PySem PySem.Spec PyProof.Rows
section
variable {X : Cx} {pins : List (Addr × Obj)} {σ : St} {H : Hp} {s : Shared}
theorem yi {ch : List Addr} {h' : Heap} {t' : Nat} {T : Addr} {ys : List V} {its : List Value} (I : Inv X pins σ H s) (hf : ∀ b ∈ ch,jw X pins H b) (hT : s.heap.objs.size <= T)
    (k : ∀ b o,b ∉ ch -> s.heap.get? b = some o -> h'.get? b = some o) (hl : ys.length <= sizeLine) (rv : Vals ys its) (ht : TupX h' T its.toArray) :
    Inv X pins σ (upd H T (.tup ys)) { s with heap := h',toks := t' } := by
  have hn : H T = none := I.hok.fresh hT
  have ne : ∀ b o,s.heap.get? b = some o -> b ≠ T := fun b o e => Nat.ne_of_lt (Nat.lt_of_lt_of_le (Heap.lt_size e) hT)
  have tr : ∀ b u,H b = some u -> b ∉ ch := fun b u e hb => by rw [(hf b hb).1] at e;cases e
  refine I.step (g' := s.gens) (d' := s.drawn) (ch := ch) (fun b hb => ?_) (fun b o _ _ hc e _ => k b o hc e) (fun b o _ _ hc e _ => ⟨o.slots,k b o hc e⟩) (fun b o _ e n => by rw [zq (ne b o e)];exact n) (fun b o hc e => ⟨o,k b o hc e⟩)
    (fun b xs e => by rw [zq (zn e hn)];exact e) (fun b o u e => by rw [zq (zn e hn)];exact e) (fun b ps e => ⟨#[],by rw [zq (zn e hn),e];simp⟩) (fun m hm => ?_) (fun b u e => ?_) I.bare
  · obtain ⟨_,g1,_,g3,g4,g5⟩ := hf b hb
    exact ⟨g3,g1,g4,g5⟩
  · obtain ⟨o,es,ep,ho,r⟩ := hm
    exact ⟨o,es,ep,k _ o (fun z => (hf _ z).2.1 rfl) ho,r⟩
  · by_cases hb : b = T
    · subst hb
      rw [zd] at e
      cases e
      exact ⟨hl,its,rv,ht⟩
    · rw [zq hb] at e
      refine (I.hok b u e).stay (fun c v hc q => k c v ?_ q) (fun c q => by rw [zq (zn q hn)];exact q) fun c xs q => by rw [zq (zn q hn)];exact q
      rcases hc with z | z
      · rw [z];exact tr b u e
      · exact tr c _ z
end
def Ite (K : PySem.W.Frag) (a : Addr) : It :=
  ⟨fun i H => ∃ xs x,SqL K H a xs /\ xs[i]? = some x,fun i H x H' => ∃ T y,x = .ref T /\ H T = none /\ H' = upd H T (.tup [.int i,y]) /\ ∀ xs,SqL K H a xs -> xs[i]? = some y,fun i H => ∃ xs,SqL K H a xs /\ xs.length <= i⟩
theorem QV {P : Program} {w : World} {K : PySem.W.Frag} {elts : List Expr} {kk : Nat} {pos : Pos} (a e it : Addr) (hne : e ≠ it) :
    Zg P w K (.Tuple elts kk pos) (Ite K a) [e,it] e (fun i h => (∃ old,IsEnum h e it i old) /\ h.IsListIter it a i) where
  mem := by simp
  obj := fun i h st b hb => by
    obtain ⟨⟨old,he⟩,⟨o,ho,c,d⟩⟩ := st
    rcases List.mem_cons.mp hb with z | z
    · subst z;exact ⟨_,he,fun v q => nomatch q⟩
    · rw [List.mem_singleton.mp z];exact ⟨o,ho,fun v q => by rw [d] at q;cases q⟩
  keep := fun i h h' st k => by
    obtain ⟨⟨old,he⟩,hi⟩ := st
    exact ⟨⟨old,k e (by simp) _ he⟩,hi.at fun o q => k it (by simp) o q⟩
  item := by
    intro X hP hw hK hc i pins s σ H E I hf st hg
    subst hP hw hK
    obtain ⟨⟨old,he⟩,hit⟩ := st
    obtain ⟨xs,x,hq,hx⟩ := hg
    obtain ⟨its,rv,p,hz⟩ := I.list hq
    obtain ⟨u,hu,ru⟩ := rv.get hx
    have hl := p.isList
    have hai : a ≠ it := fun z => by
      obtain ⟨o,e1,c1,_⟩ := hl
      obtain ⟨o',e2,c2,_⟩ := hit
      rw [z,e2] at e1;cases e1;rw [c2] at c1;exact absurd (Value.type.inj c1) (by decide)
    have hae : e ≠ a := fun z => by
      obtain ⟨o,e1,c1,_⟩ := hl
      rw [<- z,he] at e1;cases e1;exact absurd (Value.type.inj c1) (by decide)
    have D := Draws.list (prog := X.prog) (w := X.w) (A := X.A.in1) (I.ok.hd hc) it a hai its.toArray
    have hi : i < its.toArray.size := by
      have h1 := (List.getElem?_eq_some_iff.mp hu).1
      simpa using h1
    refine wpAny_pyNext_enum_itemD D he ⟨hit,hl⟩ hi hne (by simp [hne,hae]) fun x' h' tk hP' hout hst' hT hsz hk => ?_
    have ex : x' = u := by
      have h2 : its[i]? = some x' := by simpa using hP'
      rw [hu] at h2;exact (Option.some.inj h2).symm
    subst ex
    refine ⟨_,rfl,wpAny_letOwnedTupleGo_enum hout fun h2 he2 hs2 => ?_⟩
    have eT : s.heap.objs.size ≠ e := Nat.ne_of_gt (Heap.lt_size he)
    have k2 : ∀ b o,b ∉ [e,it] -> s.heap.get? b = some o -> h2.get? b = some o := fun b o hb q => by
      have n1 : b ≠ e := fun z => hb (by simp [z])
      have n2 : b ≠ it := fun z => hb (by simp [z])
      exact (hs2.2 b n1).trans (hk b o n1 n2 q)
    have it2 : h2.IsListIter it a (i + 1) := hst'.1.extBut hs2.extBut (Ne.symm hne)
    refine ⟨.ref s.heap.objs.size,upd H s.heap.objs.size (.tup [.int i,x]),?_,rfl,⟨_,x,rfl,I.hok.fresh (Nat.le_refl _),rfl,fun ys hy => by rw [I.list_inj hy hq];exact hx⟩,⟨⟨_,by simpa using he2⟩,it2⟩,fun b hb => ?_⟩
    · refine yi (s := s) (h' := h2) (t' := tk + 1) (its := [.int i tk,x']) I hf (Nat.le_refl _) k2 (by rw [sizeLine_eq];exact (by decide : 2 <= 16777216)) (.cons ⟨tk,rfl⟩ (.cons ru .nil)) (TupX.by ((hs2.2 _ eT).trans hT))
    · have hb' : b < s.heap.objs.size := by
        rcases List.mem_cons.mp hb with z | z
        · rw [z];exact Heap.lt_size he
        · rw [List.mem_singleton.mp z]
          obtain ⟨o',e',_⟩ := hit
          exact Heap.lt_size e'
      rw [zq (Nat.ne_of_lt hb')]
      exact (hf b hb).1
  done := by
    intro X hP hw hK hc i pins s σ H E I hf st hg
    subst hP hw hK
    obtain ⟨⟨old,he⟩,hit⟩ := st
    obtain ⟨xs,hq,hx⟩ := hg
    obtain ⟨its,rv,p,hz⟩ := I.list hq
    have hl := p.isList
    have hai : a ≠ it := fun z => by
      obtain ⟨o,e1,c1,_⟩ := hl
      obtain ⟨o',e2,c2,_⟩ := hit
      rw [z,e2] at e1;cases e1;rw [c2] at c1;exact absurd (Value.type.inj c1) (by decide)
    obtain ⟨f0,f1,f2,f3,f4,f5⟩ := hf it (by simp)
    have hle : its.toArray.size <= i := by
      have := rv.length
      simp only [List.size_toArray];omega
    have hT : s.TypeIs (.ref e) "enumerate" := ⟨_,he,rfl⟩
    unfold pyNext
    refine wpAny_bind (wpAny_attempt (wpAny_callSpecial?_slot (name := Str.ofString "__next__") hT F.slot_enumerate_next (wpAny_call_entry F.slot_enumerate_next hT F.entry_enumerate_next ?_ (F.args_enumerate_next_1 _))))
    show wpAny _ _ (field (.ref e) 2 >>= _) _ _ _
    refine wpAny_bind (wpAny_field he rfl (x := .ref it) rfl (wpAny_bind (wpAny_nextOf_list_end (I.ok.hd hc) hit hl (by simpa using hle) fun h' x he' hx' => ?_)))
    obtain ⟨o,ho,hc'⟩ := hx'
    refine wpAny_bind (wpAny_isInstance (T := "StopIteration") (b := true) ⟨o,ho,hc'⟩ isSubtype_stop ?_)
    exact wpAny_pure ⟨rfl,I.turned (t' := s.toks) (fun b o hb q => he' b o hb q) f0 f1 f3 f4 f5⟩
  self := fun _ _ _ _ _ st h => let ⟨⟨_,he⟩,_⟩ := st;wpAny_pyIter_enum he h
section
variable {X : Cx}
def WN (K : PySem.W.Frag) (ta : TA) : TI := fun σ H R => ta σ H fun vs H1 => ∃ a,vs = [.ref a] /\ (∃ xs,SqL K H1 a xs) /\ R (Ite K a) H1
theorem XQ {l : Expr} {ta : TA} {p pos tp : Pos} {elts : List Expr} {kk : Nat} (hg : Gl X "enumerate") (hm : X.mg "enumerate" = none) (ha : PA X [l] ta) (hs : starEach [l] X.env = [(false,eval l X.env)] := by rfl) :
    PI X (.Tuple elts kk tp) (.Call (.Name "enumerate" p) [l] [] pos) (WN X.K ta) := by
  intro pins s σ H R I h
  refine Call_ (jK I hg hm boot_enumerate (PyProof.Rows.callWith_type1 (thn (ha pos pins s σ H _ I h) fun us s1 ⟨vs,H1,I1,r1,q1⟩ => ?_) hs rfl))
  obtain ⟨a,e,⟨xs,hq⟩,q⟩ := q1
  subst e
  obtain ⟨u,rfl,ru⟩ := jO r1
  cases ru
  obtain ⟨its,rv,pl,hz⟩ := I1.list hq
  refine call_enumerate_list pl.isList fun h' he hi hsz hk => wpAny_pyIter_enum he ?_
  have I2 : Inv X pins σ H1 { s1 with heap := h' } := I1.kept (t' := s1.toks) hk
  refine ⟨s1.heap.objs.size + 1,[s1.heap.objs.size + 1,s1.heap.objs.size],_,_,H1,rfl,I2,QV a _ _ (Nat.succ_ne_self _),⟨⟨_,he⟩,hi⟩,fun b hb => ?_,q⟩
  have hb' : s1.heap.objs.size <= b := by
    rcases List.mem_cons.mp hb with z | z
    · rw [z];exact Nat.le_succ _
    · rw [List.mem_singleton.mp z];exact Nat.le_refl _
  exact I1.fpOk hb' (I1.hok.fresh hb')
theorem Xp {K : PySem.W.Frag} {a : Addr} {xs : List V} {g : TG} {tb : TS} {D : wc} {σ : St} {H : Hp} (Pv : Nat -> St -> Hp -> Prop) (h0 : Pv 0 σ H) (hl : ∀ i σ H,i <= xs.length -> Pv i σ H -> SqL K H a xs)
    (hs : ∀ i x σ H T,xs[i]? = some x -> Pv i σ H -> H T = none -> g (.ref T) σ (upd H T (.tup [.int i,x])) fun σ2 H2 => tb { D with nx := Pv (i + 1),ct := Pv (i + 1),bk := D.nx } σ2 H2) (hd : ∀ σ H,Pv xs.length σ H -> D.nx σ H) :
    ∃ W : Nat -> Nat -> St -> Hp -> Prop,(∃ m,W 0 m σ H) /\ ∀ i m σ H,W i m σ H ->
      ((Ite K a).stop i H /\ D.nx σ H) \/ ((Ite K a).go i H /\ ∃ N : St -> Hp -> Prop,(∀ σ' H',N σ' H' -> ∃ m',m' < m /\ W (i + 1) m' σ' H') /\ ∀ x H',(Ite K a).yld i H x H' -> g x σ H' fun σ2 H2 => tb { D with nx := N,ct := N,bk := D.nx } σ2 H2) := by
  refine ⟨fun i m σ H => m = xs.length - i /\ i <= xs.length /\ Pv i σ H,⟨xs.length,by simp,Nat.zero_le _,h0⟩,?_⟩
  rintro i m σ H ⟨rfl,hi,p⟩
  have q := hl i σ H hi p
  by_cases hlt : i < xs.length
  · refine .inr ⟨⟨xs,xs[i],q,by simp [hlt]⟩,Pv (i + 1),fun σ' H' p' => ⟨xs.length - (i + 1),by omega,rfl,hlt,p'⟩,fun x H' y => ?_⟩
    obtain ⟨T,z,e1,hT,e2,y⟩ := y
    subst e1 e2
    exact hs i z σ H T (y xs q) p hT
  · have e : i = xs.length := by omega
    subst e
    exact .inl ⟨⟨xs,q,Nat.le_refl _⟩,hd σ H p⟩
end
section
variable {X : Cx}
inductive vg (K : PySem.W.Frag) (xs : List V) (H : Hp) (Q : VK) : Prop
  | mk (p : Addr) (bs : List Bool) (_ : xs = [.ref p]) (_ : SqL K H p (bs.map V.bl)) (_ : Q (.bl (bs.all id)) H) : vg K xs H Q
theorem jl (hc : X.calm = true) : CallR X (.builtin "all") (vg X.K) := by
  intro pins s σ H xs us Q I r h
  obtain ⟨p,bs,rfl,hq,q⟩ := h
  obtain ⟨u,rfl,ru⟩ := jO r
  cases ru
  obtain ⟨its,rv,pl,hz⟩ := I.list hq
  have hl := pl.isList
  have hpl : p ≠ s.heap.objs.size := by
    obtain ⟨o,e,_⟩ := hl
    exact Nat.ne_of_lt (Heap.lt_size e)
  refine call_all_walk (wpAny_pyIter_list hl ?_)
  refine ⟨s.heap.objs.size,_,_,_,_,_,fun i => bs.getD i true,rfl,Walks.list (prog := X.prog) (w := X.w) (A := X.A.in1) (I.ok.hd hc) _ p hpl its.toArray,⟨⟨_,Heap.get?_push_size _ rfl,rfl,rfl⟩,hl.push _⟩,?_,fun h' tk hk => ?_⟩
  · intro i v s' Q' E' hP hQ
    have hP : its.toArray[i]? = some v := hP
    have e1 : its[i]? = some v := by simpa using hP
    have hi : i < bs.length := by
      have h1 := (List.getElem?_eq_some_iff.mp e1).1
      have h2 := rv.length
      rw [List.length_map] at h2
      omega
    have e2 : (bs.map V.bl)[i]? = some (.bl bs[i]) := by simp [hi]
    obtain ⟨u',eu,ru⟩ := rv.get e2
    rw [e1] at eu
    cases eu
    cases ru
    have e3 : bs.getD i true = bs[i] := by simp [hi]
    have hQ2 : Q' (bs.getD i true) s' := hQ
    rw [e3] at hQ2
    exact wpAny_truthy_bool hQ2
  · have k : ∀ b o,s.heap.get? b = some o -> h'.get? b = some o := fun b o e => hk b o (by simp;exact Nat.ne_of_lt (Heap.lt_size e)) (Heap.get?_push_of_some _ e)
    have ea : (List.range its.toArray.size).all (fun i => bs.getD i true) = bs.all id := by
      have hlen : its.toArray.size = bs.length := by
        have := rv.length
        rw [List.length_map] at this
        simp only [List.size_toArray];omega
      rw [hlen,Bool.eq_iff_iff,List.all_eq_true,List.all_eq_true]
      constructor
      · intro h b hb
        obtain ⟨i,hi,rfl⟩ := List.mem_iff_getElem.mp hb
        have := h i (List.mem_range.mpr hi)
        simpa [hi] using this
      · intro h i hi
        have hi := List.mem_range.mp hi
        have := h bs[i] (List.getElem_mem hi)
        simpa [hi] using this
    exact ⟨.bl (bs.all id),H,I.kept k,by rw [ea];rfl,q⟩
end
end L2
set_option Elab.async false
set_option linter.all false
set_option maxRecDepth 100000
set_option maxHeartbeats 4000000
namespace L2
open PySem PySem.Spec PyProof.Rows
def SqK (K : PySem.W.Frag) (kd : Bool) (H : Hp) (a : Addr) (xs : List V) : Prop := match kd with
  | true => SqL K H a xs
  | false => SqT K H a xs
def SeqK (kd : Bool) (h : Heap) (a : Addr) (its : Array Value) : Prop := match kd with
  | true => h.IsList a its
  | false => h.IsTuple a its
def ItrK (kd : Bool) (h : Heap) (it a : Addr) (i : Nat) : Prop := match kd with
  | true => h.IsListIter it a i
  | false => h.IsTupleIter it a i
theorem SeqK.at {kd : Bool} {h h' : Heap} {a : Addr} {its : Array Value} (x : SeqK kd h a its) (k : ∀ o,h.get? a = some o -> h'.get? a = some o) : SeqK kd h' a its := by
  cases kd with
  | true => exact Heap.IsList.at x k
  | false => obtain ⟨o,e,r⟩ := (show h.IsTuple a its from x);exact ⟨o,k o e,r⟩
theorem ItrK.at {kd : Bool} {h h' : Heap} {it a : Addr} {i : Nat} (x : ItrK kd h it a i) (k : ∀ o,h.get? it = some o -> h'.get? it = some o) : ItrK kd h' it a i := by
  cases kd with
  | true => exact Heap.IsListIter.at x k
  | false => obtain ⟨o,e,r⟩ := (show h.IsTupleIter it a i from x);exact ⟨o,k o e,r⟩
theorem ItrK.obj {kd : Bool} {h : Heap} {it a : Addr} {i : Nat} (x : ItrK kd h it a i) : ∃ o,h.get? it = some o /\ (o.cls = .type "list_iterator" \/ o.cls = .type "tuple_iterator") /\ ∀ v,o.data ≠ .cell v := by
  cases kd with
  | true => obtain ⟨o,e,c,d⟩ := (show h.IsListIter it a i from x);exact ⟨o,e,.inl c,fun v q => by rw [d] at q;cases q⟩
  | false => obtain ⟨o,e,c,d⟩ := (show h.IsTupleIter it a i from x);exact ⟨o,e,.inr c,fun v q => by rw [d] at q;cases q⟩
section
variable {prog : Program} {w : World} {A : Around} {E : Value -> Shared -> Prop} {s : Shared}
theorem jI {kd : Bool} {it a : Addr} {i : Nat} {its : Array Value} {x : Value} {Q : Value -> Shared -> Prop} (hi : ItrK kd s.heap it a i) (hl : SeqK kd s.heap a its) (hx : its[i]? = some x)
    (hQ : ∀ h',ItrK kd h' it a (i + 1) -> Heap.SameBut it s.heap h' -> Q x { s with heap := h' }) : wpAny (model prog w) A (Builtin.SmallTypes.nextOf (.ref it)) Q E s := by
  cases kd with
  | true => exact wpAny_nextOf_list_item hi hl hx hQ
  | false =>
    have hi' : s.heap.IsTupleIter it a i := hi
    obtain ⟨o,ho,hc,hd⟩ := id hi'
    obtain ⟨ol,hol,_,nl,hdl⟩ := (show s.heap.IsTuple a its from hl)
    unfold Builtin.SmallTypes.nextOf;refine wpAny_bind (wpAny_callSpecial?_slot (name := Str.ofString "__next__") hi'.typeIs F.slot_tuple_iterator_next (wpAny_call_entry F.slot_tuple_iterator_next hi'.typeIs F.entry_tuple_iterator_next ?_ (F.args_tuple_iterator_next_1 _)))
    show wpAny _ _ (field (.ref it) 0 >>= _) _ _ _;refine wpAny_bind (wpAny_field ho hd (x := .ref a) rfl ?_)
    show wpAny _ _ (if (Value.ref a == Value.none) = true then _ else _) _ _ _;rw [if_neg (show ¬ ((Value.ref a == Value.none) = true) from Bool.false_ne_true)]
    show wpAny _ _ (field (.ref it) 1 >>= _) _ _ _;refine wpAny_bind (wpAny_field ho hd (x := .int i 0) rfl ?_)
    show wpAny _ _ (seqItems? (.ref a) >>= _) _ _ _;refine wpAny_bind (wpAny_seqItems hol hdl ?_);simp only [Int.toNat_natCast,hx]
    refine wpAny_bind (wpAny_setField ho hd (by simp) (wpAny_pure ⟨x,rfl,wpAny_pure (hQ _ (show Heap.IsTupleIter _ _ _ _ from ?_) (Heap.SameBut.update ..))⟩))
    refine ⟨_,Heap.get?_update_self _ ho (Obj.isFreed_of_fields (Obj.data_mapFields hd _)),(Obj.cls_mapFields ..).trans hc,?_⟩;rw [Obj.data_mapFields hd];simp [rawInt]
theorem xc {kd : Bool} {it a : Addr} {i : Nat} {its : Array Value} {Q : Value -> Shared -> Prop} (hh : A.handled = none) (hi : ItrK kd s.heap it a i) (hl : SeqK kd s.heap a its) (hx : its[i]? = none)
    (hE : ∀ h' e,Heap.ExtBut it s.heap h' -> (∃ o,h'.get? e = some o /\ o.cls = .type "StopIteration") -> E (.ref e) { s with heap := h' }) : wpAny (model prog w) A (Builtin.SmallTypes.nextOf (.ref it)) Q E s := by
  cases kd with
  | true => exact wpAny_nextOf_list_end hh hi hl hx hE
  | false =>
    have hi' : s.heap.IsTupleIter it a i := hi
    obtain ⟨o,ho,hc,hd⟩ := id hi'
    obtain ⟨ol,hol,_,nl,hdl⟩ := (show s.heap.IsTuple a its from hl)
    unfold Builtin.SmallTypes.nextOf;refine wpAny_bind (wpAny_callSpecial?_slot (name := Str.ofString "__next__") hi'.typeIs F.slot_tuple_iterator_next (wpAny_call_entry F.slot_tuple_iterator_next hi'.typeIs F.entry_tuple_iterator_next ?_ (F.args_tuple_iterator_next_1 _)))
    show wpAny _ _ (field (.ref it) 0 >>= _) _ _ _;refine wpAny_bind (wpAny_field ho hd (x := .ref a) rfl ?_)
    show wpAny _ _ (if (Value.ref a == Value.none) = true then _ else _) _ _ _;rw [if_neg (show ¬ ((Value.ref a == Value.none) = true) from Bool.false_ne_true)]
    show wpAny _ _ (field (.ref it) 1 >>= _) _ _ _;refine wpAny_bind (wpAny_field ho hd (x := .int i 0) rfl ?_)
    show wpAny _ _ (seqItems? (.ref a) >>= _) _ _ _;refine wpAny_bind (wpAny_seqItems hol hdl ?_);simp only [Int.toNat_natCast,hx]
    refine wpAny_bind (wpAny_rule (wpAny_bind (wpAny_setField ho hd (by simp) ?_)));show wpAny _ _ (newExc (.type "StopIteration") [] >>= _) _ _ _
    refine wpAny_bind ?_;simp only [newExc,newTuple];refine wpAny_bind (wpAny_newObj_type ?_ (by size_fits))
    refine wpAny_bind (m := firstArgMember _ _) (wpAny_of_eq (a := Value.none) (by first | rfl | (simp only [firstArgMember];rfl)) (wpAny_newObj_type ?_ (by size_fits)))
    simp only [raiseNew];refine wpAny_bind (wpAny_handled ?_);first | rw [show A.in1.handled = none from hh] | rw [hh]
    exact wpAny_bind (wpAny_pure (wpAny_throw (hE _ _ (((Heap.SameBut.update ..).extBut.push _).push _) ⟨_,Heap.get?_push_size _ rfl,rfl⟩)))
structure wR (k1 k2 : Bool) (h : Heap) (z TI TO i1 i2 a1 a2 : Addr) (i : Nat) : Prop where
  zz : IsZip h z TI TO .none
  ti : IsPair h TI (.ref i1) (.ref i2)
  to : ∃ a b,IsPair h TO a b
  r1 : ItrK k1 h i1 a1 i
  r2 : ItrK k2 h i2 a2 i
structure Qo (z TI TO i1 i2 : Addr) : Prop where
  a : TI ≠ z
  b : TO ≠ z
  c : i1 ≠ z
  d : i2 ≠ z
  e : TI ≠ TO
  f : TI ≠ i1
  g : TI ≠ i2
  h : TO ≠ i1
  i : TO ≠ i2
  j : i1 ≠ i2
end
end L2
set_option Elab.async false
set_option linter.all false
set_option maxRecDepth 100000
set_option maxHeartbeats 4000000
namespace L2
open PySem PySem.Spec PyProof.Rows
section
variable {prog : Program} {w : World} {A : Around} {E : Value -> Shared -> Prop} {s : Shared}
theorem Qp {k1 k2 : Bool} {z TI TO i1 i2 a1 a2 : Addr} {i : Nat} {xs ys : Array Value} {x y : Value} {Q : Option Value -> Shared -> Prop} (N : Qo z TI TO i1 i2) (Z : wR k1 k2 s.heap z TI TO i1 i2 a1 a2 i)
    (l1 : SeqK k1 s.heap a1 xs) (l2 : SeqK k2 s.heap a2 ys) (m1 : ∀ b ∈ [z,TO,i1,i2],a1 ≠ b) (m2 : ∀ b ∈ [z,TO,i1,i2],a2 ≠ b) (hx : xs[i]? = some x) (hy : ys[i]? = some y)
    (hQ : ∀ h',IsZip h' z TI TO (rawInt s.heap.objs.size) -> IsPair h' TI (.ref i1) (.ref i2) -> (∃ a b,IsPair h' TO a b) -> ItrK k1 h' i1 a1 (i + 1) -> ItrK k2 h' i2 a2 (i + 1) -> IsPair h' s.heap.objs.size x y -> h'.objs.size = s.heap.objs.size + 1 ->
      (∀ c o,c ∉ [z,TO,i1,i2] -> s.heap.get? c = some o -> h'.get? c = some o) -> Q (some (.ref s.heap.objs.size)) { s with heap := h' }) : wpAny (model prog w) A (pyNext (.ref z)) Q E s := by
  obtain ⟨hz,hTI,⟨a,b,hTO⟩,h1,h2⟩ := Z
  have hT : s.TypeIs (.ref z) "zip" := ⟨_,hz,rfl⟩
  unfold pyNext;refine wpAny_bind (wpAny_attempt (wpAny_callSpecial?_slot (name := Str.ofString "__next__") hT F.slot_zip_next (wpAny_call_entry F.slot_zip_next hT F.entry_zip_next ?_ (F.args_zip_next_1 _))))
  show wpAny _ _ (field (.ref z) 2 >>= _) _ _ _;refine wpAny_bind (wpAny_field hz rfl (x := .bool false) rfl ?_)
  show wpAny _ _ (field (.ref z) 3 >>= _) _ _ _;refine wpAny_bind (wpAny_field hz rfl (x := .ref TI) rfl (wpAny_bind (wpAny_seqItems hTI rfl ?_)))
  show wpAny _ _ (Builtin.SmallTypes.ownedTupleIsFree (.ref z) >>= _) _ _ _;refine wpAny_bind ?_
  unfold Builtin.SmallTypes.ownedTupleIsFree;refine wpAny_bind (wpAny_field hz rfl (x := .none) rfl (wpAny_pure ?_));simp only [if_true]
  refine wpAny_bind (wpAny_rule (wpAny_bind (wpAny_field hz rfl (x := .ref TO) rfl (wpAny_bind (wpAny_setField_rec hz (by simp) fun g1 hz1 hs1 => ?_)))))
  replace hz1 : IsZip g1 z TI TO .ellipsis := hz1
  refine wpAny_bind ?_;simp only [List.zipIdx_cons,List.zipIdx_nil,List.forIn_cons,List.forIn_nil]
  refine wpAny_bind (wpAny_bind (wpAny_onRaise ?_));show wpAny _ _ (Builtin.SmallTypes.nextOf (.ref i1) >>= _) _ _ _
  refine wpAny_bind (jI (h1.at fun o e => hs1.extBut _ o N.c e) (l1.at fun o e => hs1.extBut _ o (m1 z (by simp)) e) hx fun g2 h12 hs2 => wpAny_pure ?_)
  have hTO2 : IsPair g2 TO a b := hs2.extBut _ _ N.h (hs1.extBut _ _ N.b hTO)
  refine wpAny_bind (wpAny_seqItems hTO2 rfl (wpAny_bind (wpAny_updateSeq_pair hTO2 fun g3 hTO3 hs3 => ?_)))
  replace hTO3 : IsPair g3 TO x b := hTO3
  refine wpAny_bind (wpAny_letGo (wpAny_pure ?_));refine wpAny_bind (wpAny_bind (wpAny_onRaise ?_));show wpAny _ _ (Builtin.SmallTypes.nextOf (.ref i2) >>= _) _ _ _
  have c23 : ∀ c o,c ∉ [z,TO,i1] -> s.heap.get? c = some o -> g3.get? c = some o := fun c o hc e => hs3.extBut _ o (fun q => hc (by simp [q])) (hs2.extBut _ o (fun q => hc (by simp [q])) (hs1.extBut _ o (fun q => hc (by simp [q])) e))
  refine wpAny_bind (jI (h2.at fun o e => c23 _ o (by simp [N.d,Ne.symm N.i,Ne.symm N.j]) e) (l2.at fun o e => c23 _ o (by simp [m2 z (by simp),m2 TO (by simp),m2 i1 (by simp)]) e) hy fun g4 h24 hs4 => wpAny_pure ?_)
  have hTO4 : IsPair g4 TO x b := hs4.extBut _ _ N.i hTO3
  refine wpAny_bind (wpAny_seqItems hTO4 rfl (wpAny_bind (wpAny_updateSeq_pair hTO4 fun g5 hTO5 hs5 => ?_)))
  replace hTO5 : IsPair g5 TO x y := hTO5
  refine wpAny_bind (wpAny_letGo (wpAny_pure (wpAny_pure (wpAny_bind (wpAny_seqItems hTO5 rfl (wpAny_bind (wpAny_newTuple ?_)))))))
  have zs : g5.objs.size = s.heap.objs.size := by rw [hs5.1,hs4.1,hs3.1,hs2.1,hs1.1]
  have hz5 : IsZip g5 z TI TO .ellipsis := hs5.extBut _ _ (Ne.symm N.b) (hs4.extBut _ _ (Ne.symm N.d) (hs3.extBut _ _ (Ne.symm N.b) (hs2.extBut _ _ (Ne.symm N.c) hz1)))
  have k5 : ∀ c o,c ∉ [z,TO,i1,i2] -> s.heap.get? c = some o -> g5.get? c = some o := fun c o hc e => hs5.extBut _ o (fun q => hc (by simp [q])) (hs4.extBut _ o (fun q => hc (by simp [q])) (c23 c o (fun q => hc (by simp at q ⊢;rcases q with q | q | q <;> simp [q])) e))
  have r1 : ItrK k1 g5 i1 a1 (i + 1) := h12.at fun o e => hs5.extBut _ o (Ne.symm N.h) (hs4.extBut _ o N.j (hs3.extBut _ o (Ne.symm N.h) e))
  have r2 : ItrK k2 g5 i2 a2 (i + 1) := h24.at fun o e => hs5.extBut _ o (Ne.symm N.i) e
  have zl : z < g5.objs.size := Heap.lt_size hz5
  show wpAny _ _ (Builtin.SmallTypes.ownedTupleHandOut (.ref z) (.ref g5.objs.size) >>= _) _ _ _;refine wpAny_bind ?_;unfold Builtin.SmallTypes.ownedTupleHandOut
  have hz6 : IsZip (g5.push { cls := .type "tuple",data := .seq #[x,y] }) z TI TO .ellipsis := Heap.get?_push_of_some _ hz5
  refine wpAny_bind (wpAny_setField_rec hz6 (by simp) fun g7 hz7 hs7 => ?_)
  replace hz7 : IsZip g7 z TI TO (rawInt g5.objs.size) := hz7
  refine wpAny_setField_rec hz7 (by simp) fun g8 hz8 hs8 => ?_
  replace hz8 : IsZip g8 z TI TO (rawInt g5.objs.size) := hz8
  have up : ∀ c o,c ≠ z -> g5.get? c = some o -> g8.get? c = some o := fun c o c1 e => hs8.extBut _ o c1 (hs7.extBut _ o c1 (Heap.get?_push_of_some _ e))
  have hT8 : IsPair g8 g5.objs.size x y := hs8.extBut _ _ (Nat.ne_of_gt zl) (hs7.extBut _ _ (Nat.ne_of_gt zl) (Heap.get?_push_size _ rfl))
  have z8 : g8.objs.size = g5.objs.size + 1 := by rw [hs8.1,hs7.1,Heap.size_push]
  rw [zs] at hz8 hT8 z8
  refine wpAny_pure ⟨_,rfl,wpAny_pure ?_⟩;show Q (some (.ref g5.objs.size)) _;rw [zs]
  exact hQ g8 hz8 (up _ _ N.a (k5 _ _ (by simp [N.a,N.e,N.f,N.g]) hTI)) ⟨_,_,up _ _ N.b hTO5⟩ (r1.at fun o e => up _ o N.c e) (r2.at fun o e => up _ o N.d e) hT8 z8 fun c o hc e => up c o (fun q => hc (by simp [q])) (k5 c o hc e)
theorem Jg {k1 k2 : Bool} {z TI TO i1 i2 a1 a2 : Addr} {i : Nat} {xs ys : Array Value} {Q : Option Value -> Shared -> Prop} (hh : A.handled = none) (N : Qo z TI TO i1 i2) (Z : wR k1 k2 s.heap z TI TO i1 i2 a1 a2 i)
    (l1 : SeqK k1 s.heap a1 xs) (l2 : SeqK k2 s.heap a2 ys) (m1 : ∀ b ∈ [z,TO,i1,i2],a1 ≠ b) (m2 : ∀ b ∈ [z,TO,i1,i2],a2 ≠ b) (hend : xs[i]? = none \/ ys[i]? = none)
    (hQ : ∀ h',(∀ c o,c ∉ [z,TO,i1,i2] -> s.heap.get? c = some o -> h'.get? c = some o) -> Q none { s with heap := h' }) : wpAny (model prog w) A (pyNext (.ref z)) Q E s := by
  obtain ⟨hz,hTI,⟨a,b,hTO⟩,h1,h2⟩ := Z
  have hT : s.TypeIs (.ref z) "zip" := ⟨_,hz,rfl⟩
  unfold pyNext;refine wpAny_bind (wpAny_attempt (wpAny_callSpecial?_slot (name := Str.ofString "__next__") hT F.slot_zip_next (wpAny_call_entry F.slot_zip_next hT F.entry_zip_next ?_ (F.args_zip_next_1 _))))
  show wpAny _ _ (field (.ref z) 2 >>= _) _ _ _;refine wpAny_bind (wpAny_field hz rfl (x := .bool false) rfl ?_)
  show wpAny _ _ (field (.ref z) 3 >>= _) _ _ _;refine wpAny_bind (wpAny_field hz rfl (x := .ref TI) rfl (wpAny_bind (wpAny_seqItems hTI rfl ?_)))
  show wpAny _ _ (Builtin.SmallTypes.ownedTupleIsFree (.ref z) >>= _) _ _ _;refine wpAny_bind ?_
  unfold Builtin.SmallTypes.ownedTupleIsFree;refine wpAny_bind (wpAny_field hz rfl (x := .none) rfl (wpAny_pure ?_));simp only [if_true]
  refine wpAny_bind (wpAny_rule (wpAny_bind (wpAny_field hz rfl (x := .ref TO) rfl (wpAny_bind (wpAny_setField_rec hz (by simp) fun g1 hz1 hs1 => ?_)))))
  replace hz1 : IsZip g1 z TI TO .ellipsis := hz1
  refine wpAny_bind ?_;simp only [List.zipIdx_cons,List.zipIdx_nil,List.forIn_cons,List.forIn_nil]
  refine wpAny_bind (wpAny_bind (wpAny_onRaise ?_));show wpAny _ _ (Builtin.SmallTypes.nextOf (.ref i1) >>= _) _ _ _
  cases hx : xs[i]? with
  | none =>
    refine wpAny_bind (xc hh (h1.at fun o e => hs1.extBut _ o N.c e) (l1.at fun o e => hs1.extBut _ o (m1 z (by simp)) e) hx fun g2 e hs2 he => ?_)
    obtain ⟨oe,hoe,hce⟩ := he
    have hz2 : IsZip g2 z TI TO .ellipsis := hs2 _ _ (Ne.symm N.c) hz1
    have hez : e ≠ z := fun q => by subst q;rw [hz2] at hoe;cases hoe;exact absurd (Value.type.inj hce) (by decide)
    refine wpAny_setField_rec hz2 (by simp) fun g3 hz3 hs3 => ?_
    refine wpAny_bind (wpAny_isInstance (T := "StopIteration") (b := true) ⟨oe,hs3.extBut _ _ hez hoe,hce⟩ isSubtype_stop (wpAny_pure (hQ _ fun c o hc q => ?_)))
    exact hs3.extBut _ o (fun q => hc (by simp [q])) (hs2 _ o (fun q => hc (by simp [q])) (hs1.extBut _ o (fun q => hc (by simp [q])) q))
  | some x =>
    have hy : ys[i]? = none := by rcases hend with q | q;rw [hx] at q;cases q;exact q
    refine wpAny_bind (jI (h1.at fun o e => hs1.extBut _ o N.c e) (l1.at fun o e => hs1.extBut _ o (m1 z (by simp)) e) hx fun g2 h12 hs2 => wpAny_pure ?_)
    have hTO2 : IsPair g2 TO a b := hs2.extBut _ _ N.h (hs1.extBut _ _ N.b hTO)
    refine wpAny_bind (wpAny_seqItems hTO2 rfl (wpAny_bind (wpAny_updateSeq_pair hTO2 fun g3 hTO3 hs3 => ?_)))
    have c23 : ∀ c o,c ∉ [z,TO,i1] -> s.heap.get? c = some o -> g3.get? c = some o := fun c o hc e => hs3.extBut _ o (fun q => hc (by simp [q])) (hs2.extBut _ o (fun q => hc (by simp [q])) (hs1.extBut _ o (fun q => hc (by simp [q])) e))
    refine wpAny_bind (wpAny_letGo (wpAny_pure ?_));refine wpAny_bind (wpAny_bind (wpAny_onRaise ?_));show wpAny _ _ (Builtin.SmallTypes.nextOf (.ref i2) >>= _) _ _ _
    refine wpAny_bind (xc hh (h2.at fun o e => c23 _ o (by simp [N.d,Ne.symm N.i,Ne.symm N.j]) e) (l2.at fun o e => c23 _ o (by simp [m2 z (by simp),m2 TO (by simp),m2 i1 (by simp)]) e) hy fun g4 e hs4 he => ?_)
    obtain ⟨oe,hoe,hce⟩ := he
    have hz4 : IsZip g4 z TI TO .ellipsis := hs4 _ _ (Ne.symm N.d) (hs3.extBut _ _ (Ne.symm N.b) (hs2.extBut _ _ (Ne.symm N.c) hz1))
    have hez : e ≠ z := fun q => by subst q;rw [hz4] at hoe;cases hoe;exact absurd (Value.type.inj hce) (by decide)
    refine wpAny_setField_rec hz4 (by simp) fun g5 hz5 hs5 => ?_
    refine wpAny_bind (wpAny_isInstance (T := "StopIteration") (b := true) ⟨oe,hs5.extBut _ _ hez hoe,hce⟩ isSubtype_stop (wpAny_pure (hQ _ fun c o hc q => ?_)))
    exact hs5.extBut _ o (fun q => hc (by simp [q])) (hs4 _ o (fun q => hc (by simp [q])) (c23 c o (fun q => hc (by simp at q ⊢;rcases q with q | q | q <;> simp [q])) q))
abbrev zh (h : Heap) (o1 o2 : Obj) : Heap := ((((h.push o1).push o2).push { cls := .type "tuple",data := .seq #[.ref h.objs.size,.ref (h.push o1).objs.size] }).push { cls := .type "tuple",data := .seq #[.none,.none] }).push
  { cls := .type "zip",data := .fields #[.none,.bool false,.bool false,.ref ((h.push o1).push o2).objs.size,.ref (((h.push o1).push o2).push { cls := .type "tuple",data := .seq #[.ref h.objs.size,.ref (h.push o1).objs.size] }).objs.size] }
theorem Wn {k1 k2 : Bool} {a1 a2 : Addr} {h : Heap} {o1 o2 : Obj} (p1 : ∀ g : Heap,g.get? h.objs.size = some o1 -> ItrK k1 g h.objs.size a1 0) (p2 : ∀ (g : Heap) (n : Addr),g.get? n = some o2 -> ItrK k2 g n a2 0) (f1 : o1.isFreed = false) (f2 : o2.isFreed = false) :
    wR k1 k2 (zh h o1 o2) (h.objs.size + 4) (h.objs.size + 2) (h.objs.size + 3) h.objs.size (h.objs.size + 1) a1 a2 0 /\ (∀ c o,h.get? c = some o -> (zh h o1 o2).get? c = some o) /\ (zh h o1 o2).objs.size = h.objs.size + 5 := by
  have z1 : (h.push o1).objs.size = h.objs.size + 1 := Heap.size_push ..
  have z2 : ((h.push o1).push o2).objs.size = h.objs.size + 2 := by rw [Heap.size_push,z1]
  have z3 : (((h.push o1).push o2).push { cls := .type "tuple",data := .seq #[.ref h.objs.size,.ref (h.push o1).objs.size] }).objs.size = h.objs.size + 3 := by rw [Heap.size_push,z2]
  have z4 : ((((h.push o1).push o2).push { cls := .type "tuple",data := .seq #[.ref h.objs.size,.ref (h.push o1).objs.size] }).push { cls := .type "tuple",data := .seq #[.none,.none] }).objs.size = h.objs.size + 4 := by rw [Heap.size_push,z3]
  have q5 : (zh h o1 o2).get? (h.objs.size + 4) = some _ := z4 ▸ Heap.get?_push_size _ rfl
  have q4 : (zh h o1 o2).get? (h.objs.size + 3) = some _ := z3 ▸ Heap.get?_push_of_some _ (Heap.get?_push_size _ rfl)
  have q3 : (zh h o1 o2).get? (h.objs.size + 2) = some _ := z2 ▸ Heap.get?_push_of_some _ (Heap.get?_push_of_some _ (Heap.get?_push_size _ rfl))
  have q2 : (zh h o1 o2).get? (h.objs.size + 1) = some o2 := z1 ▸ Heap.get?_push_of_some _ (Heap.get?_push_of_some _ (Heap.get?_push_of_some _ (Heap.get?_push_size _ f2)))
  have q1 : (zh h o1 o2).get? h.objs.size = some o1 := Heap.get?_push_of_some _ (Heap.get?_push_of_some _ (Heap.get?_push_of_some _ (Heap.get?_push_of_some _ (Heap.get?_push_size _ f1))))
  rw [z2,z3] at q5
  rw [z1] at q3
  exact ⟨⟨q5,q3,⟨_,_,q4⟩,p1 _ q1,p2 _ _ q2⟩,fun c o e => Heap.get?_push_of_some _ (Heap.get?_push_of_some _ (Heap.get?_push_of_some _ (Heap.get?_push_of_some _ (Heap.get?_push_of_some _ e)))),by rw [Heap.size_push,z4]⟩
theorem Jf {k1 k2 : Bool} {a1 a2 : Addr} {xs ys : Array Value} :
    PySem.Meets (Builtin.«zip.__new__» ⟨[.type "zip",.ref a1,.ref a2],[]⟩) (fun _ R s => SeqK k1 s.heap a1 xs /\ SeqK k2 s.heap a2 ys /\
      ∀ h',wR k1 k2 h' (s.heap.objs.size + 4) (s.heap.objs.size + 2) (s.heap.objs.size + 3) s.heap.objs.size (s.heap.objs.size + 1) a1 a2 0 -> (∀ c o,s.heap.get? c = some o -> h'.get? c = some o) -> h'.objs.size = s.heap.objs.size + 5 -> R (.ok (.ret (.ref (s.heap.objs.size + 4)))) { s with heap := h' }) :=
  .of_wp fun prog w A R s hq => by
    obtain ⟨hp,g,d,tk,os⟩ := s
    obtain ⟨hl1,hl2,hr⟩ := hq
    have hsub := sub_zip
    have fin : ∀ {o1 o2 : Obj},(∀ g : Heap,g.get? hp.objs.size = some o1 -> ItrK k1 g hp.objs.size a1 0) -> (∀ (g : Heap) (n : Addr),g.get? n = some o2 -> ItrK k2 g n a2 0) -> o1.isFreed = false -> o2.isFreed = false ->
        R (.ok (.ret (.ref ((((hp.push o1).push o2).push { cls := .type "tuple",data := .seq #[.ref hp.objs.size,.ref (hp.push o1).objs.size] }).push { cls := .type "tuple",data := .seq #[.none,.none] }).objs.size))) ⟨zh hp o1 o2,g,d,tk,os⟩ := fun {o1 o2} p1 p2 f1 f2 => by
      obtain ⟨A,B,C⟩ := Wn p1 p2 f1 f2
      have e : ((((hp.push o1).push o2).push { cls := .type "tuple",data := .seq #[.ref hp.objs.size,.ref (hp.push o1).objs.size] }).push { cls := .type "tuple",data := .seq #[.none,.none] }).objs.size = hp.objs.size + 4 := by
        rw [Heap.size_push,Heap.size_push,Heap.size_push,Heap.size_push]
      rw [e]
      exact hr _ A B C
    cases k1 with
    | true =>
      have L1 : Heap.IsList (Shared.heap ⟨hp,g,d,tk,os⟩) a1 xs := hl1
      cases k2 with
      | true =>
        have L2 : Heap.IsList (Shared.heap ⟨hp.push { cls := .type "list_iterator",data := .fields #[.ref a1,.int 0 0] },g,d,tk,os⟩) a2 ys := Heap.IsList.push hl2 _
        wp_walk using wpAny_pyIter_list L1,wpAny_pyIter_list L2
        exact ⟨_,rfl,fin (fun g e => ⟨_,e,rfl,rfl⟩) (fun g n e => ⟨_,e,rfl,rfl⟩) rfl rfl⟩
      | false =>
        have L2 : Heap.IsTuple (Shared.heap ⟨hp.push { cls := .type "list_iterator",data := .fields #[.ref a1,.int 0 0] },g,d,tk,os⟩) a2 ys := Heap.IsTuple.push hl2 _
        wp_walk using wpAny_pyIter_list L1,wpAny_pyIter_tuple L2
        exact ⟨_,rfl,fin (fun g e => ⟨_,e,rfl,rfl⟩) (fun g n e => ⟨_,e,rfl,rfl⟩) rfl rfl⟩
    | false =>
      have L1 : Heap.IsTuple (Shared.heap ⟨hp,g,d,tk,os⟩) a1 xs := hl1
      cases k2 with
      | true =>
        have L2 : Heap.IsList (Shared.heap ⟨hp.push { cls := .type "tuple_iterator",data := .fields #[.ref a1,.int 0 0] },g,d,tk,os⟩) a2 ys := Heap.IsList.push hl2 _
        wp_walk using wpAny_pyIter_tuple L1,wpAny_pyIter_list L2
        exact ⟨_,rfl,fin (fun g e => ⟨_,e,rfl,rfl⟩) (fun g n e => ⟨_,e,rfl,rfl⟩) rfl rfl⟩
      | false =>
        have L2 : Heap.IsTuple (Shared.heap ⟨hp.push { cls := .type "tuple_iterator",data := .fields #[.ref a1,.int 0 0] },g,d,tk,os⟩) a2 ys := Heap.IsTuple.push hl2 _
        wp_walk using wpAny_pyIter_tuple L1,wpAny_pyIter_tuple L2
        exact ⟨_,rfl,fin (fun g e => ⟨_,e,rfl,rfl⟩) (fun g n e => ⟨_,e,rfl,rfl⟩) rfl rfl⟩
theorem Jc {k1 k2 : Bool} {a1 a2 : Addr} {xs ys : Array Value} {Q : Value -> Shared -> Prop} (h1 : SeqK k1 s.heap a1 xs) (h2 : SeqK k2 s.heap a2 ys)
    (h : ∀ h',wR k1 k2 h' (s.heap.objs.size + 4) (s.heap.objs.size + 2) (s.heap.objs.size + 3) s.heap.objs.size (s.heap.objs.size + 1) a1 a2 0 -> (∀ c o,s.heap.get? c = some o -> h'.get? c = some o) -> h'.objs.size = s.heap.objs.size + 5 ->
      Q (.ref (s.heap.objs.size + 4)) { s with heap := h' }) : wpAny (model prog w) A (call (.type "zip") [.ref a1,.ref a2]) Q E s := by
  refine callType_new F.called_zip (by decide) (F.typeCall_zip_2 _ _) (F.newCall_zip_2 _ _) (fun obj => F.args_object_init_3 obj _ _) F.entry_zip_new (Jf (k1 := k1) (k2 := k2) (xs := xs) (ys := ys)) ⟨h1,h2,fun h' Z k z => ?_⟩
  exact ⟨⟨_,Z.zz,rfl⟩,h h' Z k z⟩
end
theorem Inv.seqK {X : Cx} {pins : List (Addr × Obj)} {σ : St} {H : Hp} {s : Shared} {kd : Bool} {a : Addr} {xs : List V} (I : Inv X pins σ H s) (h : SqK X.K kd H a xs) : ∃ its : List Value,Vals xs its /\ SeqK kd s.heap a its.toArray /\ xs.length <= sizeLine := by
  cases kd with
  | true => obtain ⟨its,r,p,z⟩ := I.list h;exact ⟨its,r,p.isList,z⟩
  | false => obtain ⟨its,r,p,z⟩ := I.tuple h;exact ⟨its,r,p,z⟩
theorem Inv.seqK_inj {X : Cx} {pins : List (Addr × Obj)} {σ : St} {H : Hp} {s : Shared} {kd : Bool} {a : Addr} {xs ys : List V} (I : Inv X pins σ H s) (h : SqK X.K kd H a xs) (h' : SqK X.K kd H a ys) : xs = ys := by
  cases kd with
  | true => exact I.list_inj h h'
  | false => exact I.tuple_inj h h'
theorem SqK.ne_fp {X : Cx} {pins : List (Addr × Obj)} {σ : St} {H : Hp} {s : Shared} {kd : Bool} {a b : Addr} {xs : List V} (I : Inv X pins σ H s) (h : SqK X.K kd H a xs) (f : jw X pins H b) : a ≠ b := fun z => by
  have kk : ∀ o,X.K.lookup a = some o -> False := fun o e => by
    have e' := I.mod.kin a o e
    rcases f.2.2.2.1 with q | q
    · exact I.ok.noex a o e' (by rw [z];exact q)
    · have := Heap.lt_size (I.ok.bs a o e').1
      rw [z] at this
      exact Nat.lt_irrefl _ (Nat.lt_of_lt_of_le this q)
  cases kd with
  | true =>
    rcases (show SqL X.K H a xs from h) with (q | ⟨o,q⟩) | ⟨o,_,_,q,_⟩
    · rw [z,f.1] at q;cases q
    · rw [z,f.1] at q;cases q
    · exact kk o q
  | false =>
    rcases (show SqT X.K H a xs from h) with (q | ⟨o,q⟩) | ⟨o,_,_,q,_⟩
    · rw [z,f.1] at q;cases q
    · rw [z,f.1] at q;cases q
    · exact kk o q
def Itz (K : PySem.W.Frag) (k1 k2 : Bool) (a1 a2 : Addr) : It :=
  ⟨fun i H => ∃ xs ys x y,SqK K k1 H a1 xs /\ SqK K k2 H a2 ys /\ xs[i]? = some x /\ ys[i]? = some y,
   fun i H x H' => ∃ T u v,x = .ref T /\ H T = none /\ H' = upd H T (.tup [u,v]) /\ (∀ xs,SqK K k1 H a1 xs -> xs[i]? = some u) /\ ∀ ys,SqK K k2 H a2 ys -> ys[i]? = some v,
   fun i H => ∃ xs ys,SqK K k1 H a1 xs /\ SqK K k2 H a2 ys /\ (xs.length <= i \/ ys.length <= i)⟩
theorem Jk {P : Program} {w : World} {K : PySem.W.Frag} {elts : List Expr} {kk : Nat} {pos : Pos} {k1 k2 : Bool} {a1 a2 z TI TO i1 i2 : Addr} (N : Qo z TI TO i1 i2) :
    Zg P w K (.Tuple elts kk pos) (Itz K k1 k2 a1 a2) [z,TI,TO,i1,i2] z (fun i h => wR k1 k2 h z TI TO i1 i2 a1 a2 i) where
  mem := by simp
  obj := fun i h Z b hb => by
    obtain ⟨a,b',q⟩ := Z.to
    have e1 := Z.r1.obj
    have e2 := Z.r2.obj
    simp only [List.mem_cons,List.not_mem_nil,or_false] at hb
    rcases hb with r | r | r | r | r
    · subst r;exact ⟨_,Z.zz,fun v q => nomatch q⟩
    · subst r;exact ⟨_,Z.ti,fun v q => nomatch q⟩
    · subst r;exact ⟨_,q,fun v q => nomatch q⟩
    · subst r;obtain ⟨o,e,_,d⟩ := e1;exact ⟨o,e,d⟩
    · subst r;obtain ⟨o,e,_,d⟩ := e2;exact ⟨o,e,d⟩
  keep := fun i h h' Z k => by
    obtain ⟨a,b',q⟩ := Z.to
    exact ⟨k _ (by simp) _ Z.zz,k _ (by simp) _ Z.ti,⟨a,b',k _ (by simp) _ q⟩,Z.r1.at fun o e => k _ (by simp) o e,Z.r2.at fun o e => k _ (by simp) o e⟩
  item := by
    intro X hP hw hK hc i pins s σ H E I hf Z hg
    subst hP hw hK
    obtain ⟨xs,ys,x,y,hq1,hq2,hx,hy⟩ := hg
    obtain ⟨its1,rv1,p1,hz1⟩ := I.seqK hq1
    obtain ⟨its2,rv2,p2,hz2⟩ := I.seqK hq2
    obtain ⟨u1,hu1,ru1⟩ := rv1.get hx
    obtain ⟨u2,hu2,ru2⟩ := rv2.get hy
    have sub : ∀ b ∈ [z,TO,i1,i2],b ∈ [z,TI,TO,i1,i2] := fun b hb => by
      simp only [List.mem_cons,List.not_mem_nil,or_false] at hb ⊢
      rcases hb with r | r | r | r <;> simp [r]
    refine Qp N Z p1 p2 (fun b hb => hq1.ne_fp I (hf b (sub b hb))) (fun b hb => hq2.ne_fp I (hf b (sub b hb))) (by simpa using hu1) (by simpa using hu2) fun h1 zz ti to r1 r2 hT hsz hk => ?_
    refine ⟨_,rfl,wpAny_letOwnedTupleGo_zip zz fun h2 zz2 hs2 => ?_⟩
    have zl : z < s.heap.objs.size := Heap.lt_size Z.zz
    obtain ⟨ta,tb,to⟩ := to
    refine ⟨.ref s.heap.objs.size,upd H s.heap.objs.size (.tup [x,y]),?_,rfl,⟨_,x,y,rfl,I.hok.fresh (Nat.le_refl _),rfl,fun xs' h' => by rw [I.seqK_inj h' hq1];exact hx,fun ys' h' => by rw [I.seqK_inj h' hq2];exact hy⟩,
      ⟨zz2,hs2.extBut _ _ N.a ti,⟨ta,tb,hs2.extBut _ _ N.b to⟩,r1.at fun o e => hs2.extBut _ o N.c e,r2.at fun o e => hs2.extBut _ o N.d e⟩,fun b hb => ?_⟩
    · exact yi (s := s) (h' := h2) (t' := s.toks) (ch := [z,TO,i1,i2]) (its := [u1,u2]) I (fun b hb => hf b (sub b hb)) (Nat.le_refl _) (fun b o hb e => hs2.extBut _ o (fun q => hb (by simp [q])) (hk b o hb e)) (by rw [sizeLine_eq];exact (by decide : 2 <= 16777216)) (.cons ru1 (.cons ru2 .nil))
        (TupX.by (hs2.extBut _ _ (Nat.ne_of_gt zl) hT))
    · have hb' : b < s.heap.objs.size := by
        have e1 := Z.r1.obj
        have e2 := Z.r2.obj
        obtain ⟨a,b',q⟩ := Z.to
        simp only [List.mem_cons,List.not_mem_nil,or_false] at hb
        rcases hb with r | r | r | r | r
        · subst r;exact zl
        · subst r;exact Heap.lt_size Z.ti
        · subst r;exact Heap.lt_size q
        · subst r;obtain ⟨o,e,_⟩ := e1;exact Heap.lt_size e
        · subst r;obtain ⟨o,e,_⟩ := e2;exact Heap.lt_size e
      rw [zq (Nat.ne_of_lt hb')]
      exact (hf b hb).1
  done := by
    intro X hP hw hK hc i pins s σ H E I hf Z hg
    subst hP hw hK
    obtain ⟨xs,ys,hq1,hq2,hle⟩ := hg
    obtain ⟨its1,rv1,p1,hz1⟩ := I.seqK hq1
    obtain ⟨its2,rv2,p2,hz2⟩ := I.seqK hq2
    have sub : ∀ b ∈ [z,TO,i1,i2],b ∈ [z,TI,TO,i1,i2] := fun b hb => by
      simp only [List.mem_cons,List.not_mem_nil,or_false] at hb ⊢
      rcases hb with r | r | r | r <;> simp [r]
    have tr : ∀ b u,H b = some u -> b ∉ [z,TO,i1,i2] := fun b u e hb => by rw [(hf b (sub b hb)).1] at e;cases e
    refine Jg (I.ok.hd hc) N Z p1 p2 (fun b hb => hq1.ne_fp I (hf b (sub b hb))) (fun b hb => hq2.ne_fp I (hf b (sub b hb))) ?_ fun h' hk => ⟨rfl,?_⟩
    · have l1 := rv1.length
      have l2 := rv2.length
      rcases hle with q | q
      · exact .inl (by simp;omega)
      · exact .inr (by simp;omega)
    · refine I.step (g' := s.gens) (d' := s.drawn) (t' := s.toks) (ch := [z,TO,i1,i2]) (fun b hb => ?_) (fun b o _ _ hc e _ => hk b o hc e) (fun b o _ _ hc e _ => ⟨o.slots,hk b o hc e⟩) (fun _ _ _ _ n => n) (fun b o hc e => ⟨o,hk b o hc e⟩)
        (fun _ _ e => e) (fun _ _ _ e => e) (fun b ps e => ⟨#[],by rw [e];simp⟩) (fun m hm => ?_) (fun b u e => ?_) I.bare
      · obtain ⟨_,g1,_,g3,g4,g5⟩ := hf b (sub b hb)
        exact ⟨g3,g1,g4,g5⟩
      · obtain ⟨o,es,ep,ho,r⟩ := hm
        exact ⟨o,es,ep,hk _ o (fun z => (hf _ (sub _ z)).2.1 rfl) ho,r⟩
      · refine (I.hok b u e).stay (fun c v hc q => hk c v ?_ q) (fun _ q => q) fun _ _ q => q
        rcases hc with z | z
        · rw [z];exact tr b u e
        · exact tr c _ z
  self := fun _ _ _ _ _ Z h => wpAny_pyIter_zip Z.zz h
section
variable {X : Cx}
def Ye (K : PySem.W.Frag) (ta : TA) : TI := fun σ H R => ta σ H fun vs H1 => ∃ k1 k2 a1 a2,vs = [.ref a1,.ref a2] /\ (∃ xs,SqK K k1 H1 a1 xs) /\ (∃ ys,SqK K k2 H1 a2 ys) /\ R (Itz K k1 k2 a1 a2) H1
theorem vM {l m : Expr} {ta : TA} {p pos tp : Pos} {elts : List Expr} {kk : Nat} (hg : Gl X "zip") (hm : X.mg "zip" = none) (ha : PA X [l,m] ta) (hs : starEach [l,m] X.env = [(false,eval l X.env),(false,eval m X.env)] := by rfl) (hs2 : starEach [m] X.env = [(false,eval m X.env)] := by rfl) :
    PI X (.Tuple elts kk tp) (.Call (.Name "zip" p) [l,m] [] pos) (Ye X.K ta) := by
  intro pins s σ H R I h
  refine Call_ (jK I hg hm boot_zip (PyProof.Rows.callWith_type1 (thn (ha pos pins s σ H _ I h) fun us s1 ⟨vs,H1,I1,r1,q1⟩ => ?_) (by rw [hs,hs2]) (by rw [hs2];rfl)))
  obtain ⟨k1,k2,a1,a2,e,⟨xs,hq1⟩,⟨ys,hq2⟩,q⟩ := q1
  subst e
  obtain ⟨u,u',rfl,ru,ru'⟩ := vv r1
  cases ru
  cases ru'
  obtain ⟨its1,rv1,p1,hz1⟩ := I1.seqK hq1
  obtain ⟨its2,rv2,p2,hz2⟩ := I1.seqK hq2
  refine Jc p1 p2 fun h' Z hk hsz => wpAny_pyIter_zip Z.zz ?_
  have I2 : Inv X pins σ H1 { s1 with heap := h' } := I1.kept (t' := s1.toks) hk
  have N : Qo (s1.heap.objs.size + 4) (s1.heap.objs.size + 2) (s1.heap.objs.size + 3) s1.heap.objs.size (s1.heap.objs.size + 1) := by
    constructor <;> (intro e;have e' : (_ : Nat) = _ := e;omega)
  refine ⟨s1.heap.objs.size + 4,_,_,_,H1,rfl,I2,Jk N,Z,fun b hb => ?_,q⟩
  have hb' : s1.heap.objs.size <= b := by
    simp only [List.mem_cons,List.not_mem_nil,or_false] at hb
    rcases hb with r | r | r | r | r <;> (rw [r];first | exact Nat.le_add_right _ _ | exact Nat.le_refl _)
  exact I1.fpOk hb' (I1.hok.fresh hb')
end
end L2
set_option Elab.async false
set_option linter.all false
set_option maxRecDepth 100000
set_option maxHeartbeats 4000000
namespace L2
open PySem PySem.Spec PyProof.Rows
def TyN (K : PySem.W.Frag) (H : Hp) (x : V) (T : String) : Prop := match x with
  | .non => T = "NoneType"
  | .bl _ => T = "bool"
  | .int _ => T = "int"
  | .str _ => T = "str"
  | .ref a => (T = "list" /\ ∃ xs,SqL K H a xs) \/ (T = "tuple" /\ ∃ xs,SqT K H a xs)
  | _ => False
def Zo (T C : String) : Bool := T == C || (T == "bool" && C == "int")
def vm : List String := ["NoneType", "bool", "int", "str", "list", "tuple"]
def xL : List String := ["bool", "int", "str", "list", "tuple", "dict"]
theorem Qd {K : PySem.W.Frag} : ∀ T ∈ vm,∀ C ∈ xL,PySem.W.kitOne K (.type T) (.type C) = some (Zo T C) := by
  intro T hT C hC
  simp only [vm,xL,List.mem_cons,List.not_mem_nil,or_false] at hT hC
  rcases hT with rfl | rfl | rfl | rfl | rfl | rfl <;> rcases hC with rfl | rfl | rfl | rfl | rfl | rfl <;> kernel_rfl
theorem yY {K : PySem.W.Frag} {T : String} (hT : T ∈ vm) : ∀ {Cs : List String},(∀ C ∈ Cs,C ∈ xL) -> PySem.W.kitAny K (.type T) (Cs.map Value.type) = some (Cs.any fun C => Zo T C)
  | [],_ => rfl
  | C :: r,h => by
    have ih := yY (K := K) hT (Cs := r) fun C' hC => h C' (List.mem_cons_of_mem _ hC)
    show (match PySem.W.kitOne K (.type T) (.type C) with | some true => some true | some false => PySem.W.kitAny K (.type T) (r.map Value.type) | none => none) = _
    rw [Qd T hT C (h C List.mem_cons_self),List.any_cons]
    cases Zo T C with
    | true => rfl
    | false => rw [ih];rfl
theorem TyN.mem {K : PySem.W.Frag} {H : Hp} {x : V} {T : String} (h : TyN K H x T) : T ∈ vm := by
  cases x with
  | non => cases (show T = _ from h);decide
  | bl _ => cases (show T = _ from h);decide
  | int _ => cases (show T = _ from h);decide
  | str _ => cases (show T = _ from h);decide
  | ref a => rcases (show _ \/ _ from h) with ⟨e,_⟩ | ⟨e,_⟩ <;> (subst e;decide)
  | _ => exact (show False from h).elim
section
variable {X : Cx} {pins : List (Addr × Obj)} {σ : St} {H : Hp} {s : Shared}
theorem Qc {x : V} {u : Value} {T : String} (I : Inv X pins σ H s) (rx : RelV x u) (ty : TyN X.K H x T) : ∃ P : Heap -> Prop,P s.heap /\ PySem.W.KitX X.K u (.type T) P /\ u ≠ .builtin "__main__.__loader__#opaque" := by
  cases x with
  | non => cases (show u = Value.none from rx);cases (show T = _ from ty);exact ⟨_,True.intro,PySem.W.kitx_none,fun z => nomatch z⟩
  | bl y => cases (show u = Value.bool y from rx);cases (show T = _ from ty);exact ⟨_,True.intro,PySem.W.kitx_bool,fun z => nomatch z⟩
  | int i => obtain ⟨t,q⟩ := (show ∃ t,u = Value.int i t from rx);cases q;cases (show T = _ from ty);exact ⟨_,True.intro,PySem.W.kitx_int,fun z => nomatch z⟩
  | str y => obtain ⟨t,q⟩ := (show ∃ t,u = Value.str y t from rx);cases q;cases (show T = _ from ty);exact ⟨_,True.intro,PySem.W.kitx_str,fun z => nomatch z⟩
  | ref a =>
    cases (show u = Value.ref a from rx)
    rcases (show _ \/ _ from ty) with ⟨e,xs,hx⟩ | ⟨e,xs,hx⟩
    · subst e
      obtain ⟨its,r,⟨o,n,e1,e2,_⟩,_⟩ := I.list hx
      exact ⟨_,⟨o,e1,e2⟩,PySem.W.kitx_list,fun z => nomatch z⟩
    · subst e
      obtain ⟨its,r,⟨o,e1,e2,_⟩,_⟩ := I.tuple hx
      exact ⟨_,⟨o,e1,e2⟩,PySem.W.kitx_tuple,fun z => nomatch z⟩
  | _ => exact (show False from ty).elim
end
section
variable {X : Cx}
theorem ZI : ∀ {Cs : List String} {us : List Value},Vals (Cs.map V.ty) us -> us = Cs.map Value.type
  | [],us,r => by cases r;rfl
  | C :: r,us,h => by
    cases h with
    | cons h1 h2 => rw [ZI h2,show _ = Value.type C from h1];rfl
inductive vY (K : PySem.W.Frag) (xs : List V) (H : Hp) (Q : VK) : Prop
  | mk (x T C : _) (_ : xs = [x,.ty C]) (_ : TyN K H x T) (_ : C ∈ xL) (_ : Q (.bl (Zo T C)) H) : vY K xs H Q
theorem z6 : CallR X (.builtin "isinstance") (vY X.K) := by
  intro pins s σ H xs us Q I r h
  obtain ⟨x,T,C,rfl,ty,hC,q⟩ := h
  obtain ⟨u,w',rfl,ru,rw'⟩ := vv r
  cases (show w' = Value.type C from rw')
  obtain ⟨P,hP,Z,hn⟩ := Qc I ru ty
  exact PySem.W.kia_one Z I.kIn hP (Qd T ty.mem C hC) hn fun tk => ⟨.bl _,H,I.tok tk,rfl,q⟩
inductive ve (K : PySem.W.Frag) (xs : List V) (H : Hp) (Q : VK) : Prop
  | mk (x : V) (T : String) (p : Addr) (Cs : List String) (_ : xs = [x,.ref p]) (_ : TyN K H x T) (_ : H p = some (.tup (Cs.map V.ty))) (_ : (∀ C ∈ Cs,C ∈ xL)) (_ : Q (.bl (Cs.any fun C => Zo T C)) H) : ve K xs H Q
theorem xj : CallR X (.builtin "isinstance") (ve X.K) := by
  intro pins s σ H xs us Q I r h
  obtain ⟨x,T,p,Cs,rfl,ty,hp,hC,q⟩ := h
  obtain ⟨u,w',rfl,ru,rw'⟩ := vv r
  cases (show w' = Value.ref p from rw')
  obtain ⟨P,hP,Z,hn⟩ := Qc I ru ty
  obtain ⟨its,r',⟨o,e1,e2,n,e3⟩,_⟩ := I.tuple (SqT.of hp)
  obtain ⟨c,dd,dt,sl⟩ := o
  have e2 : c = .type "tuple" := e2
  have e3 : dt = .seq its.toArray n := e3
  subst e2 e3
  rw [ZI r'] at e1
  exact PySem.W.kia_tup Z I.kIn hP e1 (yY ty.mem hC) hn fun tk => ⟨.bl _,H,I.tok tk,rfl,q⟩
end
inductive Dat where
  | non | bl (b : Bool) | int (i : Int) | str (x : Str) | lst (ds : List Dat) | tup (ds : List Dat)
mutual
def Rep (K : PySem.W.Frag) (H : Hp) : Dat -> V -> Prop
  | .non,v => v = .non
  | .bl b,v => v = .bl b
  | .int i,v => v = .int i
  | .str x,v => v = .str x
  | .lst ds,v => ∃ a xs,v = .ref a /\ SqL K H a xs /\ Reps K H ds xs
  | .tup ds,v => ∃ a xs,v = .ref a /\ SqT K H a xs /\ Reps K H ds xs
def Reps (K : PySem.W.Frag) (H : Hp) : List Dat -> List V -> Prop
  | [],xs => xs = []
  | d :: ds,xs => ∃ x r,xs = x :: r /\ Rep K H d x /\ Reps K H ds r
end
mutual
def Dat.dp : Dat -> Nat
  | .lst ds => Dat.dps ds + 1
  | .tup ds => Dat.dps ds + 1
  | _ => 0
def Dat.dps : List Dat -> Nat
  | [] => 0
  | d :: ds => max d.dp (Dat.dps ds)
end
theorem Same.sqT {K : PySem.W.Frag} {H H' : Hp} {a : Addr} {xs : List V} (e : Same H H') (h : SqT K H a xs) : SqT K H' a xs := by
  rcases h with (h | ⟨o,h⟩) | h
  · exact .inl (.inl (e _ _ h))
  · exact .inl (.inr ⟨o,e _ _ h⟩)
  · exact .inr h
mutual
theorem Rep.same {K : PySem.W.Frag} {H H' : Hp} (e : Same H H') : ∀ {d : Dat} {v : V},Rep K H d v -> Rep K H' d v
  | .non,_,h => h
  | .bl _,_,h => h
  | .int _,_,h => h
  | .str _,_,h => h
  | .lst _,_,h => by
    obtain ⟨a,xs,e1,e2,e3⟩ := h
    exact ⟨a,xs,e1,e.seq e2,Reps.same e e3⟩
  | .tup _,_,h => by
    obtain ⟨a,xs,e1,e2,e3⟩ := h
    exact ⟨a,xs,e1,e.sqT e2,Reps.same e e3⟩
theorem Reps.same {K : PySem.W.Frag} {H H' : Hp} (e : Same H H') : ∀ {ds : List Dat} {xs : List V},Reps K H ds xs -> Reps K H' ds xs
  | [],_,h => h
  | _ :: _,_,h => by
    obtain ⟨x,r,e1,e2,e3⟩ := h
    exact ⟨x,r,e1,Rep.same e e2,Reps.same e e3⟩
end
theorem Reps.len {K : PySem.W.Frag} {H : Hp} : ∀ {ds : List Dat} {xs : List V},Reps K H ds xs -> xs.length = ds.length
  | [],_,h => by rw [show _ = _ from h];rfl
  | _ :: _,_,h => by
    obtain ⟨x,r,e1,e2,e3⟩ := h
    rw [e1,List.length_cons,List.length_cons,Reps.len e3]
theorem Reps.get {K : PySem.W.Frag} {H : Hp} : ∀ {ds : List Dat} {xs : List V} {i : Nat} {x : V},Reps K H ds xs -> xs[i]? = some x -> ∃ d,ds[i]? = some d /\ Rep K H d x
  | [],_,_,_,h,e => by rw [show _ = _ from h] at e;simp at e
  | d :: ds,_,i,x,h,e => by
    obtain ⟨y,r,e1,e2,e3⟩ := h
    subst e1
    cases i with
    | zero => simp at e;subst e;exact ⟨d,rfl,e2⟩
    | succ i =>
      obtain ⟨d',q1,q2⟩ := Reps.get (i := i) e3 (by simpa using e)
      exact ⟨d',by simpa using q1,q2⟩
theorem zb {H : Hp} {a : Addr} {o : HO} (h : H a = none) : Same H (upd H a o) := fun b u e => by rw [zq (zn e h)];exact e
section
variable {X : Cx}
end
end L2
set_option Elab.async false
set_option linter.all false
set_option maxRecDepth 100000
set_option maxHeartbeats 4000000
namespace L2
open PySem PySem.Spec PyProof.Rows
section
variable {X : Cx}
end
structure Dfn (P : Program) (w : World) (K : PySem.W.Frag) (mg : Str -> Option Value) (base : Heap) (x : Str) (k : Nat) (ps : List Str) (sp : Sp) : Prop where
  ex : ∃ f fd,FnOk P w K mg base CX0 k f fd ps sp /\ mg x = some (.ref f) /\ PySem.W.keepIn K (.ref f) = true /\ Binds K fd ps []
section
variable {X : Cx} {x : Str} {k : Nat} {ps : List Str} {sp : Sp} {p pos : Pos} {e : Expr} {es : List Expr} {t : TA}
theorem zg (D : Dfn X.prog X.w X.K X.mg X.base x k ps sp) (hr : Room k X.A) (hg : Gl X x) (ha : PA X (e :: es) t) (hd : (x == ("__debug__" : Str)) = false := by decide)
    (hs : starEach (e :: es) X.env = (false,eval e X.env) :: starEach es X.env := by rfl) (hpl : (backTo pos (starEach es X.env)).any (·.1) = false := by rfl) : PE X (.Call (.Name x p) (e :: es) [] pos) (Vk sp [] E0 t) := by
  obtain ⟨f,fd,F,hm,hk,hb⟩ := D.ex
  exact XR F hr hg hm hk hb .nil WF ha hd hs hpl
end
end L2
set_option Elab.async false
set_option linter.all false
set_option maxRecDepth 100000
set_option maxHeartbeats 4000000
namespace L2
open PySem PySem.Spec PyProof.Rows
theorem ifT {b : Bool} {A B : Prop} (h : b = true) (q : A) : if b = true then A else B := by rw [if_pos h];exact q
theorem ifF {b : Bool} {A B : Prop} (h : b = false) (q : B) : if b = true then A else B := by rw [if_neg (by rw [h];exact Bool.false_ne_true)];exact q
theorem yh {K : PySem.W.Frag} {k1 k2 : Bool} {a1 a2 : Addr} {xs ys : List V} {g : TG} {tf : TT} {te : TE} {σ0 : St} {n : Nat} {R : List V -> Hp -> Prop} {H : Hp} (Pv : Nat -> List V -> Hp -> Prop) (h0 : Pv 0 [] H)
    (h1 : ∀ i zs H,Pv i zs H -> SqK K k1 H a1 xs /\ SqK K k2 H a2 ys)
    (hs : ∀ i x y zs H T,xs[i]? = some x -> ys[i]? = some y -> Pv i zs H -> H T = none -> g (.ref T) σ0 (upd H T (.tup [x,y])) fun σ4 H4 => σ4.drop n = σ0.drop n /\ tf σ4 H4 fun b H5 =>
      if b = true then te σ4 H5 fun v H6 => zs.length < sizeLine /\ Pv (i + 1) (zs ++ [v]) H6 else Pv (i + 1) zs H5)
    (hd : ∀ zs H,Pv (min xs.length ys.length) zs H -> zs.length <= sizeLine /\ R zs H) :
    ∃ W : Nat -> Nat -> List V -> Hp -> Prop,(∃ m,W 0 m [] H) /\ ∀ i m zs H2,W i m zs H2 ->
      ((Itz K k1 k2 a1 a2).stop i H2 /\ zs.length <= sizeLine /\ R zs H2) \/
      ((Itz K k1 k2 a1 a2).go i H2 /\ ∃ N : List V -> Hp -> Prop,(∀ zs H',N zs H' -> ∃ m',m' < m /\ W (i + 1) m' zs H') /\ ∀ x H3,(Itz K k1 k2 a1 a2).yld i H2 x H3 -> g x σ0 H3 fun σ4 H4 => σ4.drop n = σ0.drop n /\ tf σ4 H4 fun b H5 =>
        if b = true then te σ4 H5 fun y H6 => zs.length < sizeLine /\ N (zs ++ [y]) H6 else N zs H5) := by
  refine ⟨fun i m zs H2 => m = min xs.length ys.length - i /\ i <= min xs.length ys.length /\ Pv i zs H2,⟨_,rfl,Nat.zero_le _,h0⟩,?_⟩
  rintro i m zs H2 ⟨rfl,hi,p⟩
  obtain ⟨q1,q2⟩ := h1 i zs H2 p
  by_cases hlt : i < min xs.length ys.length
  · have l1 : i < xs.length := by omega
    have l2 : i < ys.length := by omega
    refine .inr ⟨⟨xs,ys,xs[i],ys[i],q1,q2,by simp [l1],by simp [l2]⟩,Pv (i + 1),fun zs' H' p' => ⟨_,by omega,rfl,hlt,p'⟩,fun x H3 y => ?_⟩
    obtain ⟨T,u,v,e1,hT,e2,y1,y2⟩ := y
    subst e1 e2
    exact hs i u v zs H2 T (y1 xs q1) (y2 ys q2) p hT
  · have e : i = min xs.length ys.length := by omega
    subst e
    obtain ⟨z1,z2⟩ := hd zs H2 p
    exact .inl ⟨⟨xs,ys,q1,q2,by omega⟩,z1,z2⟩
theorem vQ {lo : Int} {N n : Nat} {g : TG} {tf : TT} {te : TE} {σ0 : St} {R : List V -> Hp -> Prop} {H : Hp} (Pv : Nat -> List V -> Hp -> Prop) (h0 : Pv 0 [] H)
    (hs : ∀ i zs H,i < N -> Pv i zs H -> g (.int (lo + i)) σ0 H fun σ4 H4 => σ4.drop n = σ0.drop n /\ tf σ4 H4 fun b H5 => if b = true then te σ4 H5 fun v H6 => zs.length < sizeLine /\ Pv (i + 1) (zs ++ [v]) H6 else Pv (i + 1) zs H5)
    (hd : ∀ zs H,Pv N zs H -> zs.length <= sizeLine /\ R zs H) :
    ∃ W : Nat -> Nat -> List V -> Hp -> Prop,(∃ m,W 0 m [] H) /\ ∀ i m zs H2,W i m zs H2 ->
      ((Itr lo N).stop i H2 /\ zs.length <= sizeLine /\ R zs H2) \/
      ((Itr lo N).go i H2 /\ ∃ M : List V -> Hp -> Prop,(∀ zs H',M zs H' -> ∃ m',m' < m /\ W (i + 1) m' zs H') /\ ∀ x H3,(Itr lo N).yld i H2 x H3 -> g x σ0 H3 fun σ4 H4 => σ4.drop n = σ0.drop n /\ tf σ4 H4 fun b H5 =>
        if b = true then te σ4 H5 fun y H6 => zs.length < sizeLine /\ M (zs ++ [y]) H6 else M zs H5) := by
  refine ⟨fun i m zs H2 => m = N - i /\ i <= N /\ Pv i zs H2,⟨_,rfl,Nat.zero_le _,h0⟩,?_⟩
  rintro i m zs H2 ⟨rfl,hi,p⟩
  by_cases hlt : i < N
  · refine .inr ⟨hlt,Pv (i + 1),fun zs' H' p' => ⟨_,by omega,rfl,hlt,p'⟩,fun x H3 y => ?_⟩
    obtain ⟨e1,e2⟩ := y
    subst e1 e2
    exact hs i zs _ hlt p
  · have e : i = N := by omega
    subst e
    obtain ⟨z1,z2⟩ := hd zs H2 p
    exact .inl ⟨Nat.le_refl _,z1,z2⟩
def xy (sn on : List (Str × NameKind)) (N own fr : List Str) (js : List Nat) : Bool :=
  vU sn on N fr js && own.all (fun x => sn.lookup x == some .local) && decide (own ++ fr).Nodup
theorem jC {sn on : List (Str × NameKind)} {N own fr : List Str} {js : List Nat} (h : xy sn on N own fr js = true) : vU sn on N fr js = true /\ (∀ x ∈ own,sn.lookup x = some .local) /\ (own ++ fr).Nodup := by
  unfold xy at h
  rw [Bool.and_eq_true,Bool.and_eq_true,List.all_eq_true] at h
  exact ⟨h.1.1,fun x hx => by simpa using h.1.2 x hx,of_decide_eq_true h.2⟩
section
variable {X : Cx} {elt iter : Expr} {ifs : List Expr} {scope : Scope} {pos px py tp : Pos} {wi : TI} {tf : TT} {te : TE} {x y : Str} {kk : Nat}
theorem jX {N' : List Str} {C : Addr} {s : Shared} {H : Hp} {ex : List Addr} {i : Nat} (hl : scope.names.lookup x = some .local) (nd : N'.Nodup) (hi : N'[i]? = some x) : PG (zu X N' scope C s H ex) (.Name x px) (j5 i) :=
  zF (X := zu X N' scope C s H ex) nd hi (.inl (lookup_relabel_local hl)) (.inr (lookup_relabel_local hl))
theorem jH (fr : List Str) (js : List Nat) (hc : X.calm = true) (hk : scope.kind = .function) (hb : xy scope.names X.env.scope.names X.N [x] fr js = true) (hi : PI X (.Name x px) iter wi)
    (hf : ∀ C s H ex,PF (zu X ([x] ++ fr) scope C s H ex) ifs tf) (he : ∀ C s H ex,PE (zu X ([x] ++ fr) scope C s H ex) elt te)
    (hs : ∀ x,foldedSetIterable iter X.env x = pure x := by intro _;rfl) : PE X (.ListComp elt [⟨.Name x px,iter,ifs,0⟩] scope pos) (tLC wi 1 js (j5 0) tf te) := by
  obtain ⟨h1,h2,h3⟩ := jC hb
  exact Vy [x] fr js hc hk h1 hi (fun C s H ex => jX (h2 x (by simp)) h3 rfl) hf he hs
theorem xu (fr : List Str) (js : List Nat) (hc : X.calm = true) (hk : scope.kind = .function) (hb : xy scope.names X.env.scope.names X.N [x,y] fr js = true) (hi : PI X (.Tuple [.Name x px,.Name y py] kk tp) iter wi)
    (hf : ∀ C s H ex,PF (zu X ([x,y] ++ fr) scope C s H ex) ifs tf) (he : ∀ C s H ex,PE (zu X ([x,y] ++ fr) scope C s H ex) elt te)
    (hs : ∀ x,foldedSetIterable iter X.env x = pure x := by intro _;rfl) : PE X (.ListComp elt [⟨.Tuple [.Name x px,.Name y py] kk tp,iter,ifs,0⟩] scope pos) (tLC wi 2 js (Vd X.K 2 (wH (j5 0) (wH (j5 1) Wf))) tf te) := by
  obtain ⟨h1,h2,h3⟩ := jC hb
  refine Vy [x,y] fr js hc hk h1 hi (fun C s H ex => ?_) hf he hs
  exact jy (X := zu X ([x,y] ++ fr) scope C s H ex) hc (zN (jX (h2 x (by simp)) h3 rfl) (zN (jX (h2 y (by simp)) h3 rfl) jc))
end
def tWk (t : TS) : TS := fun D σ H => ∃ J : St -> Hp -> Prop,t { D with nx := J } σ H /\ ∀ σ' H',J σ' H' -> D.nx σ' H'
theorem qU {X : Cx} {st : Stmt} {t : TS} (h : PS X st t) : PS X st (tWk t) := by
  intro pins s σ H D I hw
  obtain ⟨J,q1,q2⟩ := hw
  refine thn (h pins s σ H _ I q1) fun f s1 q => ?_
  cases f with
  | next => obtain ⟨σ',H',I',z⟩ := q;exact ⟨σ',H',I',q2 σ' H' z⟩
  | brk => exact q
  | cont => exact q
  | ret u => exact q
def Dat.ok : Nat -> Dat -> Prop
  | n + 1,.lst ds => ds.length <= 1000000 /\ ∀ d ∈ ds,Dat.ok n d
  | n + 1,.tup ds => ds.length <= 1000000 /\ ∀ d ∈ ds,Dat.ok n d
  | 0,.lst _ => False
  | 0,.tup _ => False
  | _,_ => True
def Dat.tyN : Dat -> String
  | .non => "NoneType" | .bl _ => "bool" | .int _ => "int" | .str _ => "str" | .lst _ => "list" | .tup _ => "tuple"
theorem Rep.ty {K : PySem.W.Frag} {H : Hp} {d : Dat} {v : V} (h : Rep K H d v) : TyN K H v d.tyN := by
  cases d with
  | non => rw [show v = _ from h];exact rfl
  | bl b => rw [show v = _ from h];exact rfl
  | int b => rw [show v = _ from h];exact rfl
  | str b => rw [show v = _ from h];exact rfl
  | lst ds => obtain ⟨a,xs,rfl,e,_⟩ := h;exact .inl ⟨rfl,xs,e⟩
  | tup ds => obtain ⟨a,xs,rfl,e,_⟩ := h;exact .inr ⟨rfl,xs,e⟩
end L2
set_option Elab.async false
set_option linter.all false
set_option maxRecDepth 100000
set_option maxHeartbeats 4000000
namespace L2
open PySem PySem.Spec PyProof.Rows
mutual
def Dat.py : Dat -> PyData
  | .non => .none
  | .bl b => .bool b
  | .int i => .int i
  | .str x => .str x
  | .lst ds => .list (Dat.pys ds)
  | .tup ds => .tuple (Dat.pys ds)
def Dat.pys : List Dat -> List PyData
  | [] => []
  | d :: ds => d.py :: Dat.pys ds
end
mutual
def Dat.shw : Dat -> Bool
  | .int i => decide (i.natAbs < 1000000000000)
  | .str x => x.cps.toList.all fun c => decide (c < 1000000)
  | .lst ds => Dat.shws ds
  | .tup ds => Dat.shws ds
  | _ => true
def Dat.shws : List Dat -> Bool
  | [] => true
  | d :: ds => d.shw && Dat.shws ds
end
mutual
def Dat.blk : Dat -> Nat
  | .str x => x.cps.size
  | .lst ds => Dat.blks ds
  | .tup ds => Dat.blks ds
  | _ => 0
def Dat.blks : List Dat -> Nat
  | [] => 0
  | d :: ds => d.blk + 1 + Dat.blks ds
end
mutual
theorem Dat.py_blk : ∀ d : Dat,d.py.bulk = d.blk
  | .non => rfl
  | .bl _ => rfl
  | .int _ => rfl
  | .str _ => rfl
  | .lst ds => Dat.pys_blk ds
  | .tup ds => Dat.pys_blk ds
theorem Dat.pys_blk : ∀ ds : List Dat,PyData.bulkAll (Dat.pys ds) = Dat.blks ds
  | [] => rfl
  | d :: ds => by
    show PyData.bulk d.py + 1 + PyData.bulkAll (Dat.pys ds) = d.blk + 1 + Dat.blks ds
    rw [Dat.py_blk d,Dat.pys_blk ds]
end
theorem yg {n : Nat} (h : n < 1000000000000) : n.log2 < 1920 := by
  by_cases h0 : n = 0
  · rw [h0];decide
  · exact Nat.lt_trans ((Nat.log2_lt h0).mpr (Nat.lt_trans h (by decide : 1000000000000 < 2 ^ 40))) (by decide)
mutual
theorem Dat.py_short : ∀ d : Dat,d.shw = true -> d.py.leavesShort 13 = true /\ d.py.showable = true /\ d.py.hasDict = false
  | .non,_ => ⟨rfl,rfl,rfl⟩
  | .bl _,_ => ⟨rfl,rfl,rfl⟩
  | .int i,h => by
    have h' : i.natAbs < 1000000000000 := of_decide_eq_true h
    refine ⟨decide_eq_true (PyData.shown_int_le h'),decide_eq_true (yg h'),rfl⟩
  | .str x,h => by
    refine ⟨?_,rfl,rfl⟩
    have h' : (x.cps.toList.all fun c => decide (c < 1000000)) = true := h
    show (x.cps.toList.all fun c => decide (c < 16 ^ 8)) = true
    rw [List.all_eq_true] at h' ⊢
    intro c hc
    have := of_decide_eq_true (h' c hc)
    exact decide_eq_true (by omega)
  | .lst ds,h => Dat.pys_short ds h
  | .tup ds,h => Dat.pys_short ds h
theorem Dat.pys_short : ∀ ds : List Dat,Dat.shws ds = true -> PyData.leavesShortAll 13 (Dat.pys ds) = true /\ PyData.showableAll (Dat.pys ds) = true /\ PyData.hasDictAll (Dat.pys ds) = false
  | [],_ => ⟨rfl,rfl,rfl⟩
  | d :: ds,h => by
    have h' : (d.shw && Dat.shws ds) = true := h
    rw [Bool.and_eq_true] at h'
    obtain ⟨a1,a2,a3⟩ := Dat.py_short d h'.1
    obtain ⟨b1,b2,b3⟩ := Dat.pys_short ds h'.2
    refine ⟨?_,?_,?_⟩
    · show (PyData.leavesShort 13 d.py && PyData.leavesShortAll 13 (Dat.pys ds)) = true
      rw [a1,b1];rfl
    · show (PyData.showable d.py && PyData.showableAll (Dat.pys ds)) = true
      rw [a2,b2];rfl
    · show (PyData.hasDict d.py || PyData.hasDictAll (Dat.pys ds)) = false
      rw [a3,b3];rfl
end
mutual
theorem Rep.reads {X : Cx} {pins : List (Addr × Obj)} {σ : St} {H : Hp} {s : Shared} (I : Inv X pins σ H s) : ∀ {d : Dat} {v : V} {u : Value},Rep X.K H d v -> RelV v u -> ∃ as,Reads s.heap u d.py as
  | .non,v,u,h,r => by cases (show v = _ from h);cases (show u = _ from r);exact ⟨_,.none⟩
  | .bl b,v,u,h,r => by cases (show v = _ from h);cases (show u = _ from r);exact ⟨_,.bool b⟩
  | .int i,v,u,h,r => by cases (show v = _ from h);obtain ⟨t,rfl⟩ := r;exact ⟨_,.int i t⟩
  | .str x,v,u,h,r => by cases (show v = _ from h);obtain ⟨t,rfl⟩ := r;exact ⟨_,.str x t⟩
  | .lst ds,v,u,h,r => by
    obtain ⟨a,xs,rfl,hx,hr⟩ := h
    cases (show u = _ from r)
    obtain ⟨its,rv,pl,_⟩ := I.list hx
    obtain ⟨o,e,c,n,dd⟩ := pl.isList
    obtain ⟨as,q⟩ := Reps.reads I hr rv
    exact ⟨_,.list e c dd (by simpa using q)⟩
  | .tup ds,v,u,h,r => by
    obtain ⟨a,xs,rfl,hx,hr⟩ := h
    cases (show u = _ from r)
    obtain ⟨its,rv,⟨o,e,c,n,dd⟩,_⟩ := I.tuple hx
    obtain ⟨as,q⟩ := Reps.reads I hr rv
    exact ⟨_,.tuple e c dd (by simpa using q)⟩
theorem Reps.reads {X : Cx} {pins : List (Addr × Obj)} {σ : St} {H : Hp} {s : Shared} (I : Inv X pins σ H s) : ∀ {ds : List Dat} {xs : List V} {us : List Value},Reps X.K H ds xs -> Vals xs us -> ∃ as,ReadsAll s.heap us (Dat.pys ds) as
  | [],xs,us,h,r => by cases (show xs = _ from h);cases r;exact ⟨_,.nil⟩
  | d :: ds,xs,us,h,r => by
    obtain ⟨x,r',rfl,h1,h2⟩ := h
    cases r with
    | cons r1 r2 =>
      obtain ⟨as,q1⟩ := Rep.reads I h1 r1
      obtain ⟨bs,q2⟩ := Reps.reads I h2 r2
      exact ⟨_,.cons q1 q2⟩
end
section
variable {X : Cx}
end
end L2
set_option Elab.async false
set_option linter.all false
set_option maxRecDepth 100000
set_option maxHeartbeats 4000000
namespace L2
open PySem PySem.Spec PyProof.Rows
theorem Qj {K : PySem.W.Frag} {k1 k2 : Bool} {a1 a2 : Addr} {xs ys : List V} {g : TG} {tb : TS} {D : wc} {σ : St} {H : Hp} (Pv : Nat -> St -> Hp -> Prop) (h0 : Pv 0 σ H)
    (hl : ∀ i σ H,Pv i σ H -> SqK K k1 H a1 xs /\ SqK K k2 H a2 ys)
    (hs : ∀ i x y σ H T,xs[i]? = some x -> ys[i]? = some y -> Pv i σ H -> H T = none -> g (.ref T) σ (upd H T (.tup [x,y])) fun σ2 H2 => tb { D with nx := Pv (i + 1),ct := Pv (i + 1),bk := D.nx } σ2 H2)
    (hd : ∀ σ H,Pv (min xs.length ys.length) σ H -> D.nx σ H) :
    ∃ W : Nat -> Nat -> St -> Hp -> Prop,(∃ m,W 0 m σ H) /\ ∀ i m σ H,W i m σ H ->
      ((Itz K k1 k2 a1 a2).stop i H /\ D.nx σ H) \/ ((Itz K k1 k2 a1 a2).go i H /\ ∃ N : St -> Hp -> Prop,(∀ σ' H',N σ' H' -> ∃ m',m' < m /\ W (i + 1) m' σ' H') /\ ∀ x H',(Itz K k1 k2 a1 a2).yld i H x H' -> g x σ H' fun σ2 H2 => tb { D with nx := N,ct := N,bk := D.nx } σ2 H2) := by
  refine ⟨fun i m σ H => m = min xs.length ys.length - i /\ i <= min xs.length ys.length /\ Pv i σ H,⟨_,rfl,Nat.zero_le _,h0⟩,?_⟩
  rintro i m σ H ⟨rfl,hi,p⟩
  obtain ⟨q1,q2⟩ := hl i σ H p
  by_cases hlt : i < min xs.length ys.length
  · have l1 : i < xs.length := by omega
    have l2 : i < ys.length := by omega
    refine .inr ⟨⟨xs,ys,xs[i],ys[i],q1,q2,by simp [l1],by simp [l2]⟩,Pv (i + 1),fun σ' H' p' => ⟨_,by omega,rfl,hlt,p'⟩,fun x H' y => ?_⟩
    obtain ⟨T,u,v,e1,hT,e2,y1,y2⟩ := y
    subst e1 e2
    exact hs i u v σ H T (y1 xs q1) (y2 ys q2) p hT
  · have e : i = min xs.length ys.length := by omega
    subst e
    exact .inl ⟨⟨xs,ys,q1,q2,by omega⟩,hd σ H p⟩
end L2
set_option Elab.async false
set_option linter.all false
set_option maxRecDepth 100000
set_option maxHeartbeats 4000000
namespace L2
open PySem PySem.Spec PyProof.Rows
section
variable {X : Cx}
end
section
variable {X : Cx} {tg : Expr}
end
section
variable {X : Cx}
inductive Z3 (x : V) (vs : List V) (H : Hp) (Q : VK) : Prop
  | mk (l : Addr) (xs : List V) (i : Int) (y : V) (_ : x = .ref l) (_ : vs = [.int i,y]) (_ : H l = some (.lst xs)) (_ : 0 <= i) (_ : i < 2 ^ 62) (_ : xs.length < sizeLine) (_ : Q .non (upd H l (.lst (xs.take i.toNat ++ y :: xs.drop i.toNat)))) : Z3  x vs H Q
theorem wF : MtM X "list.insert" Z3 := by
  intro pins s σ H x vs v us Q I rx rv h
  obtain ⟨l,xs,i,y,rfl,rfl,hH,i0,i1,hz,q⟩ := h
  cases rx
  obtain ⟨u1,u2,rfl,r1,r2⟩ := vv rv
  obtain ⟨t,rfl⟩ := r1
  obtain ⟨z,its,n,r,hl,e⟩ := I.lstM hH
  have hlen := r.length
  refine call_meets F.slot_list_insert ⟨_,e,rfl⟩ F.entry_list_insert (F.args_list_insert_3 _ _ _) (AutoListH.list_insert_list_int_val_1 l its.toArray n i t u2 ?_ (by rw [List.size_toArray];omega)) ⟨e,?_⟩
  · unfold Builtin.List.listFitsIndex
    simp
    omega
  refine ⟨.non,_,I.lset (its' := its.take i.toNat ++ u2 :: its.drop i.toNat) hH e ?_ ((r.take _).append (.cons r2 (r.drop _))) ?_,rfl,q⟩
  · show (have k := if i < 0 then (i + ((its.toArray.size : Nat) : Int)).toNat else min i.toNat its.toArray.size;(its.toArray.extract 0 k).push u2 ++ its.toArray.extract k) = _
    have hk : (if i < 0 then (i + ((its.toArray.size : Nat) : Int)).toNat else min i.toNat its.toArray.size) = min i.toNat its.length := by
      rw [if_neg (by omega),List.size_toArray]
    simp only [hk]
    apply Array.toList_inj.mp
    simp
    by_cases hle : i.toNat <= its.length
    · have h1 : (its.drop i.toNat).take (its.length - i.toNat) = its.drop i.toNat := List.take_of_length_le (by rw [List.length_drop];omega)
      rw [Nat.min_eq_left hle,h1]
    · have h1 : its.length <= i.toNat := by omega
      rw [Nat.min_eq_right h1,List.take_of_length_le h1,List.drop_of_length_le h1]
      simp
  · simp only [List.length_append,List.length_take,List.length_cons,List.length_drop]
    omega
theorem wd {xs : List V} {its : List Value} (r : Vals xs its) : ∀ js : List Nat,Vals (js.filterMap (xs[·]?)) (js.filterMap (its[·]?))
  | [] => .nil
  | j :: js => by
    have ih := wd r js
    have hl := r.length
    cases h : xs[j]? with
    | none =>
      have h' : its[j]? = none := by
        rw [List.getElem?_eq_none_iff] at h ⊢;omega
      rw [List.filterMap_cons_none h,List.filterMap_cons_none h']
      exact ih
    | some x =>
      obtain ⟨u,e,ru⟩ := r.get h
      rw [List.filterMap_cons_some h,List.filterMap_cons_some e]
      exact .cons ru ih
variable {e st : Expr} {te : TE} {tk : TO} {pos p2 : Pos}
theorem Q0 (he : PE X e te) (hk : PO X (some st) tk) : PE X (.Subscript e (.Slice none none (some st) p2) pos) (fun σ H Q => te σ H fun x H1 => tk σ H1 fun k H2 => ∃ a xs,x = .ref a /\ k ≠ some 0 /\ SqL X.K H2 a xs /\
    ∀ ys p,(∀ y ∈ ys,y ∈ xs) -> ys.length <= xs.length -> H2 p = none -> Q (.ref p) (upd H2 p (.lst ys))) := by
  intro pins s σ H Q I h
  refine Subscript_ (thn (he pins s σ H _ I h) fun v s1 ⟨x,H1,I1,r1,q1⟩ => ?_)
  refine wpAny_Slice ?_
  rw [evalPart_none]
  refine wpAny_pure (wpAny_pure ?_)
  refine thn (hk pins s1 σ H1 _ I1 q1) fun vk s3 ⟨k,H3,I3,pk,q3⟩ => ?_
  obtain ⟨a,xs,rfl,k0,hx,q⟩ := q3
  cases r1
  have I4 : Inv X pins σ H3 { s3 with heap := s3.heap.push { cls := .type "slice",data := .fields #[.none,.none,vk] } } := I3.kept (t' := s3.toks) fun b ob q => Heap.get?_push_of_some _ q
  obtain ⟨its,r,ht,hz⟩ := I4.list hx
  have hlen := r.length
  show wpAny (model X.prog X.w) X.A (subscriptTail e (.Slice none none (some st) p2) (.ref a) (.ref s3.heap.objs.size)) (EP X pins σ Q) X.xe { s3 with heap := s3.heap.push { cls := .type "slice",data := .fields #[.none,.none,vk] } }
  refine tail_any (ops := [.ref a,.ref s3.heap.objs.size]) (T := "list") ht.isList.typeIs slot_list_getitem.lookup ?_ (by with_unfolding_all rfl)
  refine wpAny_getItem_list_slice (lo := none) (hi := none) (st := k) ht.isList (Heap.IsSliceOf.new ..) .none .none pk k0 ?_ (by rw [List.size_toArray] <;> omega)
  have hsz := slicePick_size_le its.toArray none none k
  unfold slicePick at hsz ⊢
  generalize (sliceRange (sliceBounds none none k its.toArray.size).1 (sliceBounds none none k its.toArray.size).2.1 (sliceBounds none none k its.toArray.size).2.2) = js at hsz ⊢
  have e1 : js.filterMap (its.toArray[·]?) = js.filterMap (its[·]?) := by simp
  rw [e1] at hsz ⊢
  have rv := wd r js
  have hl2 := rv.length
  simp only [List.size_toArray] at hsz
  refine ⟨.ref _,_,I4.laid (t' := s3.toks) (o := .lst (js.filterMap (xs[·]?))) (fun b ob q => Heap.get?_push_of_some _ q) (Nat.le_refl _) ?_,rfl,q _ _ (fun y hy => ?_) (by omega) (I4.hok.fresh (Nat.le_refl _))⟩
  · exact ⟨by omega,_,0,rv,Heap.get?_push_size _ rfl⟩
  · obtain ⟨j,_,hj⟩ := List.mem_filterMap.mp hy
    exact List.mem_of_getElem? hj
end
end L2
set_option Elab.async false
set_option linter.all false
set_option maxRecDepth 100000
set_option maxHeartbeats 4000000
namespace L2
open PySem PySem.Spec PyProof.Rows
theorem xG {K : PySem.W.Frag} {a : Addr} {xs : List V} {g : TG} {tf : TT} {te : TE} {σ0 : St} {n : Nat} {R : List V -> Hp -> Prop} {H : Hp} (Pv : Nat -> List V -> Hp -> Prop) (h0 : Pv 0 [] H)
    (h1 : ∀ i zs H,Pv i zs H -> SqL K H a xs)
    (hs : ∀ i x zs H,xs[i]? = some x -> Pv i zs H -> g x σ0 H fun σ4 H4 => σ4.drop n = σ0.drop n /\ tf σ4 H4 fun b H5 =>
      if b = true then te σ4 H5 fun v H6 => zs.length < sizeLine /\ Pv (i + 1) (zs ++ [v]) H6 else Pv (i + 1) zs H5)
    (hd : ∀ zs H,Pv xs.length zs H -> zs.length <= sizeLine /\ R zs H) :
    ∃ W : Nat -> Nat -> List V -> Hp -> Prop,(∃ m,W 0 m [] H) /\ ∀ i m zs H2,W i m zs H2 ->
      ((Itl K a).stop i H2 /\ zs.length <= sizeLine /\ R zs H2) \/
      ((Itl K a).go i H2 /\ ∃ N : List V -> Hp -> Prop,(∀ zs H',N zs H' -> ∃ m',m' < m /\ W (i + 1) m' zs H') /\ ∀ x H3,(Itl K a).yld i H2 x H3 -> g x σ0 H3 fun σ4 H4 => σ4.drop n = σ0.drop n /\ tf σ4 H4 fun b H5 =>
        if b = true then te σ4 H5 fun y H6 => zs.length < sizeLine /\ N (zs ++ [y]) H6 else N zs H5) := by
  refine ⟨fun i m zs H2 => m = xs.length - i /\ i <= xs.length /\ Pv i zs H2,⟨_,rfl,Nat.zero_le _,h0⟩,?_⟩
  rintro i m zs H2 ⟨rfl,hi,p⟩
  have q := h1 i zs H2 p
  by_cases hlt : i < xs.length
  · refine .inr ⟨⟨xs,xs[i],q,by simp [hlt]⟩,Pv (i + 1),fun zs' H' p' => ⟨_,by omega,rfl,hlt,p'⟩,fun x H3 y => ?_⟩
    obtain ⟨e,y⟩ := y
    subst e
    exact hs i x zs _ (y xs q) p
  · have e : i = xs.length := by omega
    subst e
    obtain ⟨z1,z2⟩ := hd zs H2 p
    exact .inl ⟨⟨xs,q,Nat.le_refl _⟩,z1,z2⟩
theorem j3 {K : PySem.W.Frag} {a : Addr} {xs : List V} {g : TG} {tf : TT} {te : TE} {σ0 : St} {n : Nat} {R : List V -> Hp -> Prop} {H : Hp} (Pv : Nat -> List V -> Hp -> Prop) (h0 : Pv 0 [] H)
    (h1 : ∀ i zs H,Pv i zs H -> SqT K H a xs)
    (hs : ∀ i x zs H,xs[i]? = some x -> Pv i zs H -> g x σ0 H fun σ4 H4 => σ4.drop n = σ0.drop n /\ tf σ4 H4 fun b H5 =>
      if b = true then te σ4 H5 fun v H6 => zs.length < sizeLine /\ Pv (i + 1) (zs ++ [v]) H6 else Pv (i + 1) zs H5)
    (hd : ∀ zs H,Pv xs.length zs H -> zs.length <= sizeLine /\ R zs H) :
    ∃ W : Nat -> Nat -> List V -> Hp -> Prop,(∃ m,W 0 m [] H) /\ ∀ i m zs H2,W i m zs H2 ->
      ((Itt K a).stop i H2 /\ zs.length <= sizeLine /\ R zs H2) \/
      ((Itt K a).go i H2 /\ ∃ N : List V -> Hp -> Prop,(∀ zs H',N zs H' -> ∃ m',m' < m /\ W (i + 1) m' zs H') /\ ∀ x H3,(Itt K a).yld i H2 x H3 -> g x σ0 H3 fun σ4 H4 => σ4.drop n = σ0.drop n /\ tf σ4 H4 fun b H5 =>
        if b = true then te σ4 H5 fun y H6 => zs.length < sizeLine /\ N (zs ++ [y]) H6 else N zs H5) := by
  refine ⟨fun i m zs H2 => m = xs.length - i /\ i <= xs.length /\ Pv i zs H2,⟨_,rfl,Nat.zero_le _,h0⟩,?_⟩
  rintro i m zs H2 ⟨rfl,hi,p⟩
  have q := h1 i zs H2 p
  by_cases hlt : i < xs.length
  · refine .inr ⟨⟨xs,xs[i],q,by simp [hlt]⟩,Pv (i + 1),fun zs' H' p' => ⟨_,by omega,rfl,hlt,p'⟩,fun x H3 y => ?_⟩
    obtain ⟨e,y⟩ := y
    subst e
    exact hs i x zs _ (y xs q) p
  · have e : i = xs.length := by omega
    subst e
    obtain ⟨z1,z2⟩ := hd zs H2 p
    exact .inl ⟨⟨xs,q,Nat.le_refl _⟩,z1,z2⟩
inductive DV (K : PySem.W.Frag) (F : Hp) (n : Nat) : V -> Prop
  | non : DV K F n .non
  | bl (b : Bool) : DV K F n (.bl b)
  | int (i : Int) (h : i.natAbs <= 10000000000 + n) : DV K F n (.int i)
  | str (x : Str) (h : x.length <= n) : DV K F n (.str x)
  | lst (a : Addr) (xs : List V) (h : SqL K F a xs) (hl : xs.length <= n) (all : ∀ x ∈ xs,DV K F n x) : DV K F n (.ref a)
  | tup (a : Addr) (xs : List V) (h : SqT K F a xs) (hl : xs.length <= n) (all : ∀ x ∈ xs,DV K F n x) : DV K F n (.ref a)
def WX (ex : List Addr) (H : Hp) : Hp := fun c => if c ∈ ex then none else H c
theorem WX.le {ex : List Addr} {H : Hp} : Same (WX ex H) H := fun c o e => by
  unfold WX at e
  split at e
  · cases e
  · exact e
theorem WX.new {ex : List Addr} {H : Hp} {p : Addr} {o : HO} (h : H p = none) : Same (WX ex H) (WX ex (upd H p o)) := fun c u e => by
  unfold WX at e ⊢
  split at e
  · cases e
  · rename_i hc
    rw [if_neg hc,zq (zn e h)]
    exact e
theorem WX.cons {ex : List Addr} {H : Hp} {m : Addr} : Same (WX (m :: ex) H) (WX ex H) := fun c u e => by
  unfold WX at e ⊢
  split at e
  · cases e
  · rename_i hc
    rw [if_neg (fun z => hc (List.mem_cons_of_mem _ z))]
    exact e
theorem WX.fresh {ex : List Addr} {H : Hp} {m : Addr} (h : H m = none) (o : HO) : Same (WX ex H) (WX (m :: ex) (upd H m o)) := fun c u e => by
  unfold WX at e ⊢
  split at e
  · cases e
  · rename_i hc
    have hm : c ≠ m := zn e h
    rw [if_neg (fun z => (List.mem_cons.mp z).elim hm hc),zq hm]
    exact e
theorem WX.put {ex : List Addr} {H : Hp} {m : Addr} {o : HO} (h : m ∈ ex) : Same (WX ex H) (WX ex (upd H m o)) := fun c u e => by
  unfold WX at e ⊢
  split at e
  · cases e
  · rename_i hc
    rw [if_neg hc,zq (show c ≠ m from fun z => hc (by rw [z];exact h))]
    exact e
theorem WX.at {ex : List Addr} {H : Hp} {c : Addr} {o : HO} (h : c ∉ ex) (e : H c = some o) : WX ex H c = some o := by
  unfold WX;rw [if_neg h];exact e
theorem ZD {i : Int} (h : i.natAbs < 1000000000000) : (Str.ofString (toString i)).length <= 13 := PyData.shown_int_le h
end L2
set_option Elab.async false
set_option linter.all false
set_option maxRecDepth 100000
set_option maxHeartbeats 4000000
namespace L2
open PySem PySem.Spec PyProof.Rows
def Qa : Expr -> Bool
  | .Starred _ _ => false
  | _ => true
theorem zB {e : Expr} {es : List Expr} {env : Env} (h : Qa e = true) : starEach (e :: es) env = (false,eval e env) :: starEach es env := by
  cases e <;> first | rfl | cases h
theorem pa5 {X : Cx} {e0 e1 e2 e3 e4 : Expr} {t0 t1 t2 t3 t4 : TE} (h0 : PE X e0 t0) (h1 : PE X e1 t1) (h2 : PE X e2 t2) (h3 : PE X e3 t3) (h4 : PE X e4 t4) (h : ([e0,e1,e2,e3,e4]).all Qa = true := by rfl) : PA X [e0,e1,e2,e3,e4] (qr t0 (qr t1 (qr t2 (qr t3 (qr t4 XG))))) := by
  have hz := List.all_eq_true.mp h
  exact (za h0 (za h1 (za h2 (za h3 (za h4 zc (zB (hz _ (by simp)))) (zB (hz _ (by simp)))) (zB (hz _ (by simp)))) (zB (hz _ (by simp)))) (zB (hz _ (by simp))))
theorem pa6 {X : Cx} {e0 e1 e2 e3 e4 e5 : Expr} {t0 t1 t2 t3 t4 t5 : TE} (h0 : PE X e0 t0) (h1 : PE X e1 t1) (h2 : PE X e2 t2) (h3 : PE X e3 t3) (h4 : PE X e4 t4) (h5 : PE X e5 t5) (h : ([e0,e1,e2,e3,e4,e5]).all Qa = true := by rfl) : PA X [e0,e1,e2,e3,e4,e5] (qr t0 (qr t1 (qr t2 (qr t3 (qr t4 (qr t5 XG)))))) := by
  have hz := List.all_eq_true.mp h
  exact (za h0 (za h1 (za h2 (za h3 (za h4 (za h5 zc (zB (hz _ (by simp)))) (zB (hz _ (by simp)))) (zB (hz _ (by simp)))) (zB (hz _ (by simp)))) (zB (hz _ (by simp)))) (zB (hz _ (by simp))))
end L2
set_option Elab.async false
set_option linter.all false
set_option maxRecDepth 100000
set_option maxHeartbeats 4000000
namespace L2
open PySem PySem.Spec PyProof.Rows
section
variable {X : Cx} {elt tg iter : Expr} {ifs : List Expr} {scope : Scope} {pos : Pos} {wi : TI} {g : TG} {tf : TT} {te : TE}
theorem Vw {y : Str} {py spos : Pos} {g2 : TG} (own fr : List Str) (js : List Nat) (hc : X.calm = true) (hk : scope.kind = .function) (hb : vU scope.names X.env.scope.names X.N fr js = true) (hi : PI X tg iter wi)
    (hg : ∀ C s H ex,PG (zu X (own ++ fr) scope C s H ex) tg g) (hf : ∀ C s H ex,PF (zu X (own ++ fr) scope C s H ex) ifs tf) (he : ∀ C s H ex,PE (zu X (own ++ fr) scope C s H ex) elt te)
    (hg2 : PG X (.Name y py) g2) (hsw : swapsWith (.ListComp elt [⟨tg,iter,ifs,0⟩] scope pos) (some (.Name y py)) spos.line X.env = pure true := by rfl)
    (hs : ∀ x,foldedSetIterable iter X.env x = pure x := by intro _;rfl) : PS X (.Assign [.Name y py] (.ListComp elt [⟨tg,iter,ifs,0⟩] scope pos) spos) (Zn (tLC wi own.length js g tf te) g2) := by
  intro pins s σ H Dn I h
  have B := vT hb
  have hasF : ∀ y ∈ scope.names,y.2 = NameKind.free -> ∃ c,X.env.cells.lookup y.1 = some c := fun y hy e => I.ok.has y.1 (B.free y hy e)
  rw [exec_Assign_Name_used _ _ _ _ hsw]
  refine wpAny_bind (wpAny_standAt (wpAny_bind ?_))
  show wpAny _ X.A (do let _ <- comprehension (.ListComp elt [⟨tg,iter,ifs,0⟩] scope pos) scope X.env _ (newList []) false (eval iter X.env) (some (assign (.Name y py) X.env))) _ _ s
  refine wpAny_bind (wpAny_mono (wpAny_comprehension_free (use := some (assign (.Name y py) X.env)) (Q := fun _ s' => ∃ σ' H',Inv X pins σ' H' s' /\ Dn.nx σ' H') rfl hs (yo hasF) hk (fun y hy e => B.loc y hy e) (thn (hi pins s σ H _ I h) fun v s1 h1 => thn h1 fun itv s2 h2 => ?_)) (fun _ s' hq => wpAny_pure (wpAny_pure hq)) fun _ _ e => e)
  obtain ⟨it,fp,tn,J,H2,e,I2,T,st2,f2,W,⟨m0,w0⟩,turn⟩ := h2
  subst e
  have fl : ∀ b ∈ fp,b < s2.heap.objs.size := fun b hb => let ⟨o,e,_⟩ := T.obj _ _ st2 b hb;Heap.lt_size e
  refine wpAny_newObj_type (wpAny_newFunctionEnv B.cell (by intro y hy;simp at hy) (fun h1 hns hsb => ?_) hk)
  dsimp only at hns hsb ⊢
  generalize e3 : s2.heap.push { cls := .type "list",dict := none,data := .seq ([] : List Value).toArray } = h3 at hns hsb ⊢
  have k3 : ∀ b o,s2.heap.get? b = some o -> h3.get? b = some o := fun b o e => by rw [<- e3];exact Heap.get?_push_of_some _ e
  have k4 : ∀ b o,h3.get? b = some o -> h1.get? b = some o := fun b o e => hsb.extBut b o (Nat.ne_of_lt (Heap.lt_size e)) (Heap.get?_push_of_some _ e)
  have I4 : Inv (zu X (own ++ fr) scope h3.objs.size { s2 with heap := h3 } H2 (s2.heap.objs.size :: fp)) [] (upS own.length js σ) H2 { s2 with heap := h1,toks := s2.toks + ([] : List (Str × Value)).length } :=
    xY own fr js I2 B hk f2 fl rfl e3.symm rfl hns k4
  have I3 : Inv X pins σ H2 { s2 with heap := h3 } := I2.kept (t' := s2.toks) k3
  have hz : h3.objs.size = s2.heap.objs.size + 1 := by rw [<- e3,Heap.size_push]
  have hDl : s2.heap.objs.size ≠ h3.objs.size := by rw [hz];exact Nat.ne_of_lt (Nat.lt_succ_self _)
  have hacc : h1.get? s2.heap.objs.size = some { cls := .type "list",data := .seq ([] : List Value).toArray } := k4 _ _ (by rw [<- e3];exact Heap.get?_push_size _ rfl)
  have fpC := (I3.fpOk (b := h3.objs.size) (Nat.le_refl _) (I3.hok.fresh (Nat.le_refl _))).2
  generalize eD : s2.heap.objs.size = D at *
  generalize eC : h3.objs.size = C at *
  have fD : ∀ b ∈ fp,D ≠ b := fun b hb => Nat.ne_of_gt (fl b hb)
  have hx : ∀ x c,(qF X.env.cells scope.names []).lookup x = some c -> c ≠ D := fun x c e => by
    obtain ⟨v,q⟩ := I2.cell x c (z9 e hasF)
    rw [<- eD];exact Nat.ne_of_lt q.lt
  have hx2 : ∀ b ∈ fp,∀ x c,(qF X.env.cells scope.names []).lookup x = some c -> c ≠ b := fun b hb x c e => (f2 b hb).2.2.2.2.1 x c (z9 e hasF)
  have nfs : ∀ b ∈ D :: fp,b ∉ frs X.stack := I4.ok.exfs
  have fpB : ∀ {pins' : List (Addr × Obj)} {H' : Hp} {b : Addr},b ∈ fp -> H' b = none -> (∀ p ∈ pins',p.1 ≠ b) -> jw (zu X (own ++ fr) scope C { s2 with heap := h3 } H2 (D :: fp)) pins' H' b := fun {pins' H' b} hb hn hp =>
    ⟨hn,(I4.ok.exf b (List.mem_cons_of_mem _ hb)).1,nfs b (List.mem_cons_of_mem _ hb),.inl (List.mem_cons_of_mem _ hb),fun x c e => hx2 b hb x c e,fun p h => hp p (by simpa using h)⟩
  have fpD : ∀ {pins' : List (Addr × Obj)} {H' : Hp},H' D = none -> (∀ p ∈ pins',p.1 ≠ D) -> jw (zu X (own ++ fr) scope C { s2 with heap := h3 } H2 (D :: fp)) pins' H' D := fun {pins' H'} hn hp =>
    ⟨hn,hDl,nfs D List.mem_cons_self,.inl List.mem_cons_self,fun x c e => hx x c e,fun p h => hp p (by simpa using h)⟩
  have loop : ∀ s4 : Shared,s4 = { s2 with heap := h1,toks := s2.toks + ([] : List (Str × Value)).length } ->
      codeAny (model X.prog X.w) X.A (.compLoop (.ListComp elt [⟨tg,iter,ifs,0⟩] scope pos) 0 (.ref it) (.ref D) (compEnvC scope (qF X.env.cells scope.names []) C X.env))
        (compPost (model X.prog X.w) X.A X.xe (some (assign (.Name y py) X.env)) (fun _ s' => ∃ σ' H',Inv X pins σ' H' s' /\ Dn.nx σ' H') (.ref D) C) s4 := by
    intro s4 e4
    refine Ze (fun n s' => ∃ i ys its H',∃ z : Nat,Inv (zu X (own ++ fr) scope C { s2 with heap := h3 } H2 (D :: fp)) [] (upS own.length js σ) H' s' /\ tn i s'.heap /\ (∀ b ∈ fp,H' b = none) /\ H' D = none /\
      s'.heap.get? D = some { cls := .type "list",data := .seq (its : List Value).toArray z } /\ Vals ys its /\ W i n ys H') ?_ m0 ?_
    · rintro n s5 ⟨i,ys,its,H5,z5,I5,st5,fr5,hD5,ho5,rv5,w5⟩
      have I5' := I5.pinned (fp := [D]) (fun b hb => by rw [List.mem_singleton.mp hb];exact fpD hD5 (fun p hp => absurd hp (by simp))) (fun b hb => by
        rw [List.mem_singleton.mp hb];exact ⟨_,ho5,fun v q => nomatch q⟩)
      have pD : ∀ p ∈ [] ++ zD [D] s5.heap,p.1 = D := fun p hp => by
        rw [List.nil_append] at hp
        exact List.mem_singleton.mp (jj hp).1
      have mD : (D,({ cls := .type "list",data := .seq its.toArray z5 } : Obj)) ∈ [] ++ zD [D] s5.heap := by
        rw [List.nil_append];exact zS (List.mem_singleton.mpr rfl) ho5
      have fp5 : ∀ {H' : Hp},(∀ b ∈ fp,H' b = none) -> ∀ b ∈ fp,jw (zu X (own ++ fr) scope C { s2 with heap := h3 } H2 (D :: fp)) ([] ++ zD [D] s5.heap) H' b := fun hn b hb => fpB hb (hn b hb) fun p hp => by
        rw [pD p hp];exact fD b hb
      rcases turn i n ys H5 w5 with ⟨stop,hlen,q⟩ | ⟨go,N,hN,step⟩
      · refine thn (T.done (zu X (own ++ fr) scope C { s2 with heap := h3 } H2 (D :: fp)) rfl rfl rfl hc i _ s5 _ H5 _ I5' (fp5 fr5) st5 stop) fun r s6 ⟨hr,I6⟩ => ?_
        subst hr
        obtain ⟨m6,hn6,_⟩ := I6.loc
        obtain ⟨o6,nD6,_⟩ := I6.pin (D,_) (List.mem_append_right _ mD)
        have k7 : ∀ b o,b ≠ C -> s6.heap.get? b = some o -> s6.heap.get? b = some o := fun b o _ e => e
        have J0 : Inv X pins σ (upd H5 D (.lst ys)) s6 := by
          refine I3.call' (s' := s6) (ch := D :: fp) I6.os (xz (Zj I6.base (Nat.le_of_eq eC) k7) List.mem_cons_self (I2.hok.fresh ?_)) (xg (yk I6.hok I6.free k7) nD6 ⟨hlen,its,z5,rv5,k7 D _ hDl o6⟩) I6.bare fun b hb => ?_
          · rw [<- eD];exact Nat.le_refl _
          · rcases List.mem_cons.mp hb with y | hb
            · subst y
              refine ⟨.inr (by rw [<- eD];exact I2.sz),by rw [<- eD];exact Nat.ne_of_gt I2.lt,fun x c e => ?_,fun p hp => ?_⟩
              · obtain ⟨v,q⟩ := I2.cell x c e
                rw [<- eD];exact Nat.ne_of_lt q.lt
              · rw [<- eD];exact Nat.ne_of_lt (Heap.lt_size (I2.pin p hp).1)
            · obtain ⟨_,g1,_,g3,g4,g5⟩ := f2 b hb
              exact ⟨g3,g1,g4,g5⟩
        obtain ⟨oC,eoC,dC⟩ : ∃ o,s6.heap.get? C = some o /\ ∀ v,o.data ≠ .cell v := by
          obtain ⟨o,es,ep,ho,hd,_⟩ := hn6
          exact ⟨o,ho,fun v z => by rw [hd] at z;cases z⟩
        have hC0 : (upd H5 D (.lst ys)) C = none := by
          rw [zq (Ne.symm hDl)];exact I6.free
        have J1 := J0.pinned (fp := [C]) (fun b hb => by rw [List.mem_singleton.mp hb];exact ⟨hC0,fpC⟩) (fun b hb => by rw [List.mem_singleton.mp hb];exact ⟨oC,eoC,dC⟩)
        have mC : (C,oC) ∈ pins ++ zD [C] s6.heap := List.mem_append_right _ (zS (List.mem_singleton.mpr rfl) eoC)
        refine thn (hg2 _ s6 σ _ (.ref D) (.ref D) _ J1 rfl (q D nD6)) fun _ s8 ⟨σ8,H8,I8,q8⟩ => ?_
        obtain ⟨e8,n8,_⟩ := I8.pin (C,oC) (List.mem_append_right _ mC)
        refine ⟨m6,?_,fun h9 hs9 => ⟨σ8,H8,?_,q8⟩⟩
        · obtain ⟨o,es,ep,ho,r⟩ := hn6
          have ho' : s6.heap.get? C = some o := ho
          rw [eoC] at ho';cases ho'
          exact ⟨oC,es,ep,e8,r⟩
        · obtain ⟨g1,_,g3,g4,g5⟩ := fpC
          exact (I8.unpinned).turned (t' := s8.toks) (it := C) (fun b o hb e => hs9.extBut b o hb e) n8 g1 g3 g4 g5
      · refine thn (T.item (zu X (own ++ fr) scope C { s2 with heap := h3 } H2 (D :: fp)) rfl rfl rfl hc i _ s5 _ H5 _ I5' (fp5 fr5) st5 go) fun r s6 ⟨u,hr,h6⟩ => ?_
        subst hr
        refine thn h6 fun _ s7 ⟨x,H7,I7,r7,y7,st7,fr7⟩ => ?_
        have I7' := I7.pinned (fp5 fr7) (T.obj _ _ st7)
        refine thn (hg _ _ _ _ _ s7 _ H7 x u _ I7' r7 (step x H7 y7)) fun _ s8 ⟨σ8,H8,I8,hd8,q8⟩ => ?_
        refine thn (hf _ _ _ _ _ s8 σ8 H8 _ I8 q8) fun ok s9 ⟨H9,I9,q9⟩ => ?_
        have weak : ∀ {H' : Hp} {s' : Shared},Inv (zu X (own ++ fr) scope C { s2 with heap := h3 } H2 (D :: fp)) (([] ++ zD [D] s5.heap) ++ zD fp s7.heap) σ8 H' s' ->
            Inv (zu X (own ++ fr) scope C { s2 with heap := h3 } H2 (D :: fp)) [] (upS own.length js σ) H' s' := fun {H' s'} J => by
          refine (J.unpinned).unpinned.weak (I5.len.trans J.len.symm) fun k v e => ?_
          obtain ⟨hn,e1,_⟩ := jS e
          rw [<- hd8,List.getElem?_drop] at e1
          rw [<- e1]
          congr 1
          omega
        have mF : ∀ b ∈ fp,∀ o,s7.heap.get? b = some o -> (b,o) ∈ ([] ++ zD [D] s5.heap) ++ zD fp s7.heap := fun b hb o e => List.mem_append_right _ (zS hb e)
        have mD' := List.mem_append_left (zD fp s7.heap) mD
        have frB : ∀ {H' : Hp} {s' : Shared},Inv (zu X (own ++ fr) scope C { s2 with heap := h3 } H2 (D :: fp)) (([] ++ zD [D] s5.heap) ++ zD fp s7.heap) σ8 H' s' -> ∀ b ∈ fp,H' b = none := fun {H' s'} J b hb => by
          obtain ⟨o,e,_⟩ := T.obj _ _ st7 b hb
          exact (J.pin (b,o) (List.mem_append_right _ (mF b hb o e))).2.1
        cases ok with
        | false =>
          have q9' : N ys H9 := by simpa using q9
          obtain ⟨m',hm,w'⟩ := hN _ _ q9'
          obtain ⟨o9,nD9,_⟩ := I9.pin (D,_) (List.mem_append_right _ mD')
          exact ⟨m',hm,i + 1,ys,its,H9,z5,weak I9,T.keep _ _ _ st7 fun b hb o e => (I9.pin (b,o) (List.mem_append_right _ (mF b hb o e))).1,frB I9,nD9,o9,rv5,w'⟩
        | true =>
          have q9' : te σ8 H9 fun y H6 => ys.length < sizeLine /\ N (ys ++ [y]) H6 := by simpa using q9
          refine thn (he _ _ _ _ _ s9 σ8 H9 _ I9 q9') fun yv s10 ⟨y,H10,I10,r10,hlt,w10⟩ => ?_
          obtain ⟨m',hm,w'⟩ := hN _ _ w10
          obtain ⟨o10,nD10,_⟩ := I10.pin (D,_) (List.mem_append_right _ mD')
          refine wpAny_list_append_plain (l := D) (items := its.toArray) (hsz := by rw [List.size_toArray,<- rv5.length];exact Nat.le_of_lt hlt) ⟨_,o10⟩ fun h11 hl11 hs11 => ?_
          obtain ⟨z11,e11⟩ := hl11
          refine ⟨m',hm,i + 1,ys ++ [y],its ++ [yv],H10,z11,?_,T.keep _ _ _ st7 fun b hb o e => hs11.extBut b o (Ne.symm (fD b hb)) (I10.pin (b,o) (List.mem_append_right _ (mF b hb o e))).1,frB I10,nD10,?_,rv5.append (.cons r10 .nil),w'⟩
          · exact (weak I10).turned (t' := s10.toks) (it := D) (fun b o hb e => hs11.extBut b o hb e) nD10 hDl (.inl List.mem_cons_self) (fun x c e => hx x c e) fun p hp => absurd (show p ∈ ([] : List (Addr × Obj)) from hp) (by simp)
          · rw [e11];simp
    · subst e4
      exact ⟨0,[],[],H2,0,I4,T.keep _ _ _ st2 fun b hb o e => k4 b o (k3 b o e),fun b hb => (f2 b hb).1,I2.hok.fresh (by rw [<- eD];exact Nat.le_refl _),hacc,.nil,w0⟩
  exact codeAny_compStart_list (loop _ rfl) (T.self X.A 0 _ _ _ (T.keep _ _ _ st2 fun b hb o e => k4 b o (k3 b o e)) (loop _ rfl))
theorem JI {x y : Str} {px py spos : Pos} {g2 : TG} (fr : List Str) (js : List Nat) (hc : X.calm = true) (hk : scope.kind = .function) (hb : xy scope.names X.env.scope.names X.N [x] fr js = true) (hi : PI X (.Name x px) iter wi)
    (hf : ∀ C s H ex,PF (zu X ([x] ++ fr) scope C s H ex) ifs tf) (he : ∀ C s H ex,PE (zu X ([x] ++ fr) scope C s H ex) elt te)
    (hg2 : PG X (.Name y py) g2) (hsw : swapsWith (.ListComp elt [⟨.Name x px,iter,ifs,0⟩] scope pos) (some (.Name y py)) spos.line X.env = pure true := by rfl)
    (hs : ∀ x,foldedSetIterable iter X.env x = pure x := by intro _;rfl) : PS X (.Assign [.Name y py] (.ListComp elt [⟨.Name x px,iter,ifs,0⟩] scope pos) spos) (Zn (tLC wi 1 js (j5 0) tf te) g2) := by
  obtain ⟨h1,h2,h3⟩ := jC hb
  exact Vw [x] fr js hc hk h1 hi (fun C s H ex => jX (h2 x (by simp)) h3 rfl) hf he hg2 hsw hs
theorem JH {x z y : Str} {px pz py spos tp : Pos} {kk : Nat} {g2 : TG} (fr : List Str) (js : List Nat) (hc : X.calm = true) (hk : scope.kind = .function) (hb : xy scope.names X.env.scope.names X.N [x,z] fr js = true) (hi : PI X (.Tuple [.Name x px,.Name z pz] kk tp) iter wi)
    (hf : ∀ C s H ex,PF (zu X ([x,z] ++ fr) scope C s H ex) ifs tf) (he : ∀ C s H ex,PE (zu X ([x,z] ++ fr) scope C s H ex) elt te)
    (hg2 : PG X (.Name y py) g2) (hsw : swapsWith (.ListComp elt [⟨.Tuple [.Name x px,.Name z pz] kk tp,iter,ifs,0⟩] scope pos) (some (.Name y py)) spos.line X.env = pure true := by rfl)
    (hs : ∀ x,foldedSetIterable iter X.env x = pure x := by intro _;rfl) : PS X (.Assign [.Name y py] (.ListComp elt [⟨.Tuple [.Name x px,.Name z pz] kk tp,iter,ifs,0⟩] scope pos) spos) (Zn (tLC wi 2 js (Vd X.K 2 (wH (j5 0) (wH (j5 1) Wf))) tf te) g2) := by
  obtain ⟨h1,h2,h3⟩ := jC hb
  refine Vw [x,z] fr js hc hk h1 hi (fun C s H ex => ?_) hf he hg2 hsw hs
  exact jy (X := zu X ([x,z] ++ fr) scope C s H ex) hc (zN (jX (h2 x (by simp)) h3 rfl) (zN (jX (h2 z (by simp)) h3 rfl) jc))
end
end L2
set_option Elab.async false
set_option linter.all false
set_option maxRecDepth 100000
set_option maxHeartbeats 4000000
namespace L2
open PySem PySem.Spec PyProof.Rows
theorem Vals.mem {u : Value} : ∀ {xs : List V} {us : List Value},Vals xs us -> u ∈ us -> ∃ x ∈ xs,RelV x u
  | _,_,.nil,h => by cases h
  | x :: xs,v :: vs,.cons r t,h => by
    rcases List.mem_cons.mp h with e | h
    · rw [e];exact ⟨x,List.mem_cons_self,r⟩
    · obtain ⟨y,hy,ry⟩ := Vals.mem t h
      exact ⟨y,List.mem_cons_of_mem _ hy,ry⟩
section
variable {X : Cx}
theorem Wh {pins : List (Addr × Obj)} {σ : St} {H : Hp} {s : Shared} (I : Inv X pins σ H s) {A : Around} (hu : A.units < cLine) {a c : Addr} {xs ys : List V} (hx : SqT X.K H a xs) (hy : SqT X.K H c ys) (fx : xs.all jf = true) (fy : ys.all jf = true) : ∃ b,SeqAt.EqAt A s (.ref a) (.ref c) b := by
  by_cases hac : a = c
  · subst hac
    exact ⟨true,SeqAt.EqAt.same _⟩
  · obtain ⟨its1,r1,p1,z1⟩ := I.tuple hx
    obtain ⟨its2,r2,p2,z2⟩ := I.tuple hy
    have l1 := r1.length
    have l2 := r2.length
    refine ⟨_,SeqAt.EqAt.of_refs hac (SeqAt.RcAt.tuples (e := fun j => eqV (xs.getD j .non) (ys.getD j .non)) p1 p2 hu (fun j h1 h2 => ?_))⟩
    have h1' : j < xs.length := by rw [List.size_toArray] at h1;omega
    have h2' : j < ys.length := by rw [List.size_toArray] at h2;omega
    obtain ⟨w1,e1,q1⟩ := r1.get (i := j) (x := xs[j]) (by simp [h1'])
    obtain ⟨w2,e2,q2⟩ := r2.get (i := j) (x := ys[j]) (by simp [h2'])
    have g1 : its1.toArray[j] = w1 := by simpa using (List.getElem?_eq_some_iff.mp e1).2
    have g2 : its2.toArray[j] = w2 := by simpa using (List.getElem?_eq_some_iff.mp e2).2
    rw [g1,g2,show xs.getD j .non = xs[j] by simp [h1'],show ys.getD j .non = ys[j] by simp [h2']]
    exact Xr q1 q2 (List.all_eq_true.mp fx _ (List.getElem_mem h1')) (List.all_eq_true.mp fy _ (List.getElem_mem h2'))
inductive wS (K : PySem.W.Frag) (x : V) (y : V) (H : Hp) (Q : VK) : Prop
  | mk (a p : Addr) (zs xs : List V) (_ : x = .ref a) (_ : y = .ref p) (_ : SqT K H a zs) (_ : zs.all jf = true) (_ : SqL K H p xs) (_ : (∀ v ∈ xs,∃ (c : Addr) (ws : List V),v = .ref c /\ SqT K H c ws /\ ws.all jf = true)) (_ : ∀ r : Bool,Q (.bl r) H) : wS K x y H Q
open Classical in
theorem XS (hu : X.A.units + 64 < cLine) : OpR X (compareOp .In) (wS X.K) := by
  intro pins s σ H x y v u Q I rx ry h
  obtain ⟨a,p,zs,xs,rfl,rfl,ha,fa,hp,all,q⟩ := h
  cases rx
  cases ry
  obtain ⟨its,r,pl,hz⟩ := I.list hp
  have ex : ∀ w ∈ its,∃ b,SeqAt.EqAt X.A.in1 s w (.ref a) b := fun w hw => by
    obtain ⟨x,hx,rxw⟩ := Vals.mem r hw
    obtain ⟨c,ws,rfl,hc,fc⟩ := all x hx
    cases rxw
    exact Wh I (by show X.A.units + 1 < cLine;omega) hc ha fc fa
  refine SeqAt.in_listAt (fun w => if h : ∃ b,SeqAt.EqAt X.A.in1 s w (.ref a) b then h.choose else false) pl.isList (fun w hw => ?_) ⟨.bl _,H,I,rfl,q _⟩
  have hw' := ex w (by simpa using hw)
  simp only [hw',dif_pos]
  exact hw'.choose_spec
inductive vW (K : PySem.W.Frag) (x : V) (y : V) (H : Hp) (Q : VK) : Prop
  | mk (a b : Addr) (xs : List V) (_ : x = .ref a) (_ : y = .ref b) (_ : SqL K H a xs) (_ : SqL K H b []) (_ : Q (.bl (!xs.isEmpty)) H) : vW K x y H Q
theorem xF (hu : X.A.units < cLine) : OpR X (compareOp .NotEq) (vW X.K) := by
  intro pins s σ H x y v u Q I rx ry h
  obtain ⟨a,b,xs,rfl,rfl,hx,hy,q⟩ := h
  cases rx
  cases ry
  obtain ⟨its1,r1,p1,z1⟩ := I.list hx
  obtain ⟨its2,r2,p2,z2⟩ := I.list hy
  cases r2
  cases r1 with
  | nil => exact SeqAt.RcNeAt.lists (e := fun _ => true) p1.isList p2.isList rfl hu (fun j h1 _ => by simp at h1) _ _ _ _ ⟨.bl _,H,I,rfl,q⟩
  | cons r t => exact SeqAt.RcNeAt.lists_lengths p1.isList p2.isList (by simp) hu _ _ _ _ ⟨.bl _,H,I,rfl,q⟩
inductive vX (K : PySem.W.Frag) (x : V) (y : V) (H : Hp) (Q : VK) : Prop
  | mk (a b : Addr) (xs : List V) (_ : x = .ref a) (_ : y = .ref b) (_ : SqL K H a xs) (_ : SqL K H b []) (_ : Q (.bl xs.isEmpty) H) : vX K x y H Q
theorem yO (hu : X.A.units < cLine) : OpR X (compareOp .Eq) (vX X.K) := by
  intro pins s σ H x y v u Q I rx ry h
  obtain ⟨a,b,xs,rfl,rfl,hx,hy,q⟩ := h
  cases rx
  cases ry
  obtain ⟨its1,r1,p1,z1⟩ := I.list hx
  obtain ⟨its2,r2,p2,z2⟩ := I.list hy
  cases r2
  cases r1 with
  | nil => exact SeqAt.RcAt.lists (e := fun _ => true) p1.isList p2.isList rfl hu (fun j h1 _ => by simp at h1) _ _ _ _ ⟨.bl _,H,I,rfl,q⟩
  | cons r t => exact SeqAt.RcAt.lists_lengths p1.isList p2.isList (by simp) hu _ _ _ _ ⟨.bl _,H,I,rfl,q⟩
theorem yu : ∀ {its : List Value} {n k : Nat},its.length = n -> (∀ j v,its[j]? = some v -> ∃ t,v = Value.int ((k + j : Nat) : Int) t) -> Vals ((List.range' k n).map fun i : Nat => V.int (i : Int)) its
  | [],0,k,_,_ => .nil
  | v :: its,n + 1,k,hl,h => by
    rw [List.range'_succ,List.map_cons]
    obtain ⟨t,e⟩ := h 0 v rfl
    refine .cons ⟨t,by rw [e];rfl⟩ (yu (by simpa using hl) fun j w hw => ?_)
    obtain ⟨t',e'⟩ := h (j + 1) w (by simpa using hw)
    exact ⟨t',by rw [e',show k + (j + 1) = k + 1 + j by omega]⟩
theorem xE {a : Expr} {ta : TA} {p p2 pos pos2 : Pos} (hc : X.calm = true) (hg : Gl X "list") (hm : X.mg "list" = none) (hg2 : Gl X "range") (hm2 : X.mg "range" = none) (hv : bootBuiltins "list" = some (.type "list")) (ha : PA X [a] ta) (hs : starEach [a] X.env = [(false,eval a X.env)] := by rfl)
    (he : starEach [.Call (.Name "range" p2) [a] [] pos2] X.env = [(false,eval (.Call (.Name "range" p2) [a] [] pos2) X.env)] := by rfl) :
    PE X (.Call (.Name "list" p) [.Call (.Name "range" p2) [a] [] pos2] [] pos) (fun σ H Q => ta σ H fun vs H1 => ∃ j : Int,vs = [.int j] /\ 0 <= j /\ j <= 1000000 /\ ∀ l,H1 l = none -> Q (.ref l) (upd H1 l (.lst ((List.range j.toNat).map fun i : Nat => V.int (i : Int))))) := by
  intro pins s σ H Q I h
  refine wpAny_Call_Name_kw (jK I hg hm hv ?_ (by decide) (by decide))
  refine PyProof.Rows.callWith_type1 ?_ he rfl
  rw [he]
  refine Calls.spliced_cons ?_
  refine Call_ (jK I hg2 hm2 boot_range (PyProof.Rows.callWith_type1 (thn (ha pos2 pins s σ H _ I h) fun us s1 ⟨vs,H1,I1,r1,q1⟩ => ?_) hs rfl))
  obtain ⟨j,e,j0,j1,q⟩ := q1
  subst e
  cases r1 with
  | cons r rr =>
    cases rr
    obtain ⟨t,rfl⟩ := r
    refine call_range_1 (Calls.spliced_nil ?_)
    have I2 : Inv X pins σ H1 { s1 with heap := s1.heap.push { cls := .type "range",data := .fields #[.int 0 s1.toks,.int j t,.int 1 (s1.toks + 1)] },toks := s1.toks + 1 + 1 } := I1.kept fun b o e => Heap.get?_push_of_some _ e
    have e62 : (2 : Int) ^ 62 = 4611686018427387904 := by decide
    refine call_list_range (n := j.toNat) (I.ok.hd hc) (IsRange.new ..) (small_one (by rw [e62];omega) (by rw [e62];omega) (by rw [e62];omega) (by rw [e62];omega)) (by rw [rangeSize_one];split <;> omega) (by omega) fun h' tk acc' c' keep get items => ?_
    refine ⟨.ref _,_,I2.laid (t' := tk) (o := .lst ((List.range j.toNat).map fun i : Nat => V.int (i : Int))) keep (Nat.le_refl _) ?_,rfl,q _ (I2.hok.fresh (Nat.le_refl _))⟩
    refine ⟨by rw [List.length_map,List.length_range,sizeLine_eq];omega,acc'.toList,c',?_,by rw [Array.toArray_toList];exact get⟩
    rw [List.range_eq_range']
    refine yu (by rw [Array.length_toList];exact items.1) fun i v hv => ?_
    obtain ⟨t',e'⟩ := items.2 i v (by simpa using hv)
    exact ⟨t',by rw [e'];congr 1;omega⟩
end
end L2
set_option Elab.async false
set_option linter.all false
set_option maxRecDepth 100000
set_option maxHeartbeats 4000000
namespace L2
open PySem PySem.Spec PyProof.Rows
section
variable {prog : Program} {w : World} {A : Around} {E : Value -> Shared -> Prop} {s : Shared}
end
end L2
set_option Elab.async false
set_option linter.all false
set_option maxRecDepth 100000
set_option maxHeartbeats 4000000
namespace L2
open PySem PySem.Spec PyProof.Rows
theorem Inv.track {X : Cx} {pins : List (Addr × Obj)} {σ : St} {H : Hp} {s : Shared} {a : Addr} {o : HO} (I : Inv X pins σ H s) (f : jw X pins H a) (new : ObjOk X.prog X.w (upd H a o) s.heap a o) : Inv X pins σ (upd H a o) s := by
  refine I.call' (s' := s) (ch := [a]) rfl (xz Un.refl (List.mem_singleton.mpr rfl) f.1) (xg I.hok f.1 new) I.bare fun b hb => ?_
  rw [List.mem_singleton.mp hb]
  exact ⟨f.2.2.2.1,f.2.1,f.2.2.2.2.1,f.2.2.2.2.2⟩
section
variable {X : Cx} {A : Around} {R : Result -> Shared -> Prop}
end
end L2
set_option Elab.async false
set_option linter.all false
set_option maxRecDepth 100000
set_option maxHeartbeats 4000000
namespace L2
open PySem PySem.Spec PyProof.Rows
section
variable {X : Cx}
end
end L2
set_option Elab.async false
set_option linter.all false
set_option maxRecDepth 100000
set_option maxHeartbeats 4000000
namespace L2
open PySem PySem.Spec PyProof.Rows
section
variable {X : Cx}
theorem vR {K : PySem.W.Frag} (h : X.K = K) : IxR X (XJ K) := by rw [<- h];exact zJ
theorem qo {K : PySem.W.Frag} (h : X.K = K) : IxR X (XI K) := by rw [<- h];exact zL
theorem xo {K : PySem.W.Frag} (h : X.K = K) : CallR X (.builtin "len") (jv K) := by rw [<- h];exact zC
theorem xx {K : PySem.W.Frag} (h : X.K = K) : OpR X (compareOp .In) (rIn K false) := by rw [<- h];exact wC
theorem wa {K : PySem.W.Frag} (h : X.K = K) : OpR X (compareOp .NotIn) (rIn K true) := by rw [<- h];exact ye
end
end L2
set_option Elab.async false
set_option linter.all false
set_option maxRecDepth 100000
set_option maxHeartbeats 4000000
namespace L2
open PySem PySem.Spec PyProof.Rows
section
variable {X : Cx}
end
end L2
set_option Elab.async false
set_option linter.all false
set_option maxRecDepth 100000
set_option maxHeartbeats 4000000
namespace L2
open PySem PySem.Spec PyProof.Rows
section
open AutoSeq1 (wpAny_loadPart')
theorem j2 (l : Addr) (items : Array Value) (n : Nat) (dct : Option Addr) (sl : Array (Option Value)) :
    Meets (Builtin.«enumerate.__new__» ⟨[.type "enumerate",.ref l],[]⟩) (fun _ R s => s.heap.get? l = some { cls := .type "tuple",dict := dct,data := .seq items n,slots := sl } /\
      R (.ok (.ret (.ref (s.heap.push { cls := .type "tuple_iterator",data := .fields #[.ref l,.int 0 0] }).objs.size)))
        { s with heap := (s.heap.push { cls := .type "tuple_iterator",data := .fields #[.ref l,.int 0 0] }).push { cls := .type "enumerate",data := .fields #[.none,.bool false,.ref s.heap.objs.size,rawInt 0,.none,.none] } }) :=
  .of_wp fun prog w A R s h => by
    obtain ⟨hp,g,d,tk,os⟩ := s;obtain ⟨hl,h⟩ := h
    have hsub := sub_enumerate
    have hL : Heap.IsTuple (Shared.heap ⟨hp,g,d,tk,os⟩) l items := ⟨_,hl,rfl,n,rfl⟩
    wp_walk using wpAny_loadPart' hl
    refine wpAny_stack_any fun st => wpAny_pure ?_
    split
    · rename_i c _ _ _ _ _
      cases (c == Value.type "enumerate")
      · wp_walk using wpAny_loadPart' hl,wpAny_pyIter_tuple hL
        exact ⟨_,rfl,h⟩
      · wp_walk using wpAny_loadPart' hl,wpAny_pyIter_tuple hL
        exact ⟨_,rfl,h⟩
    · wp_walk using wpAny_loadPart' hl,wpAny_pyIter_tuple hL
      exact ⟨_,rfl,h⟩
end
section
variable {prog : Program} {w : World} {A : Around} {E : Value -> Shared -> Prop} {s : Shared}
theorem j7 {l : Addr} {items : Array Value} {Q : Value -> Shared -> Prop} (hL : s.heap.IsTuple l items)
    (h : ∀ h',IsEnum h' (s.heap.objs.size + 1) s.heap.objs.size 0 .none -> h'.IsTupleIter s.heap.objs.size l 0 -> h'.objs.size = s.heap.objs.size + 2 ->
      (∀ b o,s.heap.get? b = some o -> h'.get? b = some o) -> Q (.ref (s.heap.objs.size + 1)) { s with heap := h' }) :
    wpAny (model prog w) A (call (.type "enumerate") [.ref l]) Q E s := by
  obtain ⟨⟨c,dct,dt,sl⟩,hl,hc,n,hd⟩ := hL
  replace hc : c = .type "tuple" := hc
  replace hd : dt = .seq items n := hd
  subst hc hd
  refine callType_new F.called_enumerate (by decide) (F.typeCall_enumerate_1 _) (F.newCall_enumerate_1 _) (fun obj => F.args_object_init_2 obj _) F.entry_enumerate_new
    (j2 l items n dct sl) ⟨hl,?_⟩
  have hz : (s.heap.push { cls := .type "tuple_iterator",data := .fields #[.ref l,.int 0 0] }).objs.size = s.heap.objs.size + 1 := Heap.size_push ..
  show _ /\ _
  rw [hz]
  have he : IsEnum ((s.heap.push { cls := .type "tuple_iterator",data := .fields #[.ref l,.int 0 0] }).push
      { cls := .type "enumerate",data := .fields #[.none,.bool false,.ref s.heap.objs.size,rawInt 0,.none,.none] }) (s.heap.objs.size + 1) s.heap.objs.size 0 .none := by
    have := Heap.get?_push_size (s.heap.push { cls := .type "tuple_iterator",data := .fields #[.ref l,.int 0 0] })
      (o := { cls := .type "enumerate",data := .fields #[.none,.bool false,.ref s.heap.objs.size,rawInt 0,.none,.none] }) rfl
    rw [hz] at this;exact this
  refine ⟨⟨_,he,rfl⟩,h _ he ⟨_,Heap.get?_push_of_some _ (Heap.get?_push_size _ rfl),rfl,rfl⟩ (by rw [Heap.size_push,hz]) fun b o x => Heap.get?_push_of_some _ (Heap.get?_push_of_some _ x)⟩
theorem Draws.tuple {prog : Program} {w : World} {A : Around} (hh : A.handled = none) (it l : Addr) (hne : l ≠ it) (items : Array Value) :
    Draws prog w A it [it,l] items.size (fun i v => items[i]? = some v) (fun i h => h.IsTupleIter it l i /\ h.IsTuple l items) where
  live := fun _ _ st => let ⟨o,ho,_⟩ := st.1;⟨o,ho⟩
  frame := fun _ _ _ st hk => ⟨ItrK.at (kd := false) st.1 fun o e => hk it (by simp) o e,SeqK.at (kd := false) st.2 fun o e => hk l (by simp) o e⟩
  item := fun i s Q E hi st hQ => by
    refine jI (kd := false) st.1 st.2 (x := items[i]) (by simp [hi]) fun h' hit' hs' => ?_
    exact hQ _ h' s.toks (by simp [hi]) ⟨hit',SeqK.at (kd := false) st.2 fun o e => hs'.extBut l o hne e⟩ hs'
  done := fun s Q E st hE => xc (kd := false) hh st.1 st.2 (by simp) hE
end
def XD (K : PySem.W.Frag) (a : Addr) : It :=
  ⟨fun i H => ∃ xs x,SqT K H a xs /\ xs[i]? = some x,fun i H x H' => ∃ T y,x = .ref T /\ H T = none /\ H' = upd H T (.tup [.int i,y]) /\ ∀ xs,SqT K H a xs -> xs[i]? = some y,fun i H => ∃ xs,SqT K H a xs /\ xs.length <= i⟩
theorem Zm {P : Program} {w : World} {K : PySem.W.Frag} {elts : List Expr} {kk : Nat} {pos : Pos} (a e it : Addr) (hne : e ≠ it) :
    Zg P w K (.Tuple elts kk pos) (XD K a) [e,it] e (fun i h => (∃ old,IsEnum h e it i old) /\ h.IsTupleIter it a i) where
  mem := by simp
  obj := fun i h st b hb => by
    obtain ⟨⟨old,he⟩,⟨o,ho,c,d⟩⟩ := st
    rcases List.mem_cons.mp hb with z | z
    · subst z;exact ⟨_,he,fun v q => nomatch q⟩
    · rw [List.mem_singleton.mp z];exact ⟨o,ho,fun v q => by rw [d] at q;cases q⟩
  keep := fun i h h' st k => by
    obtain ⟨⟨old,he⟩,hi⟩ := st
    exact ⟨⟨old,k e (by simp) _ he⟩,ItrK.at (kd := false) hi fun o q => k it (by simp) o q⟩
  item := by
    intro X hP hw hK hc i pins s σ H E I hf st hg
    subst hP hw hK
    obtain ⟨⟨old,he⟩,hit⟩ := st
    obtain ⟨xs,x,hq,hx⟩ := hg
    obtain ⟨its,rv,p,hz⟩ := I.tuple hq
    obtain ⟨u,hu,ru⟩ := rv.get hx
    have hl : s.heap.IsTuple a its.toArray := p
    have hai : a ≠ it := fun z => by
      obtain ⟨o,e1,c1,_⟩ := hl
      obtain ⟨o',e2,c2,_⟩ := hit
      rw [z,e2] at e1;cases e1;rw [c2] at c1;exact absurd (Value.type.inj c1) (by decide)
    have hae : e ≠ a := fun z => by
      obtain ⟨o,e1,c1,_⟩ := hl
      rw [<- z,he] at e1;cases e1;exact absurd (Value.type.inj c1) (by decide)
    have D := Draws.tuple (prog := X.prog) (w := X.w) (A := X.A.in1) (I.ok.hd hc) it a hai its.toArray
    have hi : i < its.toArray.size := by
      have h1 := (List.getElem?_eq_some_iff.mp hu).1
      simpa using h1
    refine wpAny_pyNext_enum_itemD D he ⟨hit,hl⟩ hi hne (by simp [hne,hae]) fun x' h' tk hP' hout hst' hT hsz hk => ?_
    have ex : x' = u := by
      have h2 : its[i]? = some x' := by simpa using hP'
      rw [hu] at h2;exact (Option.some.inj h2).symm
    subst ex
    refine ⟨_,rfl,wpAny_letOwnedTupleGo_enum hout fun h2 he2 hs2 => ?_⟩
    have eT : s.heap.objs.size ≠ e := Nat.ne_of_gt (Heap.lt_size he)
    have k2 : ∀ b o,b ∉ [e,it] -> s.heap.get? b = some o -> h2.get? b = some o := fun b o hb q => by
      have n1 : b ≠ e := fun z => hb (by simp [z])
      have n2 : b ≠ it := fun z => hb (by simp [z])
      exact (hs2.2 b n1).trans (hk b o n1 n2 q)
    have it2 : h2.IsTupleIter it a (i + 1) := ItrK.at (kd := false) hst'.1 fun o q => hs2.extBut it o (Ne.symm hne) q
    refine ⟨.ref s.heap.objs.size,upd H s.heap.objs.size (.tup [.int i,x]),?_,rfl,⟨_,x,rfl,I.hok.fresh (Nat.le_refl _),rfl,fun ys hy => by rw [I.tuple_inj hy hq];exact hx⟩,⟨⟨_,by simpa using he2⟩,it2⟩,fun b hb => ?_⟩
    · refine yi (s := s) (h' := h2) (t' := tk + 1) (its := [.int i tk,x']) I hf (Nat.le_refl _) k2 (by rw [sizeLine_eq];exact (by decide : 2 <= 16777216)) (.cons ⟨tk,rfl⟩ (.cons ru .nil)) (TupX.by ((hs2.2 _ eT).trans hT))
    · have hb' : b < s.heap.objs.size := by
        rcases List.mem_cons.mp hb with z | z
        · rw [z];exact Heap.lt_size he
        · rw [List.mem_singleton.mp z]
          obtain ⟨o',e',_⟩ := hit
          exact Heap.lt_size e'
      rw [zq (Nat.ne_of_lt hb')]
      exact (hf b hb).1
  done := by
    intro X hP hw hK hc i pins s σ H E I hf st hg
    subst hP hw hK
    obtain ⟨⟨old,he⟩,hit⟩ := st
    obtain ⟨xs,hq,hx⟩ := hg
    obtain ⟨its,rv,p,hz⟩ := I.tuple hq
    have hl : s.heap.IsTuple a its.toArray := p
    have hai : a ≠ it := fun z => by
      obtain ⟨o,e1,c1,_⟩ := hl
      obtain ⟨o',e2,c2,_⟩ := hit
      rw [z,e2] at e1;cases e1;rw [c2] at c1;exact absurd (Value.type.inj c1) (by decide)
    obtain ⟨f0,f1,f2,f3,f4,f5⟩ := hf it (by simp)
    have hle : its.toArray.size <= i := by
      have := rv.length
      simp only [List.size_toArray];omega
    have hT : s.TypeIs (.ref e) "enumerate" := ⟨_,he,rfl⟩
    unfold pyNext
    refine wpAny_bind (wpAny_attempt (wpAny_callSpecial?_slot (name := Str.ofString "__next__") hT F.slot_enumerate_next (wpAny_call_entry F.slot_enumerate_next hT F.entry_enumerate_next ?_ (F.args_enumerate_next_1 _))))
    show wpAny _ _ (field (.ref e) 2 >>= _) _ _ _
    refine wpAny_bind (wpAny_field he rfl (x := .ref it) rfl (wpAny_bind (xc (kd := false) (I.ok.hd hc) hit hl (by simpa using hle) fun h' x he' hx' => ?_)))
    obtain ⟨o,ho,hc'⟩ := hx'
    refine wpAny_bind (wpAny_isInstance (T := "StopIteration") (b := true) ⟨o,ho,hc'⟩ isSubtype_stop ?_)
    exact wpAny_pure ⟨rfl,I.turned (t' := s.toks) (fun b o hb q => he' b o hb q) f0 f1 f3 f4 f5⟩
  self := fun _ _ _ _ _ st h => let ⟨⟨_,he⟩,_⟩ := st;wpAny_pyIter_enum he h
section
variable {X : Cx}
def We (K : PySem.W.Frag) (ta : TA) : TI := fun σ H R => ta σ H fun vs H1 => ∃ a,vs = [.ref a] /\ (∃ xs,SqT K H1 a xs) /\ R (XD K a) H1
theorem JN {l : Expr} {ta : TA} {p pos tp : Pos} {elts : List Expr} {kk : Nat} (hg : Gl X "enumerate") (hm : X.mg "enumerate" = none) (ha : PA X [l] ta) (hs : starEach [l] X.env = [(false,eval l X.env)] := by rfl) :
    PI X (.Tuple elts kk tp) (.Call (.Name "enumerate" p) [l] [] pos) (We X.K ta) := by
  intro pins s σ H R I h
  refine Call_ (jK I hg hm boot_enumerate (PyProof.Rows.callWith_type1 (thn (ha pos pins s σ H _ I h) fun us s1 ⟨vs,H1,I1,r1,q1⟩ => ?_) hs rfl))
  obtain ⟨a,e,⟨xs,hq⟩,q⟩ := q1
  subst e
  obtain ⟨u,rfl,ru⟩ := jO r1
  cases ru
  obtain ⟨its,rv,pl,hz⟩ := I1.tuple hq
  refine j7 pl fun h' he hi hsz hk => wpAny_pyIter_enum he ?_
  have I2 : Inv X pins σ H1 { s1 with heap := h' } := I1.kept (t' := s1.toks) hk
  refine ⟨s1.heap.objs.size + 1,[s1.heap.objs.size + 1,s1.heap.objs.size],_,_,H1,rfl,I2,Zm a _ _ (Nat.succ_ne_self _),⟨⟨_,he⟩,hi⟩,fun b hb => ?_,q⟩
  have hb' : s1.heap.objs.size <= b := by
    rcases List.mem_cons.mp hb with z | z
    · rw [z];exact Nat.le_succ _
    · rw [List.mem_singleton.mp z];exact Nat.le_refl _
  exact I1.fpOk hb' (I1.hok.fresh hb')
end
end L2
set_option Elab.async false
set_option linter.all false
set_option maxRecDepth 100000
set_option maxHeartbeats 4000000
namespace L2
open PySem PySem.Spec PyProof.Rows
section
variable {prog : Program} {w : World} {A : Around} {R : Result -> Shared -> Prop} {s : Shared}
abbrev lc2 (elt tg1 iter1 : Expr) (ifs1 : List Expr) (tg iter : Expr) (ifs : List Expr) (scope : Scope) (pos : Pos) : Expr := .ListComp elt [⟨tg1,iter1,ifs1,0⟩,⟨tg,iter,ifs,0⟩] scope pos
theorem y8 (elt tg1 iter1 : Expr) (ifs1 : List Expr) (tg iter : Expr) (ifs : List Expr) (scope : Scope) (pos : Pos) (it acc : Value) (env : Env) :
    compTurn (lc2 elt tg1 iter1 ifs1 tg iter ifs scope pos) 1 it acc env = (do
      standAt iter.pos
      match <- pyNext it with
      | none => pure (.done .next)
      | some v =>
        letOwnedTupleGo tg it v
        assign tg env v
        let mut ok := true
        for c in ifs do
          if ok then ok <- isTrue c env (eval c env)
        if ok then
          (do let _ <- call (.builtin "list.append") [acc,<- eval elt env])
        again (.compLoop (lc2 elt tg1 iter1 ifs1 tg iter ifs scope pos) 1 it acc env)) := by rfl
theorem yn (elt tg1 iter1 : Expr) (ifs1 : List Expr) (tg iter : Expr) (ifs : List Expr) (scope : Scope) (pos : Pos) (it acc : Value) (env : Env) :
    compTurn (lc2 elt tg1 iter1 ifs1 tg iter ifs scope pos) 0 it acc env = (do
      standAt iter1.pos
      match <- pyNext it with
      | none => pure (.done .next)
      | some v =>
        letOwnedTupleGo tg1 it v
        assign tg1 env v
        let ok <- xa ifs1 env
        if ok = true then do
          let x <- eval iter env
          standAt iter.pos
          let x <- foldedSetIterable iter env x
          let i2 <- holding [x] (pyIter x)
          let _ <- runOwn (.compStart (lc2 elt tg1 iter1 ifs1 tg iter ifs scope pos) 1 i2 acc env) env
          again (.compLoop (lc2 elt tg1 iter1 ifs1 tg iter ifs scope pos) 0 it acc env)
        else again (.compLoop (lc2 elt tg1 iter1 ifs1 tg iter ifs scope pos) 0 it acc env)) := by rfl
theorem j6 {elt tg1 iter1 ifs1 tg iter ifs scope pos it acc env}
    (h0 : codeAny (model prog w) A (.compLoop (lc2 elt tg1 iter1 ifs1 tg iter ifs scope pos) 1 it acc env) R s)
    (h : wpAny (model prog w) A (pyIter it) (fun it' s' => codeAny (model prog w) A (.compLoop (lc2 elt tg1 iter1 ifs1 tg iter ifs scope pos) 1 it' acc env) R s')
      (notedBy (model prog w) A env fun x s' => R (.error x) s') s) :
    codeAny (model prog w) A (.compStart (lc2 elt tg1 iter1 ifs1 tg iter ifs scope pos) 1 it acc env) R s := by
  refine codeAny_of_tree ?_
  show wpAny _ _ ((compStart (lc2 elt tg1 iter1 ifs1 tg iter ifs scope pos) 1 it acc env).onRaise (fun x => do noteFrame x env;standAt theWindowsPlace)) _ _ s
  refine wpAny_notedAt ?_
  unfold compStart
  show wpAny _ _ (ask >>= _) _ _ s
  refine wpAny_bind (wpAny_askSetting (wpAny_ite ?_))
  split
  · first
      | exact wpAny_bind (wpAny_pure (wpAny_pure (And.intro rfl h0)))
      | exact wpAny_pure (And.intro rfl h0)
  · first
      | exact wpAny_bind (wpAny_rule (wpAny_bind (wpAny_standAt (wpAny_bind (wpAny_mono h (fun it' s' h' => wpAny_pure (And.intro rfl h')) fun _ _ x => x)))))
      | (refine wpAny_bind (wpAny_rule ?_);show wpAny _ _ (standAt iter.pos >>= _) _ _ s;exact wpAny_bind (wpAny_standAt (wpAny_bind (wpAny_mono h (fun it' s' h' => wpAny_pure (And.intro rfl h')) fun _ _ x => x))))
theorem Wi {elt tg1 iter1 : Expr} {ifs1 : List Expr} {tg iter : Expr} {ifs : List Expr} {scope : Scope} {pos : Pos} {it acc : Value} {env : Env} (J : Nat -> Shared -> Prop)
    (turn : ∀ n s,J n s -> wpAny (model prog w) A (pyNext it) (fun r s1 => match r with
      | none => R (.ok .next) s1
      | some v => wpAny (model prog w) A (letOwnedTupleGo tg it v) (fun _ s2 => wpAny (model prog w) A (assign tg env v) (fun _ s3 =>
          wpAny (model prog w) A (xa ifs env) (fun ok s4 =>
            if ok = true then wpAny (model prog w) A (eval elt env) (fun x s5 =>
              wpAny (model prog w) A (call (.builtin "list.append") [acc,x]) (fun _ s6 => ∃ m,m < n /\ J m s6) (fun _ _ => False) s5) (fun _ _ => False) s4
            else ∃ m,m < n /\ J m s4) (fun _ _ => False) s3) (fun _ _ => False) s2) (fun _ _ => False) s1) (fun _ _ => False) s)
    (n : Nat) (h : J n s) : codeAny (model prog w) A (.compLoop (lc2 elt tg1 iter1 ifs1 tg iter ifs scope pos) 1 it acc env) R s := by
  have no : ∀ {α : Type} {t : Sem α} {Q : α -> Shared -> Prop} {E : Value -> Shared -> Prop} {s : Shared},wpAny (model prog w) A t Q (fun _ _ => False) s -> wpAny (model prog w) A t Q E s := fun x => wpAny_mono x (fun _ _ q => q) fun _ _ q => q.elim
  refine codeAny_loop rfl J (fun k u hJ => ?_) n h
  show wpAny _ A ((compTurn (lc2 elt tg1 iter1 ifs1 tg iter ifs scope pos) 1 it acc env).onRaise (fun x => do noteFrame x env;theTreesLotGoes x)) _ _ u
  refine wpAny_noted ?_
  rw [y8]
  refine wpAny_bind (wpAny_standAt (wpAny_bind (no (wpAny_mono (turn k u hJ) (fun r s1 h1 => ?_) fun _ _ q => q))))
  cases r with
  | none => exact wpAny_pure h1
  | some v =>
    refine wpAny_bind (no (wpAny_mono h1 (fun _ s2 h2 => wpAny_bind (no (wpAny_mono h2 (fun _ s3 h3 => wpAny_bind (no (wpAny_mono h3 (fun ok s4 h4 => ?_) fun _ _ q => q))) fun _ _ q => q))) fun _ _ q => q))
    cases ok with
    | false => exact wpAny_pure ⟨rfl,h4⟩
    | true =>
      have h4' : wpAny (model prog w) A (eval elt env) (fun x s5 => wpAny (model prog w) A (call (.builtin "list.append") [acc,x]) (fun _ s6 => ∃ m,m < k /\ J m s6) (fun _ _ => False) s5) (fun _ _ => False) s4 := h4
      refine wpAny_bind (wpAny_bind (no (wpAny_mono h4' (fun x s5 h5 => wpAny_bind (no (wpAny_mono h5 (fun _ s6 h6 => wpAny_pure (wpAny_pure ⟨rfl,h6⟩)) fun _ _ q => q))) fun _ _ q => q)))
theorem Vh {elt tg1 iter1 : Expr} {ifs1 : List Expr} {tg iter : Expr} {ifs : List Expr} {scope : Scope} {pos : Pos} {it acc : Value} {env : Env} (hs : ∀ x,foldedSetIterable iter env x = pure x) (J : Nat -> Shared -> Prop)
    (turn : ∀ n s,J n s -> wpAny (model prog w) A (pyNext it) (fun r s1 => match r with
      | none => R (.ok .next) s1
      | some v => wpAny (model prog w) A (letOwnedTupleGo tg1 it v) (fun _ s2 => wpAny (model prog w) A (assign tg1 env v) (fun _ s3 =>
          wpAny (model prog w) A (xa ifs1 env) (fun ok s4 =>
            if ok = true then wpAny (model prog w) A (eval iter env) (fun x s5 =>
              wpAny (model prog w) A (pyIter x) (fun i2 s6 => codeAny (model prog w) A (.compStart (lc2 elt tg1 iter1 ifs1 tg iter ifs scope pos) 1 i2 acc env) (fun r s7 => match r with | .ok _ => ∃ m,m < n /\ J m s7 | .error _ => False) s6) (fun _ _ => False) s5) (fun _ _ => False) s4
            else ∃ m,m < n /\ J m s4) (fun _ _ => False) s3) (fun _ _ => False) s2) (fun _ _ => False) s1) (fun _ _ => False) s)
    (n : Nat) (h : J n s) : codeAny (model prog w) A (.compLoop (lc2 elt tg1 iter1 ifs1 tg iter ifs scope pos) 0 it acc env) R s := by
  have no : ∀ {α : Type} {t : Sem α} {Q : α -> Shared -> Prop} {E : Value -> Shared -> Prop} {s : Shared},wpAny (model prog w) A t Q (fun _ _ => False) s -> wpAny (model prog w) A t Q E s := fun x => wpAny_mono x (fun _ _ q => q) fun _ _ q => q.elim
  refine codeAny_loop rfl J (fun k u hJ => ?_) n h
  show wpAny _ A ((compTurn (lc2 elt tg1 iter1 ifs1 tg iter ifs scope pos) 0 it acc env).onRaise (fun x => do noteFrame x env;theTreesLotGoes x)) _ _ u
  refine wpAny_noted ?_
  rw [yn]
  refine wpAny_bind (wpAny_standAt (wpAny_bind (no (wpAny_mono (turn k u hJ) (fun r s1 h1 => ?_) fun _ _ q => q))))
  cases r with
  | none => exact wpAny_pure h1
  | some v =>
    refine wpAny_bind (no (wpAny_mono h1 (fun _ s2 h2 => wpAny_bind (no (wpAny_mono h2 (fun _ s3 h3 => wpAny_bind (no (wpAny_mono h3 (fun ok s4 h4 => ?_) fun _ _ q => q))) fun _ _ q => q))) fun _ _ q => q))
    cases ok with
    | false => exact wpAny_pure ⟨rfl,h4⟩
    | true =>
      have h4' : wpAny (model prog w) A (eval iter env) (fun x s5 =>
              wpAny (model prog w) A (pyIter x) (fun i2 s6 => codeAny (model prog w) A (.compStart (lc2 elt tg1 iter1 ifs1 tg iter ifs scope pos) 1 i2 acc env) (fun r s7 => match r with | .ok _ => ∃ m,m < k /\ J m s7 | .error _ => False) s6) (fun _ _ => False) s5) (fun _ _ => False) s4 := h4
      refine wpAny_bind (no (wpAny_mono h4' (fun x s5 h5 => wpAny_bind (wpAny_standAt (wpAny_bind (wpAny_of_eq (hs x) (wpAny_bind (wpAny_holding (no (wpAny_mono h5 (fun i2 s6 h6 => ?_) fun _ _ q => q)))))))) fun _ _ q => q))
      refine wpAny_bind (wpAny_runOwn (h := none) ?_)
      rw [Around.mark_none]
      refine codeAny_mono h6 fun r s7 h7 => ?_
      cases r with
      | ok f => exact wpAny_pure ⟨rfl,h7⟩
      | error e => exact h7.elim
end
def Sub : St -> St -> Prop
  | [],[] => True
  | none :: r,_ :: r' => Sub r r'
  | some v :: r,x :: r' => x = some v /\ Sub r r'
  | _,_ => False
theorem Sub.len : ∀ {a b : St},Sub a b -> a.length = b.length
  | [],[],_ => rfl
  | [],_ :: _,h => h.elim
  | none :: _,[],h => h.elim
  | some _ :: _,[],h => h.elim
  | none :: r,_ :: r',h => by rw [List.length_cons,List.length_cons,Sub.len (a := r) (b := r') h]
  | some _ :: r,_ :: r',h => by rw [List.length_cons,List.length_cons,Sub.len (a := r) (b := r') h.2]
theorem Sub.get : ∀ {a b : St} {i : Nat} {v : V},Sub a b -> a[i]? = some (some v) -> b[i]? = some (some v)
  | [],[],_,_,_,e => e
  | [],_ :: _,_,_,h,_ => h.elim
  | none :: _,[],_,_,h,_ => h.elim
  | some _ :: _,[],_,_,h,_ => h.elim
  | none :: r,_ :: r',0,v,h,e => by simp at e
  | none :: r,_ :: r',i + 1,v,h,e => by
    rw [List.getElem?_cons_succ] at e ⊢
    exact Sub.get (a := r) (b := r') h e
  | some _ :: r,_ :: r',0,v,h,e => by
    rw [List.getElem?_cons_zero] at e ⊢
    rw [h.1];exact e
  | some _ :: r,_ :: r',i + 1,v,h,e => by
    rw [List.getElem?_cons_succ] at e ⊢
    exact Sub.get (a := r) (b := r') h.2 e
def tIn (wi : TI) (g : TG) (tf : TT) (te : TE) (ys : List V) (N : List V -> Hp -> Prop) : St -> Hp -> Prop := fun σ4 H5 => wi σ4 H5 fun J H6 =>
  ∃ W : Nat -> Nat -> List V -> Hp -> Prop,(∃ m,W 0 m ys H6) /\ ∀ i m zs H7,W i m zs H7 ->
    (J.stop i H7 /\ N zs H7) \/
    (J.go i H7 /\ ∃ N2 : List V -> Hp -> Prop,(∀ zs H',N2 zs H' -> ∃ m',m' < m /\ W (i + 1) m' zs H') /\ ∀ x H8,J.yld i H7 x H8 -> g x σ4 H8 fun σ9 H9 => Sub σ4 σ9 /\ tf σ9 H9 fun b H10 =>
      if b = true then te σ9 H10 fun y H11 => zs.length < sizeLine /\ N2 (zs ++ [y]) H11 else N2 zs H10)
section
variable {X : Cx} {elt tg1 iter1 : Expr} {ifs1 : List Expr} {tg iter : Expr} {ifs : List Expr} {scope : Scope} {pos : Pos} {wi wi1 : TI} {g g1 : TG} {tf tf1 : TT} {te : TE}
theorem Vb {N' : List Str} {C D : Addr} {sx : Shared} {Hx : Hp} {ex : List Addr} {pins : List (Addr × Obj)} {σ4 : St} {H0 : Hp} {s0 : Shared} {it : Addr} {fp : List Addr} {tn : Nat -> Heap -> Prop} {J : It} {R : Result -> Shared -> Prop} {N : List V -> Hp -> Prop} {ys : List V} {its : List Value} {z : Nat} {m0 : Nat} {W : Nat -> Nat -> List V -> Hp -> Prop}
    (hc : X.calm = true) (hg : PG (zu X N' scope C sx Hx ex) tg g) (hf : PF (zu X N' scope C sx Hx ex) ifs tf) (he : PE (zu X N' scope C sx Hx ex) elt te)
    (T : Zg X.prog X.w X.K tg J fp it tn) (fD : ∀ H' : Hp,H' D = none -> jw (zu X N' scope C sx Hx ex) pins H' D) (f2 : ∀ b ∈ fp,∀ H' : Hp,H' b = none -> jw (zu X N' scope C sx Hx ex) pins H' b) (nD : ∀ b ∈ fp,D ≠ b)
    (I : Inv (zu X N' scope C sx Hx ex) pins σ4 H0 s0) (st : tn 0 s0.heap) (fr : ∀ b ∈ fp,H0 b = none) (hDn : H0 D = none) (ho : s0.heap.get? D = some { cls := .type "list",data := .seq its.toArray z }) (rv : Vals ys its) (w0 : W 0 m0 ys H0)
    (turn : ∀ i m zs H7,W i m zs H7 ->
      (J.stop i H7 /\ N zs H7) \/
      (J.go i H7 /\ ∃ N2 : List V -> Hp -> Prop,(∀ zs H',N2 zs H' -> ∃ m',m' < m /\ W (i + 1) m' zs H') /\ ∀ x H8,J.yld i H7 x H8 -> g x σ4 H8 fun σ9 H9 => Sub σ4 σ9 /\ tf σ9 H9 fun b H10 =>
        if b = true then te σ9 H10 fun y H11 => zs.length < sizeLine /\ N2 (zs ++ [y]) H11 else N2 zs H10))
    (fin : ∀ (zs : List V) (its : List Value) (z : Nat) (H' : Hp) (s' : Shared),Inv (zu X N' scope C sx Hx ex) pins σ4 H' s' -> H' D = none -> s'.heap.get? D = some { cls := .type "list",data := .seq its.toArray z } -> Vals zs its -> N zs H' -> R (.ok .next) s') :
    codeAny (model X.prog X.w) X.A (.compLoop (lc2 elt tg1 iter1 ifs1 tg iter ifs scope pos) 1 (.ref it) (.ref D) (compEnvC scope (qF X.env.cells scope.names []) C X.env)) R s0 := by
  refine Wi (fun n s' => ∃ i ys its H',∃ z : Nat,Inv (zu X N' scope C sx Hx ex) pins σ4 H' s' /\ tn i s'.heap /\ (∀ b ∈ fp,H' b = none) /\ H' D = none /\
      s'.heap.get? D = some { cls := .type "list",data := .seq (its : List Value).toArray z } /\ Vals ys its /\ W i n ys H') ?_ m0 ⟨0,ys,its,H0,z,I,st,fr,hDn,ho,rv,w0⟩
  rintro n s5 ⟨i,ys,its,H5,z5,I5,st5,fr5,hD5,ho5,rv5,w5⟩
  have I5' := I5.pinned (fp := [D]) (fun b hb => by rw [List.mem_singleton.mp hb];exact fD _ hD5) (fun b hb => by
    rw [List.mem_singleton.mp hb];exact ⟨_,ho5,fun v q => nomatch q⟩)
  have mD : (D,({ cls := .type "list",data := .seq its.toArray z5 } : Obj)) ∈ pins ++ zD [D] s5.heap := List.mem_append_right _ (zS (List.mem_singleton.mpr rfl) ho5)
  have fp5 : ∀ {H' : Hp},(∀ b ∈ fp,H' b = none) -> ∀ b ∈ fp,jw (zu X N' scope C sx Hx ex) (pins ++ zD [D] s5.heap) H' b := fun hn b hb => by
    obtain ⟨a1,a2,a3,a4,a5,a6⟩ := f2 b hb _ (hn b hb)
    refine ⟨a1,a2,a3,a4,a5,fun p hp => ?_⟩
    rcases List.mem_append.mp hp with q | q
    · exact a6 p (List.mem_append_left _ q)
    · rcases List.mem_append.mp q with q | q
      · exact a6 p (List.mem_append_right _ q)
      · rw [List.mem_singleton.mp (jj q).1];exact nD b hb
  rcases turn i n ys H5 w5 with ⟨stop,q⟩ | ⟨go,N2,hN,step⟩
  · refine thn (T.done (zu X N' scope C sx Hx ex) rfl rfl rfl hc i _ s5 _ H5 _ I5' (fp5 fr5) st5 stop) fun r s6 ⟨hr,I6⟩ => ?_
    subst hr
    obtain ⟨o6,nD6,_⟩ := I6.pin (D,_) (List.mem_append_right _ mD)
    exact fin ys its z5 H5 s6 I6.unpinned nD6 o6 rv5 q
  · refine thn (T.item (zu X N' scope C sx Hx ex) rfl rfl rfl hc i _ s5 _ H5 _ I5' (fp5 fr5) st5 go) fun r s6 ⟨u,hr,h6⟩ => ?_
    subst hr
    refine thn h6 fun _ s7 ⟨x,H7,I7,r7,y7,st7,fr7⟩ => ?_
    have I7' := I7.pinned (fp5 fr7) (T.obj _ _ st7)
    refine thn (hg _ s7 _ H7 x u _ I7' r7 (step x H7 y7)) fun _ s8 ⟨σ8,H8,I8,hd8,q8⟩ => ?_
    refine thn (hf _ s8 σ8 H8 _ I8 q8) fun ok s9 ⟨H9,I9,q9⟩ => ?_
    have weak : ∀ {H' : Hp} {s' : Shared},Inv (zu X N' scope C sx Hx ex) ((pins ++ zD [D] s5.heap) ++ zD fp s7.heap) σ8 H' s' -> Inv (zu X N' scope C sx Hx ex) pins σ4 H' s' := fun {H' s'} J =>
      (J.unpinned).unpinned.weak hd8.len fun k v e => hd8.get e
    have mF : ∀ b ∈ fp,∀ o,s7.heap.get? b = some o -> (b,o) ∈ (pins ++ zD [D] s5.heap) ++ zD fp s7.heap := fun b hb o e => List.mem_append_right _ (zS hb e)
    have mD' := List.mem_append_left (zD fp s7.heap) mD
    have frB : ∀ {H' : Hp} {s' : Shared},Inv (zu X N' scope C sx Hx ex) ((pins ++ zD [D] s5.heap) ++ zD fp s7.heap) σ8 H' s' -> ∀ b ∈ fp,H' b = none := fun {H' s'} J b hb => by
      obtain ⟨o,e,_⟩ := T.obj _ _ st7 b hb
      exact (J.pin (b,o) (List.mem_append_right _ (mF b hb o e))).2.1
    cases ok with
    | false =>
      have q9' : N2 ys H9 := by simpa using q9
      obtain ⟨m',hm,w'⟩ := hN _ _ q9'
      obtain ⟨o9,nD9,_⟩ := I9.pin (D,_) (List.mem_append_right _ mD')
      exact ⟨m',hm,i + 1,ys,its,H9,z5,weak I9,T.keep _ _ _ st7 fun b hb o e => (I9.pin (b,o) (List.mem_append_right _ (mF b hb o e))).1,frB I9,nD9,o9,rv5,w'⟩
    | true =>
      have q9' : te σ8 H9 fun y H6 => ys.length < sizeLine /\ N2 (ys ++ [y]) H6 := by simpa using q9
      refine thn (he _ s9 σ8 H9 _ I9 q9') fun yv s10 ⟨y,H10,I10,r10,hlt,w10⟩ => ?_
      obtain ⟨m',hm,w'⟩ := hN _ _ w10
      obtain ⟨o10,nD10,_⟩ := I10.pin (D,_) (List.mem_append_right _ mD')
      refine wpAny_list_append_plain (l := D) (items := its.toArray) (hsz := by rw [List.size_toArray,<- rv5.length];exact Nat.le_of_lt hlt) ⟨_,o10⟩ fun h11 hl11 hs11 => ?_
      obtain ⟨z11,e11⟩ := hl11
      obtain ⟨d0,d1,d2,d3,d4,d5⟩ := fD _ nD10
      refine ⟨m',hm,i + 1,ys ++ [y],its ++ [yv],H10,z11,?_,T.keep _ _ _ st7 fun b hb o e => hs11.extBut b o (Ne.symm (nD b hb)) (I10.pin (b,o) (List.mem_append_right _ (mF b hb o e))).1,frB I10,nD10,?_,rv5.append (.cons r10 .nil),w'⟩
      · exact (weak I10).turned (t' := s10.toks) (it := D) (fun b o hb e => hs11.extBut b o hb e) nD10 d1 d3 d4 d5
      · rw [e11];simp
end
end L2
set_option Elab.async false
set_option linter.all false
set_option maxRecDepth 100000
set_option maxHeartbeats 4000000
namespace L2
open PySem PySem.Spec PyProof.Rows
def Wt (wi1 : TI) (n : Nat) (js : List Nat) (g1 : TG) (tf1 : TT) (wi : TI) (g : TG) (tf : TT) (te : TE) : TE := fun σ H Q => wi1 σ H fun J H1 =>
  ∃ W : Nat -> Nat -> List V -> Hp -> Prop,(∃ m,W 0 m [] H1) /\ ∀ i m ys H2,W i m ys H2 ->
    (J.stop i H2 /\ ys.length <= sizeLine /\ ∀ D,H2 D = none -> Q (.ref D) (upd H2 D (.lst ys))) \/
    (J.go i H2 /\ ∃ N : List V -> Hp -> Prop,(∀ zs H',N zs H' -> ∃ m',m' < m /\ W (i + 1) m' zs H') /\ ∀ x H3,J.yld i H2 x H3 -> g1 x (upS n js σ) H3 fun σ4 H4 => σ4.drop n = (upS n js σ).drop n /\ tf1 σ4 H4 fun b H5 =>
      if b = true then tIn wi g tf te ys N σ4 H5 else N ys H5)
section
variable {X : Cx} {elt tg1 iter1 : Expr} {ifs1 : List Expr} {tg iter : Expr} {ifs : List Expr} {scope : Scope} {pos : Pos} {wi wi1 : TI} {g g1 : TG} {tf tf1 : TT} {te : TE}
end
end L2
set_option Elab.async false
set_option linter.all false
set_option maxRecDepth 100000
set_option maxHeartbeats 4000000
namespace L2
open PySem PySem.Spec PyProof.Rows
section
variable {X : Cx}
inductive vf (K : PySem.W.Frag) (xs : List V) (H : Hp) (Q : VK) : Prop
  | mk (p : Addr) (bs : List Bool) (_ : xs = [.ref p]) (_ : SqL K H p (bs.map V.bl)) (_ : Q (.bl (bs.any id)) H) : vf K xs H Q
theorem Jd (hc : X.calm = true) : CallR X (.builtin "any") (vf X.K) := by
  intro pins s σ H xs us Q I r h
  obtain ⟨p,bs,rfl,hq,q⟩ := h
  obtain ⟨u,rfl,ru⟩ := jO r
  cases ru
  obtain ⟨its,rv,pl,hz⟩ := I.list hq
  have hl := pl.isList
  have hpl : p ≠ s.heap.objs.size := by
    obtain ⟨o,e,_⟩ := hl
    exact Nat.ne_of_lt (Heap.lt_size e)
  refine call_any_walk (wpAny_pyIter_list hl ?_)
  refine ⟨s.heap.objs.size,_,_,_,_,_,fun i => bs.getD i false,rfl,Walks.list (prog := X.prog) (w := X.w) (A := X.A.in1) (I.ok.hd hc) _ p hpl its.toArray,⟨⟨_,Heap.get?_push_size _ rfl,rfl,rfl⟩,hl.push _⟩,?_,fun h' tk hk => ?_⟩
  · intro i v s' Q' E' hP hQ
    have hP : its.toArray[i]? = some v := hP
    have e1 : its[i]? = some v := by simpa using hP
    have hi : i < bs.length := by
      have h1 := (List.getElem?_eq_some_iff.mp e1).1
      have h2 := rv.length
      rw [List.length_map] at h2
      omega
    have e2 : (bs.map V.bl)[i]? = some (.bl bs[i]) := by simp [hi]
    obtain ⟨u',eu,ru⟩ := rv.get e2
    rw [e1] at eu
    cases eu
    cases ru
    have e3 : bs.getD i false = bs[i] := by simp [hi]
    have hQ2 : Q' (bs.getD i false) s' := hQ
    rw [e3] at hQ2
    exact wpAny_truthy_bool hQ2
  · have k : ∀ b o,s.heap.get? b = some o -> h'.get? b = some o := fun b o e => hk b o (by simp;exact Nat.ne_of_lt (Heap.lt_size e)) (Heap.get?_push_of_some _ e)
    have ea : (List.range its.toArray.size).any (fun i => bs.getD i false) = bs.any id := by
      have hlen : its.toArray.size = bs.length := by
        have := rv.length
        rw [List.length_map] at this
        simp only [List.size_toArray];omega
      rw [hlen,Bool.eq_iff_iff,List.any_eq_true,List.any_eq_true]
      constructor
      · rintro ⟨i,hi,e⟩
        have hi := List.mem_range.mp hi
        exact ⟨bs[i],List.getElem_mem hi,by simpa [hi] using e⟩
      · rintro ⟨b,hb,e⟩
        obtain ⟨i,hi,rfl⟩ := List.mem_iff_getElem.mp hb
        exact ⟨i,List.mem_range.mpr hi,by simpa [hi] using e⟩
    exact ⟨.bl (bs.any id),H,I.kept k,by rw [ea];rfl,q⟩
theorem XB : bootBuiltins "any" = some (.builtin "any") := by decide +kernel
theorem yZ : ∀ {ns : List Int} {its : List Value},Vals (ns.map V.int) its -> IntsAre its ns
  | [],its,h => by cases h;exact .nil
  | n :: ns,its,h => by
    cases h with
    | cons r q =>
      obtain ⟨t,rfl⟩ := r
      exact .cons n t (yZ q)
theorem wJ {α β : Type} (f : α -> β) : ∀ (l : List α) (i : Nat),(l.eraseIdx i).map f = (l.map f).eraseIdx i
  | [],_ => rfl
  | _ :: _,0 => rfl
  | a :: r,i + 1 => by
    show f a :: (r.eraseIdx i).map f = f a :: (r.map f).eraseIdx i
    rw [wJ f r i]
inductive yM (x : V) (vs : List V) (H : Hp) (Q : VK) : Prop
  | mk (l : Addr) (ns : List Int) (k : Int) (_ : x = .ref l) (_ : vs = [.int k]) (_ : H l = some (.lst (ns.map V.int))) (_ : k ∈ ns) (_ : Q .non (upd H l (.lst ((ns.erase k).map V.int)))) : yM  x vs H Q
theorem ZB : MtM X "list.remove" yM := by
  intro pins s σ H x vs v us Q I rx rv h
  obtain ⟨l,ns,k,rfl,rfl,hH,hk,q⟩ := h
  cases rx
  obtain ⟨u,rfl,ru⟩ := rv.one
  obtain ⟨t,rfl⟩ := ru
  obtain ⟨z,its,n,r,hl,e⟩ := I.lstM hH
  rw [List.length_map] at hl z
  have hj : ns.idxOf k < ns.length := List.idxOf_lt_length_of_mem hk
  have val : ∀ i (hi : i < its.length),isInt k its[i] = (ns[i]'(by omega) == k) := fun i hi => by
    have e2 : (ns.map V.int)[i]? = some (.int (ns[i]'(by omega))) := by simp [show i < ns.length by omega]
    obtain ⟨u',eu,ru⟩ := r.get e2
    rw [List.getElem?_eq_getElem hi] at eu
    cases eu
    obtain ⟨t',e'⟩ := ru
    rw [e']
    rfl
  refine call_meets F.slot_list_remove ⟨_,e,rfl⟩ F.entry_list_remove (F.args_list_remove_2 _ _) (MeetsSeq.list_remove l its.toArray n (.int k t) (isInt k) (fun y hy => eq_isInt k t (yZ r) y (by simpa using hy)) (ns.idxOf k) (by simp;omega) ?_ ?_ (by simp;omega)) ⟨e,?_⟩
  · rw [List.getElem_toArray,val _ (by omega)]
    simp
  · intro m hm hlt
    rw [List.getElem_toArray,val _ (by simpa using hm)]
    have := List.not_of_lt_findIdx (p := (· == k)) (xs := ns) (i := m) (by exact hlt)
    simpa using this
  refine ⟨.non,_,I.lset (its' := its.eraseIdx (ns.idxOf k)) hH e ?_ ?_ ?_,rfl,q⟩
  · apply Array.toList_inj.mp
    simp [Array.toList_eraseIdxIfInBounds]
  · have em : (ns.erase k).map V.int = (ns.map V.int).eraseIdx (ns.idxOf k) := by rw [List.erase_eq_eraseIdx_of_idxOf rfl,wJ]
    rw [em]
    exact r.eraseIdx _
  · rw [List.length_map]
    exact Nat.le_trans (List.length_erase_le) z
end
end L2
set_option Elab.async false
set_option linter.all false
set_option maxRecDepth 100000
set_option maxHeartbeats 4000000
namespace L2
open PySem PySem.Spec PyProof.Rows
theorem Xg {K : PySem.W.Frag} {a : Addr} {xs : List V} {g : TG} {tf : TT} {te : TE} {σ0 : St} {n : Nat} {R : List V -> Hp -> Prop} {H : Hp} (Pv : Nat -> List V -> Hp -> Prop) (h0 : Pv 0 [] H)
    (h1 : ∀ i zs H,Pv i zs H -> SqT K H a xs)
    (hs : ∀ i x zs H T,xs[i]? = some x -> Pv i zs H -> H T = none -> g (.ref T) σ0 (upd H T (.tup [.int i,x])) fun σ4 H4 => σ4.drop n = σ0.drop n /\ tf σ4 H4 fun b H5 =>
      if b = true then te σ4 H5 fun v H6 => zs.length < sizeLine /\ Pv (i + 1) (zs ++ [v]) H6 else Pv (i + 1) zs H5)
    (hd : ∀ zs H,Pv xs.length zs H -> zs.length <= sizeLine /\ R zs H) :
    ∃ W : Nat -> Nat -> List V -> Hp -> Prop,(∃ m,W 0 m [] H) /\ ∀ i m zs H2,W i m zs H2 ->
      ((XD K a).stop i H2 /\ zs.length <= sizeLine /\ R zs H2) \/
      ((XD K a).go i H2 /\ ∃ N : List V -> Hp -> Prop,(∀ zs H',N zs H' -> ∃ m',m' < m /\ W (i + 1) m' zs H') /\ ∀ x H3,(XD K a).yld i H2 x H3 -> g x σ0 H3 fun σ4 H4 => σ4.drop n = σ0.drop n /\ tf σ4 H4 fun b H5 =>
        if b = true then te σ4 H5 fun y H6 => zs.length < sizeLine /\ N (zs ++ [y]) H6 else N zs H5) := by
  refine ⟨fun i m zs H2 => m = xs.length - i /\ i <= xs.length /\ Pv i zs H2,⟨_,rfl,Nat.zero_le _,h0⟩,?_⟩
  rintro i m zs H2 ⟨rfl,hi,p⟩
  have q := h1 i zs H2 p
  by_cases hlt : i < xs.length
  · refine .inr ⟨⟨xs,xs[i],q,by simp [hlt]⟩,Pv (i + 1),fun zs' H' p' => ⟨_,by omega,rfl,hlt,p'⟩,fun x H3 y => ?_⟩
    obtain ⟨T,z,e1,hT,e2,y⟩ := y
    subst e1 e2
    exact hs i z zs H2 T (y xs q) p hT
  · have e : i = xs.length := by omega
    subst e
    obtain ⟨z1,z2⟩ := hd zs H2 p
    exact .inl ⟨⟨xs,q,Nat.le_refl _⟩,z1,z2⟩
theorem Xh {K : PySem.W.Frag} {a : Addr} {xs : List V} {g : TG} {tf : TT} {wi : TI} {g2 : TG} {tf2 : TT} {te : TE} {σ0 : St} {n : Nat} {R : List V -> Hp -> Prop} {H : Hp} (Pv : Nat -> List V -> Hp -> Prop) (h0 : Pv 0 [] H)
    (h1 : ∀ i zs H,Pv i zs H -> SqL K H a xs)
    (hs : ∀ i x zs H,xs[i]? = some x -> Pv i zs H -> g x σ0 H fun σ4 H4 => σ4.drop n = σ0.drop n /\ tf σ4 H4 fun b H5 =>
      if b = true then tIn wi g2 tf2 te zs (Pv (i + 1)) σ4 H5 else Pv (i + 1) zs H5)
    (hd : ∀ zs H,Pv xs.length zs H -> zs.length <= sizeLine /\ R zs H) :
    ∃ W : Nat -> Nat -> List V -> Hp -> Prop,(∃ m,W 0 m [] H) /\ ∀ i m zs H2,W i m zs H2 ->
      ((Itl K a).stop i H2 /\ zs.length <= sizeLine /\ R zs H2) \/
      ((Itl K a).go i H2 /\ ∃ N : List V -> Hp -> Prop,(∀ zs H',N zs H' -> ∃ m',m' < m /\ W (i + 1) m' zs H') /\ ∀ x H3,(Itl K a).yld i H2 x H3 -> g x σ0 H3 fun σ4 H4 => σ4.drop n = σ0.drop n /\ tf σ4 H4 fun b H5 =>
        if b = true then tIn wi g2 tf2 te zs N σ4 H5 else N zs H5) := by
  refine ⟨fun i m zs H2 => m = xs.length - i /\ i <= xs.length /\ Pv i zs H2,⟨_,rfl,Nat.zero_le _,h0⟩,?_⟩
  rintro i m zs H2 ⟨rfl,hi,p⟩
  have q := h1 i zs H2 p
  by_cases hlt : i < xs.length
  · refine .inr ⟨⟨xs,xs[i],q,by simp [hlt]⟩,Pv (i + 1),fun zs' H' p' => ⟨_,by omega,rfl,hlt,p'⟩,fun x H3 y => ?_⟩
    obtain ⟨e,y⟩ := y
    subst e
    exact hs i x zs _ (y xs q) p
  · have e : i = xs.length := by omega
    subst e
    obtain ⟨z1,z2⟩ := hd zs H2 p
    exact .inl ⟨⟨xs,q,Nat.le_refl _⟩,z1,z2⟩
theorem Vc {K : PySem.W.Frag} {a : Addr} {xs : List V} {g : TG} {tf : TT} {te : TE} {σ0 : St} {N : List V -> Hp -> Prop} {ys : List V} {H : Hp} (Pv : Nat -> List V -> Hp -> Prop) (h0 : Pv 0 ys H)
    (h1 : ∀ i zs H,Pv i zs H -> SqL K H a xs)
    (hs : ∀ i x zs H,xs[i]? = some x -> Pv i zs H -> g x σ0 H fun σ4 H4 => Sub σ0 σ4 /\ tf σ4 H4 fun b H5 =>
      if b = true then te σ4 H5 fun v H6 => zs.length < sizeLine /\ Pv (i + 1) (zs ++ [v]) H6 else Pv (i + 1) zs H5)
    (hd : ∀ zs H,Pv xs.length zs H -> N zs H) :
    ∃ W : Nat -> Nat -> List V -> Hp -> Prop,(∃ m,W 0 m ys H) /\ ∀ i m zs H2,W i m zs H2 ->
      ((Itl K a).stop i H2 /\ N zs H2) \/
      ((Itl K a).go i H2 /\ ∃ N2 : List V -> Hp -> Prop,(∀ zs H',N2 zs H' -> ∃ m',m' < m /\ W (i + 1) m' zs H') /\ ∀ x H3,(Itl K a).yld i H2 x H3 -> g x σ0 H3 fun σ4 H4 => Sub σ0 σ4 /\ tf σ4 H4 fun b H5 =>
        if b = true then te σ4 H5 fun y H6 => zs.length < sizeLine /\ N2 (zs ++ [y]) H6 else N2 zs H5) := by
  refine ⟨fun i m zs H2 => m = xs.length - i /\ i <= xs.length /\ Pv i zs H2,⟨_,rfl,Nat.zero_le _,h0⟩,?_⟩
  rintro i m zs H2 ⟨rfl,hi,p⟩
  have q := h1 i zs H2 p
  by_cases hlt : i < xs.length
  · refine .inr ⟨⟨xs,xs[i],q,by simp [hlt]⟩,Pv (i + 1),fun zs' H' p' => ⟨_,by omega,rfl,hlt,p'⟩,fun x H3 y => ?_⟩
    obtain ⟨e,y⟩ := y
    subst e
    exact hs i x zs _ (y xs q) p
  · have e : i = xs.length := by omega
    subst e
    exact .inl ⟨⟨xs,q,Nat.le_refl _⟩,hd zs H2 p⟩
section
variable {X : Cx} {elt iter1 : Expr} {ifs1 : List Expr} {iter : Expr} {ifs : List Expr} {scope : Scope} {pos : Pos} {wi wi1 : TI} {tf tf1 : TT} {te : TE} {x y z : Str} {px py pz tp tp2 : Pos} {kk kk2 : Nat}
end
end L2
set_option Elab.async false
set_option linter.all false
set_option maxRecDepth 100000
set_option maxHeartbeats 4000000
namespace L2
open PySem PySem.Spec PyProof.Rows
section
variable {X : Cx}
theorem JM {K : PySem.W.Frag} (h : X.K = K) {tg l : Expr} {tl : TE} (hl : PE X l tl) : PI X tg l (VB K tl) := by rw [<- h];exact qV hl
end
end L2
set_option Elab.async false
set_option linter.all false
set_option maxRecDepth 100000
set_option maxHeartbeats 4000000
namespace L2
open PySem PySem.Spec PyProof.Rows
theorem Yc {X : Cx} {e0 e1 e2 e3 e4 e5 e6 e7 e8 e9 e10 e11 e12 e13 e14 e15 e16 : Expr} {t0 t1 t2 t3 t4 t5 t6 t7 t8 t9 t10 t11 t12 t13 t14 t15 t16 : TE} (h0 : PE X e0 t0) (h1 : PE X e1 t1) (h2 : PE X e2 t2) (h3 : PE X e3 t3) (h4 : PE X e4 t4) (h5 : PE X e5 t5) (h6 : PE X e6 t6) (h7 : PE X e7 t7) (h8 : PE X e8 t8) (h9 : PE X e9 t9) (h10 : PE X e10 t10) (h11 : PE X e11 t11) (h12 : PE X e12 t12) (h13 : PE X e13 t13) (h14 : PE X e14 t14) (h15 : PE X e15 t15) (h16 : PE X e16 t16) (h : ([e0,e1,e2,e3,e4,e5,e6,e7,e8,e9,e10,e11,e12,e13,e14,e15,e16]).all Qa = true := by rfl) : PA X [e0,e1,e2,e3,e4,e5,e6,e7,e8,e9,e10,e11,e12,e13,e14,e15,e16] (qr t0 (qr t1 (qr t2 (qr t3 (qr t4 (qr t5 (qr t6 (qr t7 (qr t8 (qr t9 (qr t10 (qr t11 (qr t12 (qr t13 (qr t14 (qr t15 (qr t16 XG))))))))))))))))) := by
  have hz := List.all_eq_true.mp h
  exact (za h0 (za h1 (za h2 (za h3 (za h4 (za h5 (za h6 (za h7 (za h8 (za h9 (za h10 (za h11 (za h12 (za h13 (za h14 (za h15 (za h16 zc (zB (hz _ (by simp)))) (zB (hz _ (by simp)))) (zB (hz _ (by simp)))) (zB (hz _ (by simp)))) (zB (hz _ (by simp)))) (zB (hz _ (by simp)))) (zB (hz _ (by simp)))) (zB (hz _ (by simp)))) (zB (hz _ (by simp)))) (zB (hz _ (by simp)))) (zB (hz _ (by simp)))) (zB (hz _ (by simp)))) (zB (hz _ (by simp)))) (zB (hz _ (by simp)))) (zB (hz _ (by simp)))) (zB (hz _ (by simp)))) (zB (hz _ (by simp))))
section
variable {X : Cx}
inductive xQ (K : PySem.W.Frag) (xs : List V) (H : Hp) (Q : VK) : Prop
  | mk (v : V) (d : Dat) (_ : xs = [v]) (_ : Rep K H d v) (_ : d.shw = true) (_ : d.blk <= 1048576) (_ : d.py.depth <= 60) (_ : Q (.str d.py.shown) H) : xQ K xs H Q
theorem jM (hg : X.A.guards = some []) (hu : X.A.units + 64 < cLine) : CallR X (.builtin "repr") (xQ X.K) := by
  intro pins s σ H xs us Q I r h
  obtain ⟨v,d,rfl,hr,h1,h2,h3,q⟩ := h
  obtain ⟨u,rfl,ru⟩ := jO r
  obtain ⟨s1,s2,s3⟩ := Dat.py_short d h1
  have fits : d.py.shown.length <= sizeLine := PyData.shown_fits_bulk (B := 13) (by decide) (by decide) s1 (by rw [Dat.py_blk];exact h2)
  have onRef : ∀ (a : Addr),v = .ref a -> wpAny (model X.prog X.w) X.A (call (.builtin "repr") [u]) (EP X pins σ Q) X.xe s := fun a e => by
    subst e
    obtain ⟨as,q1⟩ := hr.reads I ru
    cases (show u = _ from ru)
    exact repr_of_reads' q1 s2 (PyData.noDict_hsm s3) hg (by omega) (fun _ _ e => e) (fun h' u tk hk => ⟨.str d.py.shown,H,I.kept hk,⟨u,rfl⟩,q⟩) fits
  cases d with
  | non =>
    cases (show v = _ from hr)
    cases (show u = _ from ru)
    exact P.repr_of_none ⟨.str _,H,I.tok _,⟨_,rfl⟩,q⟩
  | bl b =>
    cases (show v = _ from hr)
    cases (show u = _ from ru)
    refine P.repr_of_bool ⟨.str _,H,I.tok _,⟨s.toks,?_⟩,q⟩
    cases b <;> rfl
  | int i =>
    cases (show v = _ from hr)
    obtain ⟨t,rfl⟩ := ru
    exact P.repr_of_int (yg (of_decide_eq_true h1)) ⟨.str _,H,I.tok _,⟨_,rfl⟩,q⟩
  | str x =>
    cases (show v = _ from hr)
    obtain ⟨t,rfl⟩ := ru
    exact P.repr_of_str ⟨.str _,H,I.tok _,⟨_,rfl⟩,q⟩ fits
  | lst ds => obtain ⟨a,_,e,_⟩ := id hr;exact onRef a e
  | tup ds => obtain ⟨a,_,e,_⟩ := id hr;exact onRef a e
theorem xk : bootBuiltins "repr" = some (.builtin "repr") := by decide +kernel
def tLT (K : PySem.W.Frag) (t : TE) : TT := fun σ H Q => t σ H fun x H1 => ∃ a xs,x = .ref a /\ SqL K H1 a xs /\ Q (!xs.isEmpty) H1
theorem XL {e : Expr} {t : TE} (h : PE X e t) (he : ∀ whole,isTrue e X.env whole = (do let v <- whole;standAt e.pos;holding [v] (truthy v)) := by intro _;rfl) : PT X e (tLT X.K t) := by
  intro pins s σ H Q I hw
  refine isTrue_plain (thn (h pins s σ H _ I hw) fun v s1 ⟨x,H1,I1,r1,q1⟩ => ?_) (he _)
  obtain ⟨a,xs,rfl,hq,q⟩ := q1
  cases (show v = _ from r1)
  obtain ⟨its,rv,pl,hz⟩ := I1.list hq
  have hl := rv.length
  refine wpAny_truthy_list pl.isList (by rw [List.size_toArray,<- hl];rw [sizeLine_eq] at hz;omega) ?_
  have e : (!xs.isEmpty) = (!its.toArray.isEmpty) := by
    cases xs with
    | nil => cases rv;rfl
    | cons y ys => cases rv;rfl
  first
    | exact ⟨H1,I1.tok _,by rw [e] at q;simpa using q⟩
    | exact ⟨H1,I1,by rw [e] at q;simpa using q⟩
end
end L2
set_option Elab.async false
set_option linter.all false
set_option maxRecDepth 100000
set_option maxHeartbeats 4000000
namespace L2
open PySem PySem.Spec PyProof.Rows
section
variable {X : Cx} {elt tg1 iter1 : Expr} {ifs1 : List Expr} {tg iter : Expr} {ifs : List Expr} {scope : Scope} {pos : Pos} {wi wi1 : TI} {g g1 : TG} {tf tf1 : TT} {te : TE} {x z : Str} {px pz tp tp2 : Pos} {kk kk2 : Nat}
theorem VP {y : Str} {py spos : Pos} {g2 : TG} (own fr : List Str) (js : List Nat) (hc : X.calm = true) (hk : scope.kind = .function) (hb : vU scope.names X.env.scope.names X.N fr js = true) (hi : PI X tg1 iter1 wi1)
    (hg : ∀ C s H ex,PG (zu X (own ++ fr) scope C s H ex) tg1 g1) (hf : ∀ C s H ex,PF (zu X (own ++ fr) scope C s H ex) ifs1 tf1)
    (hi2 : ∀ C s H ex,PI (zu X (own ++ fr) scope C s H ex) tg iter wi) (hgI : ∀ C s H ex,PG (zu X (own ++ fr) scope C s H ex) tg g) (hf2 : ∀ C s H ex,PF (zu X (own ++ fr) scope C s H ex) ifs tf) (he : ∀ C s H ex,PE (zu X (own ++ fr) scope C s H ex) elt te)
    (hg2 : PG X (.Name y py) g2) (hsw : swapsWith (lc2 elt tg1 iter1 ifs1 tg iter ifs scope pos) (some (.Name y py)) spos.line X.env = pure true := by rfl)
    (hs : ∀ x,foldedSetIterable iter1 X.env x = pure x := by intro _;rfl) (hs2 : ∀ C x,foldedSetIterable iter (compEnvC scope (qF X.env.cells scope.names []) C X.env) x = pure x := by intro _ _;rfl) : PS X (.Assign [.Name y py] (lc2 elt tg1 iter1 ifs1 tg iter ifs scope pos) spos) (Zn (Wt wi1 own.length js g1 tf1 wi g tf te) g2) := by
  intro pins s σ H Dn I h
  have B := vT hb
  have hasF : ∀ y ∈ scope.names,y.2 = NameKind.free -> ∃ c,X.env.cells.lookup y.1 = some c := fun y hy e => I.ok.has y.1 (B.free y hy e)
  rw [exec_Assign_Name_used _ _ _ _ hsw]
  refine wpAny_bind (wpAny_standAt (wpAny_bind ?_))
  show wpAny _ X.A (do let _ <- comprehension (lc2 elt tg1 iter1 ifs1 tg iter ifs scope pos) scope X.env _ (newList []) false (eval iter1 X.env) (some (assign (.Name y py) X.env))) _ _ s
  refine wpAny_bind (wpAny_mono (wpAny_comprehension_free (use := some (assign (.Name y py) X.env)) (Q := fun _ s' => ∃ σ' H',Inv X pins σ' H' s' /\ Dn.nx σ' H') rfl hs (yo hasF) hk (fun y hy e => B.loc y hy e) (thn (hi pins s σ H _ I h) fun v s1 h1 => thn h1 fun itv s2 h2 => ?_)) (fun _ s' hq => wpAny_pure (wpAny_pure hq)) fun _ _ e => e)
  obtain ⟨it,fp,tn,J,H2,e,I2,T,st2,f2,W,⟨m0,w0⟩,turn⟩ := h2
  subst e
  have fl : ∀ b ∈ fp,b < s2.heap.objs.size := fun b hb => let ⟨o,e,_⟩ := T.obj _ _ st2 b hb;Heap.lt_size e
  refine wpAny_newObj_type (wpAny_newFunctionEnv B.cell (by intro y hy;simp at hy) (fun h1 hns hsb => ?_) hk)
  dsimp only at hns hsb ⊢
  generalize e3 : s2.heap.push { cls := .type "list",dict := none,data := .seq ([] : List Value).toArray } = h3 at hns hsb ⊢
  have k3 : ∀ b o,s2.heap.get? b = some o -> h3.get? b = some o := fun b o e => by rw [<- e3];exact Heap.get?_push_of_some _ e
  have k4 : ∀ b o,h3.get? b = some o -> h1.get? b = some o := fun b o e => hsb.extBut b o (Nat.ne_of_lt (Heap.lt_size e)) (Heap.get?_push_of_some _ e)
  have I4 : Inv (zu X (own ++ fr) scope h3.objs.size { s2 with heap := h3 } H2 (s2.heap.objs.size :: fp)) [] (upS own.length js σ) H2 { s2 with heap := h1,toks := s2.toks + ([] : List (Str × Value)).length } :=
    xY own fr js I2 B hk f2 fl rfl e3.symm rfl hns k4
  have I3 : Inv X pins σ H2 { s2 with heap := h3 } := I2.kept (t' := s2.toks) k3
  have hz : h3.objs.size = s2.heap.objs.size + 1 := by rw [<- e3,Heap.size_push]
  have hDl : s2.heap.objs.size ≠ h3.objs.size := by rw [hz];exact Nat.ne_of_lt (Nat.lt_succ_self _)
  have hacc : h1.get? s2.heap.objs.size = some { cls := .type "list",data := .seq ([] : List Value).toArray } := k4 _ _ (by rw [<- e3];exact Heap.get?_push_size _ rfl)
  have fpC := (I3.fpOk (b := h3.objs.size) (Nat.le_refl _) (I3.hok.fresh (Nat.le_refl _))).2
  generalize eD : s2.heap.objs.size = D at *
  generalize eC : h3.objs.size = C at *
  have fD : ∀ b ∈ fp,D ≠ b := fun b hb => Nat.ne_of_gt (fl b hb)
  have hx : ∀ x c,(qF X.env.cells scope.names []).lookup x = some c -> c ≠ D := fun x c e => by
    obtain ⟨v,q⟩ := I2.cell x c (z9 e hasF)
    rw [<- eD];exact Nat.ne_of_lt q.lt
  have hx2 : ∀ b ∈ fp,∀ x c,(qF X.env.cells scope.names []).lookup x = some c -> c ≠ b := fun b hb x c e => (f2 b hb).2.2.2.2.1 x c (z9 e hasF)
  have nfs : ∀ b ∈ D :: fp,b ∉ frs X.stack := I4.ok.exfs
  have fpB : ∀ {pins' : List (Addr × Obj)} {H' : Hp} {b : Addr},b ∈ fp -> H' b = none -> (∀ p ∈ pins',p.1 ≠ b) -> jw (zu X (own ++ fr) scope C { s2 with heap := h3 } H2 (D :: fp)) pins' H' b := fun {pins' H' b} hb hn hp =>
    ⟨hn,(I4.ok.exf b (List.mem_cons_of_mem _ hb)).1,nfs b (List.mem_cons_of_mem _ hb),.inl (List.mem_cons_of_mem _ hb),fun x c e => hx2 b hb x c e,fun p h => hp p (by simpa using h)⟩
  have fpD : ∀ {pins' : List (Addr × Obj)} {H' : Hp},H' D = none -> (∀ p ∈ pins',p.1 ≠ D) -> jw (zu X (own ++ fr) scope C { s2 with heap := h3 } H2 (D :: fp)) pins' H' D := fun {pins' H'} hn hp =>
    ⟨hn,hDl,nfs D List.mem_cons_self,.inl List.mem_cons_self,fun x c e => hx x c e,fun p h => hp p (by simpa using h)⟩
  have loop : ∀ s4 : Shared,s4 = { s2 with heap := h1,toks := s2.toks + ([] : List (Str × Value)).length } ->
      codeAny (model X.prog X.w) X.A (.compLoop (lc2 elt tg1 iter1 ifs1 tg iter ifs scope pos) 0 (.ref it) (.ref D) (compEnvC scope (qF X.env.cells scope.names []) C X.env))
        (compPost (model X.prog X.w) X.A X.xe (some (assign (.Name y py) X.env)) (fun _ s' => ∃ σ' H',Inv X pins σ' H' s' /\ Dn.nx σ' H') (.ref D) C) s4 := by
    intro s4 e4
    refine Vh (hs2 C) (fun n s' => ∃ i ys its H',∃ z : Nat,Inv (zu X (own ++ fr) scope C { s2 with heap := h3 } H2 (D :: fp)) [] (upS own.length js σ) H' s' /\ tn i s'.heap /\ (∀ b ∈ fp,H' b = none) /\ H' D = none /\
      s'.heap.get? D = some { cls := .type "list",data := .seq (its : List Value).toArray z } /\ Vals ys its /\ W i n ys H') ?_ m0 ?_
    · rintro n s5 ⟨i,ys,its,H5,z5,I5,st5,fr5,hD5,ho5,rv5,w5⟩
      have I5' := I5.pinned (fp := [D]) (fun b hb => by rw [List.mem_singleton.mp hb];exact fpD hD5 (fun p hp => absurd hp (by simp))) (fun b hb => by
        rw [List.mem_singleton.mp hb];exact ⟨_,ho5,fun v q => nomatch q⟩)
      have pD : ∀ p ∈ [] ++ zD [D] s5.heap,p.1 = D := fun p hp => by
        rw [List.nil_append] at hp
        exact List.mem_singleton.mp (jj hp).1
      have mD : (D,({ cls := .type "list",data := .seq its.toArray z5 } : Obj)) ∈ [] ++ zD [D] s5.heap := by
        rw [List.nil_append];exact zS (List.mem_singleton.mpr rfl) ho5
      have fp5 : ∀ {H' : Hp},(∀ b ∈ fp,H' b = none) -> ∀ b ∈ fp,jw (zu X (own ++ fr) scope C { s2 with heap := h3 } H2 (D :: fp)) ([] ++ zD [D] s5.heap) H' b := fun hn b hb => fpB hb (hn b hb) fun p hp => by
        rw [pD p hp];exact fD b hb
      rcases turn i n ys H5 w5 with ⟨stop,hlen,q⟩ | ⟨go,N,hN,step⟩
      · refine thn (T.done (zu X (own ++ fr) scope C { s2 with heap := h3 } H2 (D :: fp)) rfl rfl rfl hc i _ s5 _ H5 _ I5' (fp5 fr5) st5 stop) fun r s6 ⟨hr,I6⟩ => ?_
        subst hr
        obtain ⟨m6,hn6,_⟩ := I6.loc
        obtain ⟨o6,nD6,_⟩ := I6.pin (D,_) (List.mem_append_right _ mD)
        have k7 : ∀ b o,b ≠ C -> s6.heap.get? b = some o -> s6.heap.get? b = some o := fun b o _ e => e
        have J0 : Inv X pins σ (upd H5 D (.lst ys)) s6 := by
          refine I3.call' (s' := s6) (ch := D :: fp) I6.os (xz (Zj I6.base (Nat.le_of_eq eC) k7) List.mem_cons_self (I2.hok.fresh ?_)) (xg (yk I6.hok I6.free k7) nD6 ⟨hlen,its,z5,rv5,k7 D _ hDl o6⟩) I6.bare fun b hb => ?_
          · rw [<- eD];exact Nat.le_refl _
          · rcases List.mem_cons.mp hb with y | hb
            · subst y
              refine ⟨.inr (by rw [<- eD];exact I2.sz),by rw [<- eD];exact Nat.ne_of_gt I2.lt,fun x c e => ?_,fun p hp => ?_⟩
              · obtain ⟨v,q⟩ := I2.cell x c e
                rw [<- eD];exact Nat.ne_of_lt q.lt
              · rw [<- eD];exact Nat.ne_of_lt (Heap.lt_size (I2.pin p hp).1)
            · obtain ⟨_,g1,_,g3,g4,g5⟩ := f2 b hb
              exact ⟨g3,g1,g4,g5⟩
        obtain ⟨oC,eoC,dC⟩ : ∃ o,s6.heap.get? C = some o /\ ∀ v,o.data ≠ .cell v := by
          obtain ⟨o,es,ep,ho,hd,_⟩ := hn6
          exact ⟨o,ho,fun v z => by rw [hd] at z;cases z⟩
        have hC0 : (upd H5 D (.lst ys)) C = none := by
          rw [zq (Ne.symm hDl)];exact I6.free
        have J1 := J0.pinned (fp := [C]) (fun b hb => by rw [List.mem_singleton.mp hb];exact ⟨hC0,fpC⟩) (fun b hb => by rw [List.mem_singleton.mp hb];exact ⟨oC,eoC,dC⟩)
        have mC : (C,oC) ∈ pins ++ zD [C] s6.heap := List.mem_append_right _ (zS (List.mem_singleton.mpr rfl) eoC)
        refine thn (hg2 _ s6 σ _ (.ref D) (.ref D) _ J1 rfl (q D nD6)) fun _ s8 ⟨σ8,H8,I8,q8⟩ => ?_
        obtain ⟨e8,n8,_⟩ := I8.pin (C,oC) (List.mem_append_right _ mC)
        refine ⟨m6,?_,fun h9 hs9 => ⟨σ8,H8,?_,q8⟩⟩
        · obtain ⟨o,es,ep,ho,r⟩ := hn6
          have ho' : s6.heap.get? C = some o := ho
          rw [eoC] at ho';cases ho'
          exact ⟨oC,es,ep,e8,r⟩
        · obtain ⟨g1,_,g3,g4,g5⟩ := fpC
          exact (I8.unpinned).turned (t' := s8.toks) (it := C) (fun b o hb e => hs9.extBut b o hb e) n8 g1 g3 g4 g5
      · refine thn (T.item (zu X (own ++ fr) scope C { s2 with heap := h3 } H2 (D :: fp)) rfl rfl rfl hc i _ s5 _ H5 _ I5' (fp5 fr5) st5 go) fun r s6 ⟨u,hr,h6⟩ => ?_
        subst hr
        refine thn h6 fun _ s7 ⟨x,H7,I7,r7,y7,st7,fr7⟩ => ?_
        have I7' := I7.pinned (fp5 fr7) (T.obj _ _ st7)
        refine thn (hg _ _ _ _ _ s7 _ H7 x u _ I7' r7 (step x H7 y7)) fun _ s8 ⟨σ8,H8,I8,hd8,q8⟩ => ?_
        refine thn (hf _ _ _ _ _ s8 σ8 H8 _ I8 q8) fun ok s9 ⟨H9,I9,q9⟩ => ?_
        have weak : ∀ {H' : Hp} {s' : Shared},Inv (zu X (own ++ fr) scope C { s2 with heap := h3 } H2 (D :: fp)) (([] ++ zD [D] s5.heap) ++ zD fp s7.heap) σ8 H' s' ->
            Inv (zu X (own ++ fr) scope C { s2 with heap := h3 } H2 (D :: fp)) [] (upS own.length js σ) H' s' := fun {H' s'} J => by
          refine (J.unpinned).unpinned.weak (I5.len.trans J.len.symm) fun k v e => ?_
          obtain ⟨hn,e1,_⟩ := jS e
          rw [<- hd8,List.getElem?_drop] at e1
          rw [<- e1]
          congr 1
          omega
        have mF : ∀ b ∈ fp,∀ o,s7.heap.get? b = some o -> (b,o) ∈ ([] ++ zD [D] s5.heap) ++ zD fp s7.heap := fun b hb o e => List.mem_append_right _ (zS hb e)
        have mD' := List.mem_append_left (zD fp s7.heap) mD
        have frB : ∀ {H' : Hp} {s' : Shared},Inv (zu X (own ++ fr) scope C { s2 with heap := h3 } H2 (D :: fp)) (([] ++ zD [D] s5.heap) ++ zD fp s7.heap) σ8 H' s' -> ∀ b ∈ fp,H' b = none := fun {H' s'} J b hb => by
          obtain ⟨o,e,_⟩ := T.obj _ _ st7 b hb
          exact (J.pin (b,o) (List.mem_append_right _ (mF b hb o e))).2.1
        cases ok with
        | false =>
          have q9' : N ys H9 := by simpa using q9
          obtain ⟨m',hm,w'⟩ := hN _ _ q9'
          obtain ⟨o9,nD9,_⟩ := I9.pin (D,_) (List.mem_append_right _ mD')
          exact ⟨m',hm,i + 1,ys,its,H9,z5,weak I9,T.keep _ _ _ st7 fun b hb o e => (I9.pin (b,o) (List.mem_append_right _ (mF b hb o e))).1,frB I9,nD9,o9,rv5,w'⟩
        | true =>
          have q9' : tIn wi g tf te ys N σ8 H9 := by simpa using q9
          refine thn (hi2 _ _ _ _ _ s9 σ8 H9 _ I9 q9') fun xv s10 h10 => thn h10 fun itv s11 ⟨it2,fp2,tn2,J2,H11,ei,I11,T2,st11,f11,W2,⟨m2,w2⟩,turn2⟩ => ?_
          subst ei
          have I12 : Inv (zu X (own ++ fr) scope C { s2 with heap := h3 } H2 (D :: fp)) (zD fp s7.heap) σ8 H11 s11 := I11.pins_of fun p hp => I11.pin p (List.mem_append_right _ (List.mem_append_right _ hp))
          obtain ⟨o11,nD11,_⟩ := I11.pin (D,_) (List.mem_append_right _ mD')
          have pF : ∀ p ∈ zD fp s7.heap,p.1 ≠ D := fun p hp => Ne.symm (fD _ (jj hp).1)
          have nD2 : ∀ b ∈ fp2,D ≠ b := fun b hb => (f11 b hb).2.2.2.2.2 (D,_) (List.mem_append_right _ mD')
          have f12 : ∀ b ∈ fp2,∀ H' : Hp,H' b = none -> jw (zu X (own ++ fr) scope C { s2 with heap := h3 } H2 (D :: fp)) (zD fp s7.heap) H' b := fun b hb H' hn => by
            obtain ⟨_,a2,a3,a4,a5,a6⟩ := f11 b hb
            exact ⟨hn,a2,a3,a4,a5,fun p hp => a6 p ((List.mem_append.mp hp).elim (fun q => List.mem_append_left _ q) fun q => List.mem_append_right _ (List.mem_append_right _ q))⟩
          have loop2 : codeAny (model X.prog X.w) X.A (.compLoop (lc2 elt tg1 iter1 ifs1 tg iter ifs scope pos) 1 (.ref it2) (.ref D) (compEnvC scope (qF X.env.cells scope.names []) C X.env)) (fun r s7 => match r with
              | .ok _ => ∃ m,m < n /\ ∃ i ys its H',∃ z : Nat,Inv (zu X (own ++ fr) scope C { s2 with heap := h3 } H2 (D :: fp)) [] (upS own.length js σ) H' s7 /\ tn i s7.heap /\ (∀ b ∈ fp,H' b = none) /\ H' D = none /\ s7.heap.get? D = some { cls := .type "list",data := .seq (its : List Value).toArray z } /\ Vals ys its /\ W i m ys H'
              | .error _ => False) s11 := by
            refine Vb (N := N) hc (hgI _ _ _ _) (hf2 _ _ _ _) (he _ _ _ _) T2 (fun H' hn => fpD hn pF) f12 nD2 I12 st11 (fun b hb => (f11 b hb).1) nD11 o11 rv5 w2 turn2 fun zs its' z' H' s' I' nD' o' rv' q' => ?_
            obtain ⟨m',hm,w'⟩ := hN _ _ q'
            refine ⟨m',hm,i + 1,zs,its',H',z',?_,T.keep _ _ _ st7 fun b hb o e => (I'.pin (b,o) (List.mem_append_right _ (zS hb e))).1,fun b hb => ?_,nD',o',rv',w'⟩
            · refine (I'.pins_of (pins' := []) fun p hp => absurd hp (by simp)).weak (I5.len.trans I'.len.symm) fun k v e => ?_
              obtain ⟨hn,e1,_⟩ := jS e
              rw [<- hd8,List.getElem?_drop] at e1
              rw [<- e1]
              congr 1
              omega
            · obtain ⟨o,e,_⟩ := T.obj _ _ st7 b hb
              exact (I'.pin (b,o) (List.mem_append_right _ (zS hb e))).2.1
          exact j6 loop2 (T2.self X.A 0 _ _ _ st11 loop2)
    · subst e4
      exact ⟨0,[],[],H2,0,I4,T.keep _ _ _ st2 fun b hb o e => k4 b o (k3 b o e),fun b hb => (f2 b hb).1,I2.hok.fresh (by rw [<- eD];exact Nat.le_refl _),hacc,.nil,w0⟩
  exact codeAny_compStart_list (loop _ rfl) (T.self X.A 0 _ _ _ (T.keep _ _ _ st2 fun b hb o e => k4 b o (k3 b o e)) (loop _ rfl))
theorem XM {y : Str} {py spos : Pos} {g2 : TG} (fr : List Str) (js : List Nat) (hc : X.calm = true) (hk : scope.kind = .function) (hb : xy scope.names X.env.scope.names X.N [x,z] fr js = true) (hi : PI X (.Name x px) iter1 wi1)
    (hf : ∀ C s H ex,PF (zu X ([x,z] ++ fr) scope C s H ex) ifs1 tf1) (hi2 : ∀ C s H ex,PI (zu X ([x,z] ++ fr) scope C s H ex) (.Name z pz) iter wi) (hf2 : ∀ C s H ex,PF (zu X ([x,z] ++ fr) scope C s H ex) ifs tf) (he : ∀ C s H ex,PE (zu X ([x,z] ++ fr) scope C s H ex) elt te)
    (hg2 : PG X (.Name y py) g2) (hsw : swapsWith (lc2 elt (.Name x px) iter1 ifs1 (.Name z pz) iter ifs scope pos) (some (.Name y py)) spos.line X.env = pure true := by rfl)
    (hs : ∀ x,foldedSetIterable iter1 X.env x = pure x := by intro _;rfl) (hs2 : ∀ C x,foldedSetIterable iter (compEnvC scope (qF X.env.cells scope.names []) C X.env) x = pure x := by intro _ _;rfl) :
    PS X (.Assign [.Name y py] (lc2 elt (.Name x px) iter1 ifs1 (.Name z pz) iter ifs scope pos) spos) (Zn (Wt wi1 2 js (j5 0) tf1 wi (j5 1) tf te) g2) := by
  obtain ⟨h1,h2,h3⟩ := jC hb
  exact VP [x,z] fr js hc hk h1 hi (fun C s H ex => jX (h2 x (by simp)) h3 rfl) hf hi2 (fun C s H ex => jX (h2 z (by simp)) h3 rfl) hf2 he hg2 hsw hs hs2
end
end L2
set_option Elab.async false
set_option linter.all false
set_option maxRecDepth 100000
set_option maxHeartbeats 4000000
namespace L2
open PySem PySem.Spec PyProof.Rows
def zj (i : Nat) : Stmt := PySem.Challenge.pw_pickboard_k47_tracks_of_plans_or_none.main.body.getD i (.Pass ⟨0,0,0,0⟩)
structure Blt (mg : Str -> Option Value) : Prop where
  abs : mg "abs" = none
  all : mg "all" = none
  divmod : mg "divmod" = none
  enumerate : mg "enumerate" = none
  int : mg "int" = none
  isinstance : mg "isinstance" = none
  len : mg "len" = none
  list : mg "list" = none
  max : mg "max" = none
  min : mg "min" = none
  range : mg "range" = none
  str : mg "str" = none
  tuple : mg "tuple" = none
  bool : mg "bool" = none
  zip : mg "zip" = none
  sum : mg "sum" = none
  any : mg "any" = none
  repr : mg "repr" = none
theorem jt : bootBuiltins "abs" = some (.builtin "abs") := by decide +kernel
theorem xN : bootBuiltins "max" = some (.builtin "max") := by decide +kernel
theorem Zb : bootBuiltins "min" = some (.builtin "min") := by decide +kernel
theorem Zc : bootBuiltins "divmod" = some (.builtin "divmod") := by decide +kernel
theorem jd : bootBuiltins "int" = some (.type "int") := by decide +kernel
theorem zU : bootBuiltins "list" = some (.type "list") := by decide +kernel
theorem zX : bootBuiltins "tuple" = some (.type "tuple") := by decide +kernel
theorem xM : bootBuiltins "str" = some (.type "str") := by decide +kernel
theorem xm : bootBuiltins "bool" = some (.type "bool") := by decide +kernel
def jz (i : Int) : Int := if i < 0 then -i else i
def Wy : Str := "abcdefghijklmnopqrstuvwxyz"
def yW (c : Nat) : Bool := decide (97 <= c) && decide (c <= 122)
theorem Xe : Wy.cps.toList = List.range' 97 26 := by decide +kernel
end L2
set_option Elab.async false
set_option linter.all false
set_option maxRecDepth 100000
set_option maxHeartbeats 4000000
namespace L2
open PySem PySem.Spec PyProof.Rows
def BoxAt (H : Hp) (b : Addr) (n : Int) : Prop := ∃ b0 b1 b2 : Int,H b = some (.lst [.int b0,.int b1,.int b2]) /\ 0 <= b0 /\ 0 <= b1 /\ b1 < 2147483648 /\ 0 <= b2 /\ b2 <= n
def SameB (b : Addr) (H H' : Hp) : Prop := ∀ c o,H c = some o -> c ≠ b -> H' c = some o
theorem xK {i j : Int} (h1 : 0 <= i) (h2 : i < 18446744073709551616) : CMul i j := by
  have e1 : (-(2 ^ 64) : Int) = -18446744073709551616 := by decide
  have e2 : ((2 ^ 64) : Int) = 18446744073709551616 := by decide
  refine .inl ⟨?_,?_⟩
  · rw [e1];omega
  · rw [e2];exact h2
theorem VD {a m j : Int} (h : 0 < m) (h2 : m < 18446744073709551616) : CMul (a % m) j := xK (Int.emod_nonneg _ (by omega)) (Int.lt_trans (Int.emod_lt_of_pos _ h) h2)
section
variable {P : Program} {w : World} {K : PySem.W.Frag} {mg : Str -> Option Value} {base : Heap}
inductive yx (vs : List V) (H : Hp) (Q : VK) : Prop
  | mk (b : Addr) (size n : Int) (_ : vs = [.ref b,.int size]) (_ : BoxAt H b n) (_ : n < 1099511627776) (_ : 0 < size) (_ : size < 1073741824) (_ : ∀ (r : Int) H',0 <= r -> r < size -> BoxAt H' b (n + 1) -> SameB b H H' -> Q (.int r) H') : yx  vs H Q
def qM : Sp := fun vs H Q _ => yx  vs H Q
theorem Jv : zy ["_law_box_here", "_law_size", "_law_found", "_law_step", "_law_once", "_law_twice"] ["_law_box_here", "_law_size"] (zi (zj 13)) := ⟨rfl,rfl,rfl,by decide +kernel,rfl,by decide +kernel,by decide +kernel⟩
theorem XV {f : Addr} {fd : FuncData} (F : Fun K "_law_take" "_law_take" (zj 13) f fd) (B : Blt mg) : FnOk P w K mg base CX0 1 f fd ["_law_box_here", "_law_size"] qM := by
  have nd := Jv.nd
  refine F.ok Jv (fun vs H Q E h => ?_) (fun cdv A outer s H vs Q E hr h => ?_)
  · obtain ⟨b,size,n,rfl,_⟩ := h
    rfl
  · obtain ⟨b,size,n,rfl,⟨b0,b1,b2,hb,p0,p1,p1',p2,p2'⟩,hn,hs0,hs1,k⟩ := h
    refine ⟨_,(zf (qJ (zG wD (zr zJ (pv 0) ze (fun _ _ => rfl)) ze (zE _))
      (zf (jW (zo Za rfl B.divmod Zc (za (zr zJ (pv 0) ze (fun _ _ => rfl)) (za (pv 1) zc))) (jy rfl (zN (vN (pv 0) ze jT) (zN (zF (i := 2) nd rfl (Or.inl rfl)) jc))))
        (zk (zx (pv 2))))
      qk)
      (zf (jW (zp zI (zr zJ (pv 0) ze (fun _ _ => rfl)) ze) (vN (pv 0) ze jT))
      (zf (zt (i := 3) nd rfl (Or.inl rfl) (zp zI ze (zp je (zr zJ (pv 0) ze (fun _ _ => rfl)) (zr zJ (pv 0) ze (fun _ _ => rfl)))))
      (zf (zt (i := 4) nd rfl (Or.inl rfl) (zp ja (zp je (zp zI (zr zJ (pv 0) ze (fun _ _ => rfl)) (zp je ze (zr zJ (pv 0) ze (fun _ _ => rfl)))) (pv 3)) ze))
      (zf (zt (i := 5) nd rfl (Or.inl rfl) (zp ja (zp zI (zp je (pv 4) (zp zI (zp ja (pv 4) ze) ze)) (zr zJ (pv 0) ze (fun _ _ => rfl))) ze))
      (zk (zx (zp ja (zp yf (zp ja (zp je (pv 5) (zp zI (zp ja (pv 5) ze) ze)) ze) ze) (pv 1))))))))),?_⟩
    refine ⟨_,rfl,b,_,_,_,rfl,rfl,SqL.of hb,rfl,_,_,rfl,rfl,_,rfl,?_⟩
    refine qw (fun c => ?_) (fun c => ?_)
    · refine ⟨_,rfl,b,_,_,_,rfl,rfl,SqL.of hb,rfl,_,rfl,_,_,rfl,⟨hs0,hs1⟩,fun p hp => ?_⟩
      have hbp : b ≠ p := zn hb hp
      refine ⟨p,_,rfl,SqT.of zd,rfl,_,_,rfl,_,rfl,b,_,_,_,rfl,rfl,(by rw [zq hbp];exact hb),rfl,_,_,rfl,rfl,_,rfl,?_⟩
      refine k _ _ (Int.emod_nonneg _ (by omega)) (Int.emod_lt_of_pos _ hs0) ⟨_,b1,b2,zd,Int.ediv_nonneg p0 (by omega),p1,p1',p2,by omega⟩ fun d o e hd => ?_
      rw [zq hd,zq (zn e hp)]
      exact e
    · refine ⟨_,rfl,b,_,_,_,rfl,rfl,SqL.of hb,rfl,_,_,rfl,rfl,_,rfl,b,_,_,_,rfl,rfl,hb,rfl,?_⟩
      have hb1 : upd H b (.lst [.int b0,.int b1,.int (b2 + 1)]) b = some (.lst [.int b0,.int b1,.int (b2 + 1)]) := zd
      refine ⟨_,rfl,b,_,_,_,rfl,rfl,SqL.of hb1,rfl,_,rfl,b,_,_,_,rfl,rfl,SqL.of hb1,rfl,_,_,rfl,rfl,xK (by omega) (by omega),_,_,rfl,rfl,?_⟩
      refine ⟨_,rfl,b,_,_,_,rfl,rfl,SqL.of hb1,rfl,_,rfl,b,_,_,_,rfl,rfl,SqL.of hb1,rfl,_,_,rfl,rfl,xK (by omega) (by omega),_,_,rfl,rfl,_,rfl,_,_,rfl,rfl,xK (by omega) (by omega),_,_,rfl,rfl,(by show (0 : Int) < _;decide),?_⟩
      refine ⟨_,rfl,_,rfl,_,_,rfl,rfl,(by show (0 : Int) < _;decide),_,_,rfl,rfl,_,_,rfl,rfl,VD (by decide) (by decide),_,rfl,b,_,_,_,rfl,rfl,SqL.of hb1,rfl,_,_,rfl,rfl,_,_,rfl,rfl,(by show (0 : Int) < _;decide),?_⟩
      refine ⟨_,rfl,_,rfl,_,_,rfl,rfl,(by show (0 : Int) < _;decide),_,_,rfl,rfl,_,_,rfl,rfl,VD (by decide) (by decide),_,_,rfl,rfl,(by show (0 : Int) < _;decide),_,_,rfl,rfl,⟨by decide,by decide⟩,_,rfl,_,_,rfl,rfl,hs0,?_⟩
      refine k _ _ (Int.emod_nonneg _ (by omega)) (Int.emod_lt_of_pos _ hs0) ⟨b0,b1,b2 + 1,hb1,p0,p1,p1',by omega,by omega⟩ fun d o e hd => ?_
      rw [zq hd]
      exact e
inductive ZR (K : PySem.W.Frag) (vs : List V) (H : Hp) (Q : VK) : Prop
  | mk (a : Addr) (ns : List Int) (j : Nat) (_ : vs = [.ref a,.int j]) (_ : SqL K H a (ns.map V.int)) (_ : j <= 100) (_ : ∀ p o,H p = none -> BoxAt (upd H p o) p 0 -> Q (.ref p) (upd H p o)) : ZR K vs H Q
def Jr (K : PySem.W.Frag) : Sp := fun vs H Q _ => ZR K vs H Q
theorem Vu : zy ["_law_script", "_law_k", "_law_cell"] ["_law_script", "_law_k"] (zi (zj 12)) := ⟨rfl,rfl,rfl,by decide +kernel,rfl,by decide +kernel,by decide +kernel⟩
theorem Qn {c : Int} {j : Nat} (hj : j <= 100) : CMul (jz c) (if decide (10 ^ 18 <= jz c) = true then 1 else 0) := by
  refine .inr ?_
  split
  · exact ⟨by decide,by decide⟩
  · exact ⟨by decide,by decide⟩
theorem Xx {c : Int} : 0 <= jz c * (if decide (10 ^ 18 <= jz c) = true then 1 else 0) := by
  have h : 0 <= jz c := by unfold jz;split <;> omega
  split
  · rw [Int.mul_one];exact h
  · rw [Int.mul_zero];exact Int.le_refl 0
theorem V5 {f : Addr} {fd : FuncData} (F : Fun K "_law_box" "_law_box" (zj 12) f fd) (B : Blt mg) : FnOk P w K mg base CX0 1 f fd ["_law_script", "_law_k"] (Jr K) := by
  have nd := Vu.nd
  refine F.ok Vu (fun vs H Q E h => ?_) (fun cdv A outer s H vs Q E hr h => ?_)
  · obtain ⟨a,ns,j,rfl,_⟩ := h
    rfl
  · obtain ⟨a,ns,j,rfl,hS,hj,k⟩ := h
    refine ⟨_,(zf (zt (i := 2) nd rfl (Or.inl rfl) (qN (zG Z8 (pv 1) (zo zC rfl B.len boot_len (za (pv 0) zc)) (zE _)) (zr zJ (pv 0) (pv 1) (fun _ _ => rfl)) ze))
      (zk (zx (zA (za (zp je (zo jr rfl B.abs jt (za (pv 2) zc)) (zM jB rfl B.int jd (za (qm WH (zo jr rfl B.abs jt (za (pv 2) zc)) (zp JS ze ze) (zE _)) zc))) (za (zp ja (zp je (zp zI (zp zI (zp ja (pv 2) ze) (zp je ze (pv 1))) ze) ze) ze) (za ze zc))))))),?_⟩
    refine ⟨_,rfl,_,rfl,a,_,rfl,.inl hS,_,_,rfl,rfl,_,rfl,?_⟩
    refine qw (fun c => ?_) (fun c => ?_)
    · have hl : j < ns.length := by
        have := of_decide_eq_true c
        rw [List.length_map] at this
        omega
      refine ⟨_,rfl,_,rfl,a,_,_,.int ns[j],rfl,rfl,hS,qE (by simp [hl]),?_⟩
      generalize ns[j] = z
      refine ⟨_,rfl,_,rfl,_,rfl,_,rfl,_,_,rfl,rfl,⟨by decide,by decide,by decide⟩,_,_,rfl,rfl,.inr ⟨_,rfl,_,_,rfl,rfl,Qn hj,_,rfl,_,_,rfl,rfl,(by show (0 : Int) < _;decide),_,rfl,_,_,rfl,rfl,xK (by decide) (by decide),_,_,rfl,rfl,_,_,rfl,rfl,_,_,rfl,rfl,?_,_,_,rfl,rfl,(by show (0 : Int) < _;decide),(by rw [sizeLine_eq];exact (by decide : 3 <= 16777216)),fun p hp => k p _ hp ⟨_,_,_,zd,?_,?_,?_,by decide,by decide⟩⟩⟩
      · refine xK ?_ ?_
        · have := Int.emod_nonneg z (show (2147483629 : Int) ≠ 0 by decide)
          omega
        · have := Int.emod_lt_of_pos z (show (0 : Int) < 2147483629 by decide)
          omega
      · exact Xx
      · exact Int.emod_nonneg _ (by decide)
      · exact Int.lt_trans (Int.emod_lt_of_pos _ (by decide)) (by decide)
    · refine ⟨_,rfl,_,rfl,_,rfl,_,rfl,_,_,rfl,rfl,⟨by decide,by decide,by decide⟩,_,_,rfl,rfl,.inr ⟨_,rfl,_,_,rfl,rfl,Qn hj,_,rfl,_,_,rfl,rfl,(by show (0 : Int) < _;decide),_,rfl,_,_,rfl,rfl,xK (by decide) (by decide),_,_,rfl,rfl,_,_,rfl,rfl,_,_,rfl,rfl,?_,_,_,rfl,rfl,(by show (0 : Int) < _;decide),(by rw [sizeLine_eq];exact (by decide : 3 <= 16777216)),fun p hp => k p _ hp ⟨_,_,_,zd,?_,?_,?_,by decide,by decide⟩⟩⟩
      · refine xK ?_ ?_
        · have := Int.emod_nonneg 0 (show (2147483629 : Int) ≠ 0 by decide)
          omega
        · have := Int.emod_lt_of_pos 0 (show (0 : Int) < 2147483629 by decide)
          omega
      · exact Xx
      · exact Int.emod_nonneg _ (by decide)
      · exact Int.lt_trans (Int.emod_lt_of_pos _ (by decide)) (by decide)
end
end L2
set_option Elab.async false
set_option linter.all false
set_option maxRecDepth 100000
set_option maxHeartbeats 4000000
namespace L2
open PySem PySem.Spec PyProof.Rows
theorem y4 {xs : List V} {lo hi : Option Int} {x : V} (h : x ∈ qb xs lo hi) : x ∈ xs := List.mem_of_mem_drop (List.mem_of_mem_take h)
theorem Qf {n j : Nat} (h : j < n) : ixN n (j : Int) = some j := by
  unfold ixN
  rw [if_pos (by omega),if_pos (by omega)];simp
theorem Xt (ns : List Int) (lo hi : Option Int) : ∃ ms : List Int,qb (ns.map V.int) lo hi = ms.map V.int := by
  refine ⟨(ns.drop (HT.sIx ns.length 0 lo)).take (HT.sIx ns.length ns.length hi - HT.sIx ns.length 0 lo),?_⟩
  unfold qb
  rw [List.length_map,List.map_take,List.map_drop]
theorem Vf (ns : List Int) (z : Nat) : (qb (ns.map V.int) none (some (z : Int))).length = min z ns.length := by
  unfold qb
  rw [HT.sIx_nat,HT.sIx_none,List.length_take,List.length_drop,List.length_map]
  omega
theorem Vg (ns : List Int) (z : Nat) (hi : Option Int) : (qb (ns.map V.int) (some (z : Int)) hi).length <= ns.length - min z ns.length := by
  unfold qb
  rw [HT.sIx_nat,List.length_take,List.length_drop,List.length_map]
  omega
section
variable {P : Program} {w : World} {K : PySem.W.Frag} {mg : Str -> Option Value} {base : Heap}
inductive yF (K : PySem.W.Frag) (vs : List V) (H : Hp) (Q : VK) : Prop
  | mk (a : Addr) (ns : List Int) (z : Nat) (_ : vs = [.ref a,.int z]) (_ : SqL K H a (ns.map V.int)) (_ : ns.length <= 63) (_ : 1 <= z) (_ : z <= 63) (_ : ∀ (p : Addr) (ms : List Int) H',Same H H' -> SqL K H' p (ms.map V.int) -> ms.length <= z -> Q (.ref p) H') : yF K vs H Q
def Zv (K : PySem.W.Frag) : Sp := fun vs H Q _ => yF K vs H Q
theorem JC : zy ["_law_script", "_law_size", "_law_cells", "_law_k", "_law_cell"] ["_law_script", "_law_size"] (zi (zj 14)) := ⟨rfl,rfl,rfl,by decide +kernel,rfl,by decide +kernel,by decide +kernel⟩
def QT (a : _) (z : Nat) (p : _) (H : _) (q : _) (ns : List Int) := fun (i : Nat) (σ : St) (H2 : Hp) => (Ex3 fun (ms : List Int) (v3 v4 : Option V) => An5 (σ = [some (.ref a),some (.int z),some (.ref p),v3,v4]) (Same H H2) (H2 p = some (.lst (ms.map V.int))) (H2 q = some (.lst (qb (ns.map V.int) (some (z : Int)) (some 63)))) (ms.length = min z ns.length) : Prop)
theorem X3 {f : Addr} {fd : FuncData} (F : Fun K "_law_folded" "_law_folded" (zj 14) f fd) (B : Blt mg) : FnOk P w K mg base CX0 1 f fd ["_law_script", "_law_size"] (Zv K) := by
  have nd := JC.nd
  refine F.ok JC (fun vs H Q E h => ?_) (fun cdv A outer s H vs Q E hr h => ?_)
  · obtain ⟨a,ns,z,rfl,_⟩ := h
    rfl
  · obtain ⟨a,ns,z,rfl,hS,hlen,hz1,hz2,k⟩ := h
    refine ⟨_,(zf (zt (i := 2) nd rfl (Or.inl rfl) (zM jN rfl B.list zU (za (qh qC (pv 0) qS (qe (pv 1))) zc)))
      (zf (qy PassesOwn.never rfl (XQ rfl B.enumerate (za (qh qC (pv 0) (qe (pv 1)) (qe ze)) zc)) (jy rfl (zN (zF (i := 3) nd rfl (Or.inl rfl)) (zN (zF (i := 4) nd rfl (Or.inl rfl)) jc)))
      (zk (jW (zp zI (zr zJ (pv 2) (zp ja (pv 3) (pv 1)) (fun _ _ => rfl)) (zp je (pv 4) (zp zI (pv 3) ze))) (vN (pv 2) (zp ja (pv 3) (pv 1)) jT))))
      (zk (zx (pv 2))))),?_⟩
    refine ⟨_,rfl,_,rfl,_,rfl,a,_,rfl,hS,fun l hl => ⟨l,_,rfl,.inl (SqL.of zd),fun p hp => ?_⟩⟩
    have s1 : Same H (upd (upd H l (.lst (qb (ns.map V.int) none (some (z : Int))))) p (.lst (qb (ns.map V.int) none (some (z : Int))))) := (zb hl).trans (zb hp)
    generalize hH1 : upd (upd H l (.lst (qb (ns.map V.int) none (some (z : Int))))) p (.lst (qb (ns.map V.int) none (some (z : Int)))) = H1 at s1
    have hp1 : H1 p = some (.lst (qb (ns.map V.int) none (some (z : Int)))) := by rw [<- hH1];exact zd
    have np : H p = none := (zb hl).free hp
    refine ⟨_,rfl,_,rfl,_,rfl,_,rfl,a,_,rfl,s1.seq hS,fun q hq => ⟨q,rfl,⟨_,SqL.of zd⟩,?_⟩⟩
    have npq : p ≠ q := zn hp1 hq
    obtain ⟨ms0,hms0⟩ := Xt ns none (some (z : Int))
    have lo := Vf ns z
    have hi := Vg ns z (some 63)
    refine Xp (K := K) (a := q) (xs := qb (ns.map V.int) (some (z : Int)) (some 63)) (QT a z p H q ns)
      ⟨ms0,none,none,rfl,s1.trans (zb hq),by rw [zq npq,hp1,hms0],zd,by rw [<- lo,hms0,List.length_map]⟩ (fun i σ H2 _ ⟨_,_,_,_,_,_,h,_⟩ => SqL.of h) ?_ ?_
    · rintro i x σ H2 T hx ⟨ms,v3,v4,rfl,sm,hp2,hq2,hml⟩ hT
      have hil : i < (qb (ns.map V.int) (some (z : Int)) (some 63)).length := (List.getElem?_eq_some_iff.mp hx).1
      obtain ⟨c,rfl⟩ : ∃ c,x = V.int c := by
        have := y4 (List.mem_of_getElem? hx)
        obtain ⟨c,_,e⟩ := List.mem_map.mp this
        exact ⟨c,e.symm⟩
      have hj : i % z < ms.length := by
        have := Nat.mod_lt i (show 0 < z by omega)
        omega
      have npT : p ≠ T := zn hp2 hT
      have nqT : q ≠ T := zn hq2 hT
      have hp3 : upd H2 T (.tup [.int i,.int c]) p = some (.lst (ms.map V.int)) := by rw [zq npT];exact hp2
      have em : ((i % z : Nat) : Int) = (i : Int) % (z : Int) := Int.natCast_emod i z
      have hz0 : (0 : Int) < (z : Int) := by omega
      refine ⟨T,_,rfl,SqT.of zd,rfl,_,_,rfl,_,_,rfl,rfl,?_⟩
      refine ⟨_,rfl,_,rfl,_,rfl,_,_,rfl,rfl,hz0,p,_,_,.int ms[i % z],rfl,rfl,SqL.of hp3,(by rw [<- em];exact qE (by simp [hj])),?_⟩
      refine ⟨_,rfl,_,rfl,_,_,rfl,rfl,_,_,rfl,rfl,.inr ⟨?_,?_⟩,_,_,rfl,rfl,?_⟩
      · have e1 : (-(2 ^ 64) : Int) = -18446744073709551616 := by decide
        rw [e1];omega
      · have e2 : ((2 ^ 64) : Int) = 18446744073709551616 := by decide
        rw [e2];omega
      refine ⟨_,rfl,_,rfl,_,rfl,_,_,rfl,rfl,hz0,p,_,_,i % z,rfl,rfl,hp3,(by rw [<- em,List.length_map];exact Qf hj),?_⟩
      refine ⟨ms.set (i % z) (ms[i % z] + c * ((i : Int) + 2)),_,_,rfl,fun d o e => ?_,by rw [zd,List.map_set],?_,by rw [List.length_set];exact hml⟩
      · rw [zq (zn e np),zq (zn (sm d o e) hT)]
        exact sm d o e
      · rw [zq (Ne.symm npq),zq nqT]
        exact hq2
    · rintro σ H2 ⟨ms,v3,v4,rfl,sm,hp2,hq2,hml⟩
      exact ⟨_,rfl,k p ms H2 sm (SqL.of hp2) (by omega)⟩
end
end L2
set_option Elab.async false
set_option linter.all false
set_option maxRecDepth 100000
set_option maxHeartbeats 4000000
namespace L2
open PySem PySem.Spec PyProof.Rows
theorem qX : [V.ty "list",V.ty "tuple"].length <= sizeLine := by rw [sizeLine_eq];exact (by decide : 2 <= 16777216)
section
variable {P : Program} {w : World} {K : PySem.W.Frag} {mg : Str -> Option Value} {base : Heap}
def spS (K : PySem.W.Frag) : Nat -> Sp
  | 0 => fun _ _ _ _ => False
  | n + 1 => fun vs H Q _ => ∃ d f v,vs = [f,v] /\ Rep K H d f /\ Rep K H d v /\ Dat.ok n d /\ ∀ H',Same H H' -> Q (.bl true) H'
theorem Jx : zy ["_law_found", "_law_due"] ["_law_found", "_law_due"] (zi (zj 15)) := ⟨rfl,rfl,rfl,by decide +kernel,rfl,by decide +kernel,by decide +kernel⟩
theorem Z9 {f : Addr} {fd : FuncData} (F : Fun K "_law_same" "_law_same" (zj 15) f fd) (B : Blt mg) (hm : mg "_law_same" = some (.ref f)) (hb : Binds K fd ["_law_found", "_law_due"] []) :
    ∀ n : Nat,FnOk P w K mg base CX0 n f fd ["_law_found", "_law_due"] (spS K n)
  | 0 => ⟨fun _ _ _ _ h => h.elim,fun _ _ _ _ _ _ _ _ _ _ _ _ _ h => h.elim⟩
  | n + 1 => by
    have D_same : Dfn P w K mg base "_law_same" n ["_law_found", "_law_due"] (spS K n) := ⟨f,fd,Z9 F B hm hb n,hm,F.kp,hb⟩
    have nd := Jx.nd
    refine F.ok Jx (fun vs H Q E h => ?_) (fun cdv A outer s H vs Q E hr h => ?_)
    · obtain ⟨d,g,v,rfl,_⟩ := h
      rfl
    · obtain ⟨d,g,v,rfl,rg,rv,ok,k⟩ := h
      refine ⟨_,(zf (qJ (qD (zo xj rfl B.isinstance boot_isinstance (za (pv 1) (za (zQ (za (zO (v := .ty "list") rfl B.list zU rfl) (za (zO (v := .ty "tuple") rfl B.tuple zX rfl) zc))) zc))))
      (zf (qJ (PW.pt (jP (jF (qD (zo xj rfl B.isinstance boot_isinstance (za (pv 0) (za (zQ (za (zO (v := .ty "list") rfl B.list zU rfl) (za (zO (v := .ty "tuple") rfl B.tuple zX rfl) zc))) zc))))) (jE (zG JT (zo z6 rfl B.isinstance boot_isinstance (za (pv 0) (za (zO (v := .ty "list") rfl B.list zU rfl) zc))) (zo z6 rfl B.isinstance boot_isinstance (za (pv 1) (za (zO (v := .ty "list") rfl B.list zU rfl) zc))) (zE _)))))
        (zk (zx x9))
        qk)
        (zk (zx (xw (qm qB (zo zC rfl B.len boot_len (za (pv 0) zc)) (zo zC rfl B.len boot_len (za (pv 1) zc)) (zE _)) (xt (zo (jl rfl) rfl B.all boot_all (za (xu [] [] rfl rfl (by kernel_rfl) (vM rfl B.zip (za (pv 0) (za (pv 1) zc))) (fun C0 s0 H0 ex0 => qH) (fun C0 s0 H0 ex0 => (zg D_same (hr.mono (by first | decide | exact Nat.le_refl _ | omega)) rfl (za (pv 0) (za (pv 1) zc))))) zc)))))))
      qk)
      (zf (qJ (PW.pt (jP (zG VU (pv 1) JQ (zE _)) (jE (qD (zo z6 rfl B.isinstance boot_isinstance (za (pv 1) (za (zO (v := .ty "str") rfl B.str xM rfl) zc)))))))
      (zk (zx (xw (qm qB (pv 0) (pv 1) (zE _)) (xt (qm qB (zo z6 rfl B.isinstance boot_isinstance (za (pv 0) (za (zO (v := .ty "str") rfl B.str xM rfl) zc))) (zo z6 rfl B.isinstance boot_isinstance (za (pv 1) (za (zO (v := .ty "str") rfl B.str xM rfl) zc))) (zE _))))))
      qk)
      (zk (zx (xw (zo z6 rfl B.isinstance boot_isinstance (za (pv 0) (za (zO (v := .ty "int") rfl B.int jd rfl) zc))) (xw (qm qB (zo z6 rfl B.isinstance boot_isinstance (za (pv 0) (za (zO (v := .ty "bool") rfl B.bool xm rfl) zc))) (zo z6 rfl B.isinstance boot_isinstance (za (pv 1) (za (zO (v := .ty "bool") rfl B.bool xm rfl) zc))) (zE _)) (xt (qm qB (pv 0) (pv 1) (zE _))))))))),?_⟩
      refine ⟨_,rfl,qX,fun p hp => ⟨v,d.tyN,p,["list", "tuple"],rfl,(rv.same (zb hp)).ty,zd,(by decide),_,rfl,?_⟩⟩
      have s1 : Same H (upd H p (.tup [V.ty "list",V.ty "tuple"])) := zb hp
      have rg1 := rg.same s1
      have rv1 := rv.same s1
      generalize upd H p (.tup [V.ty "list",V.ty "tuple"]) = H1 at s1 rg1 rv1
      cases d with
      | non =>
        cases (show g = _ from rg);cases (show v = _ from rv)
        refine ifF rfl ⟨_,rfl,rfl,_,rfl,ifT (by simp) (ifT rfl ?_)⟩
        refine ⟨_,rfl,_,rfl,rfl,_,rfl,ifT (by simp) ⟨_,rfl,_, "NoneType", "str",rfl,rg1.ty,(by decide),_,rfl,_, "NoneType", "str",rfl,rv1.ty,(by decide),rfl,?_⟩⟩
        have := k H1 s1
        simpa using this
      | str x =>
        cases (show g = _ from rg);cases (show v = _ from rv)
        refine ifF rfl ⟨_,rfl,rfl,_,rfl,ifF (by simp) ⟨_,rfl,_, "str", "str",rfl,rv1.ty,(by decide),_,rfl,ifT (by decide) ?_⟩⟩
        refine ⟨_,rfl,_,rfl,rfl,_,rfl,ifT (by simp) ⟨_,rfl,_, "str", "str",rfl,rg1.ty,(by decide),_,rfl,_, "str", "str",rfl,rv1.ty,(by decide),rfl,?_⟩⟩
        have := k H1 s1
        simpa using this
      | bl b =>
        cases (show g = _ from rg);cases (show v = _ from rv)
        refine ifF rfl ⟨_,rfl,rfl,_,rfl,ifF (by simp) ⟨_,rfl,_, "bool", "str",rfl,rv1.ty,(by decide),_,rfl,ifF (by decide) ?_⟩⟩
        refine ⟨_,rfl,_, "bool", "int",rfl,rg1.ty,(by decide),_,rfl,ifT (by decide) ⟨_,rfl,_, "bool", "bool",rfl,rg1.ty,(by decide),_,rfl,_, "bool", "bool",rfl,rv1.ty,(by decide),rfl,_,rfl,ifT (by simp) ⟨_,rfl,_,rfl,rfl,?_⟩⟩⟩
        have := k H1 s1
        simpa using this
      | int b =>
        cases (show g = _ from rg);cases (show v = _ from rv)
        refine ifF rfl ⟨_,rfl,rfl,_,rfl,ifF (by simp) ⟨_,rfl,_, "int", "str",rfl,rv1.ty,(by decide),_,rfl,ifF (by decide) ?_⟩⟩
        refine ⟨_,rfl,_, "int", "int",rfl,rg1.ty,(by decide),_,rfl,ifT (by decide) ⟨_,rfl,_, "int", "bool",rfl,rg1.ty,(by decide),_,rfl,_, "int", "bool",rfl,rv1.ty,(by decide),rfl,_,rfl,ifT (by simp) ⟨_,rfl,_,rfl,rfl,?_⟩⟩⟩
        have := k H1 s1
        simpa using this
      | lst ds =>
        obtain ⟨a,xs,rfl,hx,rx⟩ := rg1
        obtain ⟨b,ys,rfl,hy,ry⟩ := rv1
        cases n with
        | zero => exact (show False from ok).elim
        | succ n =>
          obtain ⟨hlen,hall⟩ : ds.length <= 1000000 /\ ∀ d ∈ ds,Dat.ok n d := ok
          have lx := rx.len
          have ly := ry.len
          have hbig : 1000000 < sizeLine := by rw [sizeLine_eq];decide
          refine ifT rfl ?_
          refine ⟨_,rfl,qX,fun p2 hp2 => ⟨.ref a, "list",p2,["list", "tuple"],rfl,(.inl ⟨rfl,xs,(zb hp2).seq hx⟩),zd,(by decide),_,rfl,ifF rfl ?_⟩⟩
          have s2 : Same H1 (upd H1 p2 (.tup [V.ty "list",V.ty "tuple"])) := zb hp2
          have hx2 := s2.seq hx
          have hy2 := s2.seq hy
          have rx2 := rx.same s2
          have ry2 := ry.same s2
          have s3 := s1.trans s2
          generalize upd H1 p2 (.tup [V.ty "list",V.ty "tuple"]) = H2 at s2 s3 hx2 hy2 rx2 ry2
          refine ⟨_,rfl,.ref a, "list", "list",rfl,(.inl ⟨rfl,xs,hx2⟩),(by decide),_,rfl,.ref b, "list", "list",rfl,(.inl ⟨rfl,ys,hy2⟩),(by decide),rfl,_,rfl,ifF (by decide) ?_⟩
          refine ⟨_,rfl,a,xs,rfl,(.inl hx2),_,rfl,b,ys,rfl,(.inl hy2),rfl,_,rfl,ifT (by simp [lx,ly]) ?_⟩
          refine ⟨_,rfl,_,rfl,true,true,a,b,rfl,⟨xs,hx2⟩,⟨ys,hy2⟩,?_⟩
          refine yh (K := K) (k1 := true) (k2 := true) (xs := xs) (ys := ys) (fun i zs H3 => zs = List.replicate i (V.bl true) /\ Same H2 H3) ⟨rfl,Same.refl _⟩ (fun i zs H3 ⟨_,sm⟩ => ⟨sm.seq hx2,sm.seq hy2⟩) ?_ ?_
          · rintro i x y zs H3 T e1 e2 ⟨rfl,sm⟩ hT
            have hi : i < ds.length := by have := (List.getElem?_eq_some_iff.mp e1).1;omega
            obtain ⟨d1,q1,r1⟩ := rx2.get e1
            obtain ⟨d2,q2,r2⟩ := ry2.get e2
            rw [q1] at q2;cases q2
            have s4 := sm.trans (zb (o := .tup [x,y]) hT)
            refine ⟨T,_,rfl,SqT.of zd,rfl,_,_,rfl,_,_,rfl,rfl,rfl,?_⟩
            refine ⟨_,rfl,_,rfl,d1,x,y,rfl,r1.same s4,r2.same s4,hall d1 (List.mem_of_getElem? q1),fun H5 s5 => ⟨?_,?_,s4.trans s5⟩⟩
            · rw [List.length_replicate];omega
            · rw [List.replicate_succ']
          · rintro zs H3 ⟨rfl,sm⟩
            refine ⟨by rw [List.length_replicate];omega,fun D hD => ⟨D,List.replicate (min xs.length ys.length) true,rfl,?_,?_⟩⟩
            · refine SqL.of ?_
              rw [zd,List.map_replicate]
            · have := k _ (s3.trans (sm.trans (zb (o := .lst (List.replicate (min xs.length ys.length) (V.bl true))) hD)))
              simpa using this
      | tup ds =>
        obtain ⟨a,xs,rfl,hx,rx⟩ := rg1
        obtain ⟨b,ys,rfl,hy,ry⟩ := rv1
        cases n with
        | zero => exact (show False from ok).elim
        | succ n =>
          obtain ⟨hlen,hall⟩ : ds.length <= 1000000 /\ ∀ d ∈ ds,Dat.ok n d := ok
          have lx := rx.len
          have ly := ry.len
          have hbig : 1000000 < sizeLine := by rw [sizeLine_eq];decide
          refine ifT rfl ?_
          refine ⟨_,rfl,qX,fun p2 hp2 => ⟨.ref a, "tuple",p2,["list", "tuple"],rfl,(.inr ⟨rfl,xs,(zb hp2).sqT hx⟩),zd,(by decide),_,rfl,ifF rfl ?_⟩⟩
          have s2 : Same H1 (upd H1 p2 (.tup [V.ty "list",V.ty "tuple"])) := zb hp2
          have hx2 := s2.sqT hx
          have hy2 := s2.sqT hy
          have rx2 := rx.same s2
          have ry2 := ry.same s2
          have s3 := s1.trans s2
          generalize upd H1 p2 (.tup [V.ty "list",V.ty "tuple"]) = H2 at s2 s3 hx2 hy2 rx2 ry2
          refine ⟨_,rfl,.ref a, "tuple", "list",rfl,(.inr ⟨rfl,xs,hx2⟩),(by decide),_,rfl,.ref b, "tuple", "list",rfl,(.inr ⟨rfl,ys,hy2⟩),(by decide),rfl,_,rfl,ifF (by decide) ?_⟩
          refine ⟨_,rfl,a,xs,rfl,(.inr hx2),_,rfl,b,ys,rfl,(.inr hy2),rfl,_,rfl,ifT (by simp [lx,ly]) ?_⟩
          refine ⟨_,rfl,_,rfl,false,false,a,b,rfl,⟨xs,hx2⟩,⟨ys,hy2⟩,?_⟩
          refine yh (K := K) (k1 := false) (k2 := false) (xs := xs) (ys := ys) (fun i zs H3 => zs = List.replicate i (V.bl true) /\ Same H2 H3) ⟨rfl,Same.refl _⟩ (fun i zs H3 ⟨_,sm⟩ => ⟨sm.sqT hx2,sm.sqT hy2⟩) ?_ ?_
          · rintro i x y zs H3 T e1 e2 ⟨rfl,sm⟩ hT
            have hi : i < ds.length := by have := (List.getElem?_eq_some_iff.mp e1).1;omega
            obtain ⟨d1,q1,r1⟩ := rx2.get e1
            obtain ⟨d2,q2,r2⟩ := ry2.get e2
            rw [q1] at q2;cases q2
            have s4 := sm.trans (zb (o := .tup [x,y]) hT)
            refine ⟨T,_,rfl,SqT.of zd,rfl,_,_,rfl,_,_,rfl,rfl,rfl,?_⟩
            refine ⟨_,rfl,_,rfl,d1,x,y,rfl,r1.same s4,r2.same s4,hall d1 (List.mem_of_getElem? q1),fun H5 s5 => ⟨?_,?_,s4.trans s5⟩⟩
            · rw [List.length_replicate];omega
            · rw [List.replicate_succ']
          · rintro zs H3 ⟨rfl,sm⟩
            refine ⟨by rw [List.length_replicate];omega,fun D hD => ⟨D,List.replicate (min xs.length ys.length) true,rfl,?_,?_⟩⟩
            · refine SqL.of ?_
              rw [zd,List.map_replicate]
            · have := k _ (s3.trans (sm.trans (zb (o := .lst (List.replicate (min xs.length ys.length) (V.bl true))) hD)))
              simpa using this
end
end L2
set_option Elab.async false
set_option linter.all false
set_option maxRecDepth 100000
set_option maxHeartbeats 4000000
namespace L2
open PySem PySem.Spec PyProof.Rows
theorem le0 : ([] : List V).length <= sizeLine := Nat.zero_le _
theorem le2 {x y : V} : [x,y].length <= sizeLine := by rw [sizeLine_eq];exact (by decide : 2 <= 16777216)
theorem SameB.refl (b : Addr) (H : Hp) : SameB b H H := fun _ _ e _ => e
theorem SameB.trans {b : Addr} {H H1 H2 : Hp} (a : SameB b H H1) (c : SameB b H1 H2) : SameB b H H2 := fun d o e hd => c d o (a d o e hd) hd
theorem SameB.of {b : Addr} {H H1 : Hp} (a : Same H H1) : SameB b H H1 := fun d o e _ => a d o e
theorem SameB.new {b p : Addr} {o : HO} {H H1 : Hp} (a : SameB b H H1) (h : H1 p = none) : SameB b H (upd H1 p o) := a.trans (.of (zb h))
theorem BoxAt.new {b p : Addr} {o : HO} {H : Hp} {n : Int} (a : BoxAt H b n) (h : H p = none) : BoxAt (upd H p o) b n := by
  obtain ⟨b0,b1,b2,e,r⟩ := a
  exact ⟨b0,b1,b2,by rw [zq (zn e h)];exact e,r⟩
theorem BoxAt.same {b : Addr} {H H' : Hp} {n : Int} (a : BoxAt H b n) (s : Same H H') : BoxAt H' b n := by
  obtain ⟨b0,b1,b2,e,r⟩ := a
  exact ⟨b0,b1,b2,s _ _ e,r⟩
theorem BoxAt.ne {b t : Addr} {H : Hp} {n : Int} {o : HO} (a : BoxAt H b n) (h : H t = some o) (hl : ∀ x y z,o ≠ .lst [x,y,z]) : t ≠ b := by
  obtain ⟨b0,b1,b2,e,r⟩ := a
  exact Xb h e (hl _ _ _)
theorem BoxAt.some {b : Addr} {H : Hp} {n : Int} (a : BoxAt H b n) : ∃ o,H b = .some o := let ⟨_,_,_,e,_⟩ := a;⟨_,e⟩
theorem BoxAt.mono {b : Addr} {H : Hp} {n m : Int} (a : BoxAt H b n) (h : n <= m) : BoxAt H b m := by
  obtain ⟨b0,b1,b2,e,p0,p1,p2,p3,p4⟩ := a
  exact ⟨b0,b1,b2,e,p0,p1,p2,p3,by omega⟩
theorem le1 {x : V} : [x].length <= sizeLine := by rw [sizeLine_eq];exact (by decide : 1 <= 16777216)
theorem le3 {x y z : V} : [x,y,z].length <= sizeLine := by rw [sizeLine_eq];exact (by decide : 3 <= 16777216)
theorem le4 {x y z u : V} : [x,y,z,u].length <= sizeLine := by rw [sizeLine_eq];exact (by decide : 4 <= 16777216)
theorem leN {xs : List V} (h : xs.length <= 1000) : xs.length <= sizeLine := by rw [sizeLine_eq];omega
theorem xZ {α : Type} {xs : List α} {i : Int} (h : 0 <= i) (h' : i < xs.length) : ∃ v,atI xs i = some v /\ xs[i.toNat]? = some v := by
  have hl : i.toNat < xs.length := by omega
  refine ⟨xs[i.toNat],?_,by simp [hl]⟩
  have := qE (xs := xs) (j := i.toNat) (v := xs[i.toNat]) (by simp [hl])
  rwa [show ((i.toNat : Nat) : Int) = i by omega] at this
theorem WB {α : V -> Prop} {xs : List V} {r : Int} (h0 : 0 <= r) (h1 : r < xs.length) (all : ∀ x ∈ xs,α x) : ∃ v,atI xs r = some v /\ α v := by
  obtain ⟨v,e,e'⟩ := xZ h0 h1
  exact ⟨v,e,all v (List.mem_of_getElem? e')⟩
theorem fm0 {α : V -> Prop} : ∀ y ∈ ([] : List V),α y := fun y h => nomatch h
theorem fm {α : V -> Prop} {x : V} {xs : List V} (h : α x) (hs : ∀ y ∈ xs,α y) : ∀ y ∈ x :: xs,α y := fun y hy => (List.mem_cons.mp hy).elim (fun e => e ▸ h) (hs y)
theorem SameB.put {b m : Addr} {H H' : Hp} {o : HO} (s : SameB b H H') (h : H m = none) : SameB b H (upd H' m o) := fun c u e hc => by
  rw [zq (zn e h)];exact s c u e hc
theorem SameB.none {b m : Addr} {H H' : Hp} (s : SameB b H H') (h : H' m = none) (hm : m ≠ b) : H m = none := by
  cases q : H m with
  | none => rfl
  | some o => have := s m o q hm;rw [h] at this;cases this
def jJ (x : Str) : Prop := (x.cps.toList.map yW).all id = true
theorem V6 {r : Int} (h0 : 0 <= r) (h1 : r < 26) : ∃ c,atI Wy.cps.toList r = some c /\ yW c = true := by
  rw [Xe]
  obtain ⟨c,e,e'⟩ := xZ (xs := List.range' 97 26) h0 (by rw [List.length_range'];omega)
  have hm := List.mem_range'_1.mp (List.mem_of_getElem? e')
  refine ⟨c,e,?_⟩
  unfold yW
  rw [decide_eq_true (by omega),decide_eq_true (by omega)]
  rfl
theorem Xd {c : Nat} {y : Str} (h : yW c = true) (hy : jJ y) : jJ ((⟨#[c]⟩ : Str) ++ y) := by
  unfold jJ at hy ⊢
  show ((#[c] ++ y.cps).toList.map yW).all id = true
  rw [Array.toList_append,List.map_append,List.all_append,hy,Bool.and_true]
  show (yW c && true) = true
  rw [h];rfl
theorem Xf {c : Nat} {y : Str} : ((⟨#[c]⟩ : Str) ++ y).length = y.length + 1 := by
  show (#[c] ++ y.cps).size = y.cps.size + 1
  rw [Array.size_append]
  show 1 + _ = _
  omega
theorem BoxAt.nne {b p : Addr} {H : Hp} {n : Int} (a : BoxAt H b n) (h : H p = none) : p ≠ b := by
  obtain ⟨o,e⟩ := a.some
  exact (zn e h).symm
theorem BoxAt.other {b l : Addr} {H : Hp} {n : Int} {o : HO} (a : BoxAt H b n) (h : l ≠ b) : BoxAt (upd H l o) b n := by
  obtain ⟨b0,b1,b2,e,r⟩ := a
  exact ⟨b0,b1,b2,by rw [zq (Ne.symm h)];exact e,r⟩
theorem Vx {α : V -> Prop} {H : Hp} {p : Addr} {xs : List V} {r : Int} (_ : H p = some (.lst xs)) (h0 : 0 <= r) (h1 : r < xs.length) (all : ∀ x ∈ xs,α x) : ∃ v,atI xs r = some v /\ α v := WB h0 h1 all
def Nm (x : Str) : Prop := x.length <= 8 /\ ∀ c ∈ x.cps.toList,c < 1000000
theorem WJ {x : Str} (h : x.length <= 8) (l : jJ x) : Nm x := ⟨h,fun c hc => by
  unfold jJ at l
  have := List.all_eq_true.mp l (yW c) (List.mem_map.mpr ⟨c,hc,rfl⟩)
  unfold yW at this
  simp at this
  omega⟩
theorem wj : ∀ (ns : List Str),(ns.map V.str).all jf = true
  | [] => rfl
  | n :: ns => by
    show (true && (ns.map V.str).all jf) = true
    rw [wj ns];rfl
section
variable {P : Program} {w : World} {K : PySem.W.Frag} {mg : Str -> Option Value} {base : Heap}
inductive wq (vs : List V) (H : Hp) (Q : VK) : Prop
  | mk (num size : Int) (_ : vs = [.int num,.int size]) (_ : 0 <= num) (_ : 1 <= size) (_ : size <= 8) (_ : ∀ y : Str,(y.length : Int) = size -> jJ y -> Q (.str y) H) : wq  vs H Q
def wV : Sp := fun vs H Q _ => wq  vs H Q
theorem ZV : zy ["_law_number", "_law_size", "_law_word", "_law_k"] ["_law_number", "_law_size"] (zi (zj 16)) := ⟨rfl,rfl,rfl,by decide +kernel,rfl,by decide +kernel,by decide +kernel⟩
def QS (size : _) (H : _) := fun (i : Nat) (σ : St) (H4 : Hp) => (Ex3 fun (num' : Int) (y : Str) (v3 : Option V) => An5 (σ = [some (.int num'),some (.int size),some (.str y),v3]) (0 <= num') (y.length = i) (jJ y) (H4 = H) : Prop)
theorem JW {f : Addr} {fd : FuncData} (F : Fun K "_law_spelled" "_law_spelled" (zj 16) f fd) (B : Blt mg) : FnOk P w K mg base CX0 1 f fd ["_law_number", "_law_size"] wV := by
  have nd := ZV.nd
  refine F.ok ZV (fun vs H Q E h => ?_) (fun cdv A outer s H vs Q E hr h => ?_)
  · obtain ⟨num,size,rfl,_⟩ := h
    rfl
  · obtain ⟨num,size,rfl,n0,s0,s1,k⟩ := h
    have hbig : 100000 < sizeLine := by rw [sizeLine_eq];decide
    have e62 : (2 : Int) ^ 62 = 4611686018427387904 := by decide
    refine ⟨_,(zf (zt (i := 2) nd rfl (Or.inl rfl) jY)
      (zf (qy PassesOwn.never rfl (zV rfl B.range (za (pv 1) zc)) (zF (i := 3) nd rfl (Or.inl rfl))
      (zf (zt (i := 2) nd rfl (Or.inl rfl) (zp Zz (zr Xj jY (zp ja (pv 0) ze) (fun _ _ => rfl)) (pv 2)))
        (zk (zt (i := 0) nd rfl (Or.inl rfl) (zp yf (pv 0) ze)))))
      (zk (zx (pv 2))))),?_⟩
    refine ⟨_,rfl,_,rfl,(by rw [e62];omega),(by rw [e62];omega),?_⟩
    refine qq (QS size H) ⟨num,_,_,rfl,n0,rfl,rfl,rfl⟩ ?_ ?_
    · rintro i σ H4 hi ⟨num',y,v3,rfl,m0,ly,al,rfl⟩
      obtain ⟨c,hc,lc⟩ := V6 (r := num' % 26) (Int.emod_nonneg _ (by decide)) (Int.emod_lt_of_pos _ (by decide))
      refine ⟨_,rfl,_,_,rfl,rfl,(by show (0 : Int) < 26;decide),_,_,c,rfl,rfl,(by rw [sizeLine_eq];decide),hc,_,rfl,_,_,rfl,rfl,?_,?_⟩
      · show 1 + y.length <= sizeLine
        omega
      · exact ⟨_,rfl,_,_,rfl,rfl,⟨by decide,by decide⟩,_,_,_,rfl,Int.ediv_nonneg m0 (by decide),by rw [Xf,ly],Xd lc al,rfl⟩
    · rintro σ H4 ⟨num',y,v3,rfl,m0,ly,al,rfl⟩
      exact ⟨_,rfl,k y (by omega) al⟩
inductive ZM (vs : List V) (H : Hp) (Q : VK) : Prop
  | mk (b t : Addr) (n : Int) (ts : List Str) (_ : vs = [.ref b,.ref t]) (_ : BoxAt H b n) (_ : n < 1099511000000) (_ : t ≠ b) (_ : H t = some (.lst (ts.map V.str))) (_ : ts.length <= 1000) (_ : ∀ (y : Str) H',SameB b H H' -> BoxAt H' b (n + 12) -> 1 <= y.length -> y.length <= 8 -> jJ y -> Q (.str y) H') : ZM  vs H Q
def Jp : Sp := fun vs H Q _ => ZM  vs H Q
theorem Vo : zy ["_law_box_here", "_law_taken", "_law_size", "_law_number", "_law_k", "_law_word", "_law_turn"] ["_law_box_here", "_law_taken"] (zi (zj 17)) := ⟨rfl,rfl,rfl,by decide +kernel,rfl,by decide +kernel,by decide +kernel⟩
theorem VR {r : Int} (h0 : 0 <= r) (h1 : r < 4) : ∃ z : Int,atI [V.int 3,V.int 3,V.int 3,V.int 8] r = some (.int z) /\ 3 <= z /\ z <= 8 := by
  have hc : r = 0 \/ r = 1 \/ r = 2 \/ r = 3 := by omega
  rcases hc with rfl | rfl | rfl | rfl
  · exact ⟨3,rfl,by decide,by decide⟩
  · exact ⟨3,rfl,by decide,by decide⟩
  · exact ⟨3,rfl,by decide,by decide⟩
  · exact ⟨8,rfl,by decide,by decide⟩
def QR (b : _) (t : _) (r2 : _) (H : _) (n : _) := fun (i : Nat) (σ : St) (H4 : Hp) => (Ex2 fun (num : Int) (v4 : Option V) => An4 (σ = [some (.ref b),some (.ref t),some (.int (1 + r2)),some (.int num),v4,none,none]) (0 <= num) (SameB b H H4) (BoxAt H4 b (n + 2 + i)) : Prop)
def QQ (b : _) (t : _) (r2 : _) (num : _) (H4 : _) := fun (i : Nat) (σ : St) (H5 : Hp) => (Ex3 fun (v4 v6 : Option V) (y : Str) => An5 (σ = [some (.ref b),some (.ref t),some (.int (1 + r2)),some (.int num),v4,some (.str y),v6]) (1 <= y.length) (y.length <= 8) (jJ y) (H5 = H4) : Prop)
theorem VZ {f : Addr} {fd : FuncData} (F : Fun K "_law_name" "_law_name" (zj 17) f fd) (B : Blt mg) (D_take : Dfn P w K mg base "_law_take" 1 ["_law_box_here", "_law_size"] qM) (D_spelled : Dfn P w K mg base "_law_spelled" 1 ["_law_number", "_law_size"] wV) : FnOk P w K mg base CX0 2 f fd ["_law_box_here", "_law_taken"] Jp := by
  have nd := Vo.nd
  refine F.ok Vo (fun vs H Q E h => ?_) (fun cdv A outer s H vs Q E hr h => ?_)
  · obtain ⟨b,t,n,ts,rfl,_⟩ := h
    rfl
  · obtain ⟨b,t,n,ts,rfl,B0,hn,ntb,ht,htl,k⟩ := h
    have e62 : (2 : Int) ^ 62 = 4611686018427387904 := by decide
    refine ⟨_,(zf (zt (i := 2) nd rfl (Or.inl rfl) (zp zI ze (zg D_take (hr.mono (by first | decide | exact Nat.le_refl _ | omega)) rfl (za (pv 0) (za (zr zJ (zA (za ze (za ze (za ze (za ze zc))))) (zg D_take (hr.mono (by first | decide | exact Nat.le_refl _ | omega)) rfl (za (pv 0) (za ze zc))) (fun _ _ => rfl)) zc)))))
      (zf (zt (i := 3) nd rfl (Or.inl rfl) ze)
      (zf (qy PassesOwn.never rfl (zV rfl B.range (za (pv 2) zc)) (zF (i := 4) nd rfl (Or.inl rfl))
      (zk (zt (i := 3) nd rfl (Or.inl rfl) (zp zI (zp je (pv 3) ze) (zg D_take (hr.mono (by first | decide | exact Nat.le_refl _ | omega)) rfl (za (pv 0) (za ze zc)))))))
      (zf (zt (i := 5) nd rfl (Or.inl rfl) (zg D_spelled (hr.mono (by first | decide | exact Nat.le_refl _ | omega)) rfl (za (pv 3) (za (pv 2) zc))))
      (zf (qy PassesOwn.never rfl (zV rfl B.range (za (zp zI (zo zC rfl B.len boot_len (za (pv 1) zc)) ze) zc)) (zF (i := 6) nd rfl (Or.inl rfl))
      (zk (qJ (zG wC (pv 5) (pv 1) (by with_unfolding_all rfl))
        (zk (zt (i := 5) nd rfl (Or.inl rfl) (zg D_spelled (hr.mono (by first | decide | exact Nat.le_refl _ | omega)) rfl (za (zp zI (pv 3) (pv 6)) (za ze zc)))))
        qk)))
      (zk (zx (pv 5)))))))),?_⟩
    refine ⟨_,rfl,le4,fun l hl => ⟨_,rfl,b,4,n,rfl,B0.new hl,by omega,by decide,by decide,fun r H1 r0 r1 B1 S1 => ?_⟩⟩
    have L1 := S1 l _ (zd (H := H)) ((B0.new hl).ne (zd (H := H) (o := .lst [.int 3,.int 3,.int 3,.int 8])) (by intro x y z e;cases e))
    have S1' := ((SameB.refl b H).new (o := .lst [.int 3,.int 3,.int 3,.int 8]) hl).trans S1
    obtain ⟨z,ez,z0,z1⟩ := VR r0 r1
    refine ⟨l,_,_,_,rfl,rfl,SqL.of L1,ez,b,z,n + 1,rfl,B1,by omega,by omega,by omega,fun r2 H2 a0 a1 B2 S2 => ⟨_,_,rfl,rfl,?_⟩⟩
    have S2' := S1'.trans S2
    refine ⟨_,rfl,_,rfl,(by rw [e62];omega),(by rw [e62];omega),?_⟩
    refine qq (QR b t r2 H n) ⟨0,_,rfl,by decide,S2',B2.mono (by omega)⟩ ?_ ?_
    · rintro i σ H4 hi ⟨num,v4,rfl,m0,S4,B4⟩
      refine ⟨_,rfl,_,_,rfl,rfl,.inr ⟨by decide,by decide⟩,_,rfl,b,26,_,rfl,B4,by omega,by decide,by decide,fun r3 H5 c0 c1 B5 S5 => ⟨_,_,rfl,rfl,_,_,rfl,?_,S4.trans S5,B5.mono (by omega)⟩⟩
      omega
    · rintro σ H4 ⟨num,v4,rfl,m0,S4,B4⟩
      refine ⟨_,rfl,_,rfl,num,1 + r2,rfl,m0,by omega,by omega,fun y ly al => ?_⟩
      have ht4 := S4 t _ ht ntb
      have el : (ts.map V.str).length = ts.length := List.length_map ..
      refine ⟨_,rfl,t,_,rfl,.inl (SqL.of ht4),_,_,rfl,rfl,_,rfl,(by rw [e62,el];omega),(by rw [e62,el];omega),?_⟩
      refine qq (QQ b t r2 num H4) ⟨_,_,y,rfl,by omega,by omega,al,rfl⟩ ?_ ?_
      · rintro i σ H5 hi ⟨v4,v6,y,rfl,y0,y1,al,rfl⟩
        refine ⟨_,rfl,_,rfl,t,_,rfl,.inl (SqL.of ht4),rfl,wj ts,_,rfl,qw (fun c => ?_) (fun c => ⟨_,_,y,rfl,y0,y1,al,rfl⟩)⟩
        exact ⟨_,rfl,_,rfl,_,_,rfl,rfl,_,8,rfl,by omega,by decide,by decide,fun y' ly' al' => ⟨_,_,y',rfl,by omega,by omega,al',rfl⟩⟩
      · rintro σ H5 ⟨v4,v6,y,rfl,y0,y1,al,rfl⟩
        exact ⟨_,rfl,k y _ S4 (B4.mono (by omega)) y0 y1 al⟩
def Row (H : Hp) (l : Addr) (ns : List Str) : Prop := H l = some (.lst (ns.map V.str)) /\ ∀ x ∈ ns,Nm x
theorem Row.same {H H' : Hp} {l : Addr} {ns : List Str} (r : Row H l ns) (s : Same H H') : Row H' l ns := ⟨s _ _ r.1,r.2⟩
theorem Row.draw {H H' : Hp} {b l : Addr} {ns : List Str} (r : Row H l ns) (s : SameB b H H') (h : l ≠ b) : Row H' l ns := ⟨s _ _ r.1 h,r.2⟩
inductive wv (vs : List V) (H : Hp) (Q : VK) : Prop
  | mk (b : Addr) (m n : Int) (_ : vs = [.ref b,.int m]) (_ : BoxAt H b n) (_ : n < 1000000) (_ : 0 <= m) (_ : m <= 12) (_ : ∀ (l : Addr) (ns : List Str) H',SameB b H H' -> BoxAt H' b (n + 150) -> l ≠ b -> H l = none -> Row H' l ns -> (ns.length : Int) = m -> Q (.ref l) H') : wv  vs H Q
def wY : Sp := fun vs H Q _ => wv  vs H Q
theorem ZZ : zy ["_law_box_here", "_law_many", "_law_found", "_law_k"] ["_law_box_here", "_law_many"] (zi (zj 18)) := ⟨rfl,rfl,rfl,by decide +kernel,rfl,by decide +kernel,by decide +kernel⟩
def QP (b : _) (m : _) (l : _) (H : _) (n : _) := fun (i : Nat) (σ : St) (H4 : Hp) => (Ex2 fun (ns : List Str) (v3 : Option V) => An5 (σ = [some (.ref b),some (.int m),some (.ref l),v3]) (SameB b H H4) (BoxAt H4 b (n + 12 * i)) (Row H4 l ns) (ns.length = i) : Prop)
theorem J3 {f : Addr} {fd : FuncData} (F : Fun K "_law_names" "_law_names" (zj 18) f fd) (B : Blt mg) (D_name : Dfn P w K mg base "_law_name" 2 ["_law_box_here", "_law_taken"] Jp) : FnOk P w K mg base CX0 3 f fd ["_law_box_here", "_law_many"] wY := by
  have nd := ZZ.nd
  refine F.ok ZZ (fun vs H Q E h => ?_) (fun cdv A outer s H vs Q E hr h => ?_)
  · obtain ⟨b,m,n,rfl,_⟩ := h
    rfl
  · obtain ⟨b,m,n,rfl,B0,hn,m0,m1,k⟩ := h
    have hbig : 100000 < sizeLine := by rw [sizeLine_eq];decide
    have e62 : (2 : Int) ^ 62 = 4611686018427387904 := by decide
    refine ⟨_,(zf (zt (i := 2) nd rfl (Or.inl rfl) (zA zc))
      (zf (qy PassesOwn.never rfl (zV rfl B.range (za (pv 1) zc)) (zF (i := 3) nd rfl (Or.inl rfl))
      (zk (qx (jn PySem.F.plainAttrs_list PySem.F.slot_list_append PySem.F.type_list_append qA (pv 2) (za (zg D_name (hr.mono (by first | decide | exact Nat.le_refl _ | omega)) rfl (za (pv 0) (za (pv 2) zc))) zc)))))
      (zk (zx (pv 2))))),?_⟩
    refine ⟨le0,fun l hl => ?_⟩
    have nl := B0.nne hl
    refine ⟨_,rfl,_,rfl,(by rw [e62];omega),(by rw [e62];omega),?_⟩
    refine qq (QP b m l H n) ⟨[],_,rfl,(SameB.refl b H).new hl,(B0.new hl).mono (by omega),⟨zd,fun x h => nomatch h⟩,rfl⟩ ?_ ?_
    · rintro i σ H4 hi ⟨ns,v3,rfl,S4,B4,R4,nsl⟩
      refine ⟨_,rfl,.inl ⟨rfl,_,SqL.of R4.1⟩,_,rfl,_,rfl,b,l,_,ns,rfl,B4,by omega,nl,R4.1,by omega,fun y H5 S5 B5 y0 y1 al => ⟨l,_,_,rfl,rfl,(R4.draw S5 nl).1,by rw [List.length_map,nsl];omega,?_⟩⟩
      refine ⟨ns ++ [y],_,rfl,(S4.trans S5).put hl,(B5.other nl).mono (by omega),⟨by rw [zd,List.map_append];rfl,fun x hx => ?_⟩,by rw [List.length_append,nsl];rfl⟩
      rcases List.mem_append.mp hx with q | q
      · exact R4.2 x q
      · rw [List.mem_singleton.mp q];exact WJ y1 al
    · rintro σ H4 ⟨ns,v3,rfl,S4,B4,R4,nsl⟩
      exact ⟨_,rfl,k l ns H4 S4 (B4.mono (by omega)) nl hl R4 (by omega)⟩
end
end L2
set_option Elab.async false
set_option linter.all false
set_option maxRecDepth 100000
set_option maxHeartbeats 4000000
namespace L2
open PySem PySem.Spec PyProof.Rows
section
variable {P : Program} {w : World} {K : PySem.W.Frag} {mg : Str -> Option Value} {base : Heap}
def PlA (H : Hp) (a : Addr) : Prop := ∃ x y : Int,H a = some (.tup [.int x,.int y]) /\ 0 <= x /\ x <= 1000 /\ 0 <= y /\ y <= 1000
theorem PlA.draw {H H' : Hp} {a b : Addr} {n : Int} (h : PlA H a) (B : BoxAt H b n) (s : SameB b H H') : PlA H' a := by
  obtain ⟨x,y,e,r⟩ := h
  obtain ⟨b0,b1,b2,eb,_⟩ := B
  exact ⟨x,y,s a _ e (Xb e eb (by intro z;cases z)),r⟩
inductive wt (K : PySem.W.Frag) (vs : List V) (H : Hp) (Q : VK) : Prop
  | mk (b t : Addr) (n : Int) (as : List Addr) (_ : vs = [.ref b,.ref t]) (_ : BoxAt H b n) (_ : n < 1099511627000) (_ : t ≠ b) (_ : H t = some (.lst (as.map V.ref))) (_ : as.length <= 1000) (_ : (∀ a ∈ as,PlA H a)) (_ : ∀ (p : Addr) H',SameB b H H' -> BoxAt H' b (n + 3) -> H p = none -> PlA H' p -> Q (.ref p) H') : wt K vs H Q
def xB (K : PySem.W.Frag) : Sp := fun vs H Q _ => wt K vs H Q
theorem ZX : zy ["_law_box_here", "_law_taken", "_law_most", "_law_x", "_law_y", "_law_turn"] ["_law_box_here", "_law_taken"] (zi (zj 19)) := ⟨rfl,rfl,rfl,by decide +kernel,rfl,by decide +kernel,by decide +kernel⟩
def QO (b : _) (t : _) (y : _) (H : _) (n : _) := fun (i : Nat) (σ : St) (H4 : Hp) => (Ex3 fun (v2 v5 : Option V) (x : Int) => An5 (σ = [some (.ref b),some (.ref t),v2,some (.int x),some (.int y),v5]) (0 <= x) (x <= 1000) (SameB b H H4) (BoxAt H4 b (n + 1 + 1 + 1)) : Prop)
theorem JY {f : Addr} {fd : FuncData} (F : Fun K "_law_place" "_law_place" (zj 19) f fd) (B : Blt mg) (D_take : Dfn P w K mg base "_law_take" 1 ["_law_box_here", "_law_size"] qM) : FnOk P w K mg base CX0 2 f fd ["_law_box_here", "_law_taken"] (xB K) := by
  have nd := ZX.nd
  refine F.ok ZX (fun vs H Q E h => ?_) (fun cdv A outer s H vs Q E hr h => ?_)
  · obtain ⟨b,t,n,as,rfl,_⟩ := h
    rfl
  · obtain ⟨b,t,n,as,rfl,B0,hn,ntb,ht,hal,pa,k⟩ := h
    have hu64 := hr.units
    have e62 : (2 : Int) ^ 62 = 4611686018427387904 := by decide
    have el : (as.map V.ref).length = as.length := List.length_map ..
    refine ⟨_,(zf (zt (i := 2) nd rfl (Or.inl rfl) (qN (zG qB (zg D_take (hr.mono (by first | decide | exact Nat.le_refl _ | omega)) rfl (za (pv 0) (za ze zc))) ze (zE _)) ze ze))
      (zf (xr (i := 3) (j := 4) rfl nd rfl rfl (by decide) rfl rfl (za (zg D_take (hr.mono (by first | decide | exact Nat.le_refl _ | omega)) rfl (za (pv 0) (za (pv 2) zc))) (za (zg D_take (hr.mono (by first | decide | exact Nat.le_refl _ | omega)) rfl (za (pv 0) (za (pv 2) zc))) zc)) (by rfl))
      (zf (qy PassesOwn.never rfl (zV rfl B.range (za (zp zI (zo zC rfl B.len boot_len (za (pv 1) zc)) ze) zc)) (zF (i := 5) nd rfl (Or.inl rfl))
      (zk (qJ (zG (XS hu64) (zQ (za (pv 3) (za (pv 4) zc))) (pv 1) (by with_unfolding_all rfl))
        (zk (zt (i := 3) nd rfl (Or.inl rfl) (zp ja (zp zI (pv 3) ze) ze)))
        qk)))
      (zk (zx (zQ (za (pv 3) (za (pv 4) zc)))))))),?_⟩
    refine ⟨_,rfl,b,4,n,rfl,B0,by omega,by decide,by decide,fun r H1 r0 r1 B1 S1 => ⟨rfl,_,rfl,qw (fun c => ?_) (fun c => ?_)⟩⟩
    all_goals
      refine ⟨_,rfl,_,rfl,b,_,n + 1,rfl,B1,by omega,by decide,by decide,fun x H2 x0 x1 B2 S2 => ⟨_,rfl,_,rfl,b,_,n + 1 + 1,rfl,B2,by omega,by decide,by decide,fun y H3 y0 y1 B3 S3 => ⟨_,_,rfl,?_⟩⟩⟩
      have S4 := S1.trans (S2.trans S3)
      have ht3 := S4 t _ ht ntb
      refine ⟨_,rfl,t,_,rfl,.inl (SqL.of ht3),_,_,rfl,rfl,_,rfl,(by rw [e62,el];omega),(by rw [e62,el];omega),?_⟩
      refine qq (QO b t y H n) ⟨_,none,x,rfl,x0,by omega,S4,B3⟩ ?_ ?_
      · rintro i σ H4 _ ⟨v2,v5,x,rfl,x0',x1',S5,B5⟩
        refine ⟨_,rfl,_,rfl,le2,fun p hp => ⟨_,rfl,p,t,_,_,rfl,rfl,SqT.of zd,rfl,SqL.of ((S5.new hp) t _ ht ntb),fun v hv => ?_,fun q => ⟨_,rfl,qw (fun d => ?_) (fun d => ?_)⟩⟩⟩
        · obtain ⟨c,hc,rfl⟩ := List.mem_map.mp hv
          obtain ⟨cx,cy,hcc,_⟩ := (pa c hc).draw B0 (S5.new (o := .tup [.int x,.int y]) hp)
          exact ⟨c,_,rfl,SqT.of hcc,rfl⟩
        · exact ⟨_,rfl,_,_,rfl,rfl,_,_,rfl,rfl,(by show (0 : Int) < 1001;decide),_,_,_,rfl,Int.emod_nonneg _ (by decide),by have := Int.emod_lt_of_pos (x + 1) (by decide : (0 : Int) < 1001);omega,S5.new hp,B5.new hp⟩
        · exact ⟨_,_,x,rfl,x0',x1',S5.new hp,B5.new hp⟩
      · rintro σ H4 ⟨v2,v5,x,rfl,x0',x1',S5,B5⟩
        have B6 : BoxAt H4 b (n + 3) := by
          have e : n + 3 = n + 1 + 1 + 1 := by omega
          rw [e];exact B5
        exact ⟨_,rfl,_,rfl,le2,fun p hp => k p _ (S5.new hp) (B6.new hp) (S5.none hp (B5.nne hp)) ⟨x,y,zd,x0',x1',y0,by omega⟩⟩
inductive vC (vs : List V) (H : Hp) (Q : VK) : Prop
  | mk (b : Addr) (m n : Int) (_ : vs = [.ref b,.int m]) (_ : BoxAt H b n) (_ : n < 1000000) (_ : 0 <= m) (_ : m <= 100) (_ : ∀ (l : Addr) (as : List Addr) H',SameB b H H' -> BoxAt H' b (n + 400) -> l ≠ b -> H l = none -> H' l = some (.lst (as.map V.ref)) -> (∀ a ∈ as,PlA H' a) -> (as.length : Int) = m -> Q (.ref l) H') : vC  vs H Q
def vD : Sp := fun vs H Q _ => vC  vs H Q
theorem yI : zy ["_law_box_here", "_law_many", "_law_found", "_law_k"] ["_law_box_here", "_law_many"] (zi (zj 20)) := ⟨rfl,rfl,rfl,by decide +kernel,rfl,by decide +kernel,by decide +kernel⟩
def QN (b : _) (m : _) (l : _) (H : _) (n : _) := fun (i : Nat) (σ : St) (H4 : Hp) => (Ex2 fun (as : List Addr) (v3 : Option V) => An6 (σ = [some (.ref b),some (.int m),some (.ref l),v3]) (SameB b H H4) (BoxAt H4 b (n + 3 * i)) (H4 l = some (.lst (as.map V.ref))) ((∀ a ∈ as,PlA H4 a)) (as.length = i) : Prop)
theorem Q3 {f : Addr} {fd : FuncData} (F : Fun K "_law_places" "_law_places" (zj 20) f fd) (B : Blt mg) (D_place : Dfn P w K mg base "_law_place" 2 ["_law_box_here", "_law_taken"] (xB K)) : FnOk P w K mg base CX0 3 f fd ["_law_box_here", "_law_many"] vD := by
  have nd := yI.nd
  refine F.ok yI (fun vs H Q E h => ?_) (fun cdv A outer s H vs Q E hr h => ?_)
  · obtain ⟨b,m,n,rfl,_⟩ := h
    rfl
  · obtain ⟨b,m,n,rfl,B0,hn,m0,m1,k⟩ := h
    have hbig : 100000 < sizeLine := by rw [sizeLine_eq];decide
    have e62 : (2 : Int) ^ 62 = 4611686018427387904 := by decide
    refine ⟨_,(zf (zt (i := 2) nd rfl (Or.inl rfl) (zA zc))
      (zf (qy PassesOwn.never rfl (zV rfl B.range (za (pv 1) zc)) (zF (i := 3) nd rfl (Or.inl rfl))
      (zk (qx (jn PySem.F.plainAttrs_list PySem.F.slot_list_append PySem.F.type_list_append qA (pv 2) (za (zg D_place (hr.mono (by first | decide | exact Nat.le_refl _ | omega)) rfl (za (pv 0) (za (pv 2) zc))) zc)))))
      (zk (zx (pv 2))))),?_⟩
    refine ⟨le0,fun l hl => ?_⟩
    have nl := B0.nne hl
    refine ⟨_,rfl,_,rfl,(by rw [e62];omega),(by rw [e62];omega),?_⟩
    refine qq (QN b m l H n) ⟨[],_,rfl,(SameB.refl b H).new hl,(B0.new hl).mono (by omega),zd,(fun x h => nomatch h),rfl⟩ ?_ ?_
    · rintro i σ H4 hi ⟨as,v3,rfl,S4,B4,L4,P4,asl⟩
      refine ⟨_,rfl,.inl ⟨rfl,_,SqL.of L4⟩,_,rfl,_,rfl,b,l,_,as,rfl,B4,by omega,nl,L4,by omega,P4,fun p H5 S5 B5 pN pp => ⟨l,_,_,rfl,rfl,S5 l _ L4 nl,by rw [List.length_map,asl];omega,?_⟩⟩
      have L5 := S5 l _ L4 nl
      have keep : ∀ {a : Addr},PlA H5 a -> PlA (upd H5 l (.lst (as.map V.ref ++ [.ref p]))) a := fun {a} h => by
        obtain ⟨x,y,e,r⟩ := h
        exact ⟨x,y,by rw [zq (Xb e L5 (by intro z;cases z))];exact e,r⟩
      refine ⟨as ++ [p],_,rfl,(S4.trans S5).put hl,(B5.other nl).mono (by omega),by rw [zd,List.map_append];rfl,fun a ha => ?_,by rw [List.length_append,asl];rfl⟩
      rcases List.mem_append.mp ha with q | q
      · exact keep ((P4 a q).draw B4 S5)
      · rw [List.mem_singleton.mp q];exact keep pp
    · rintro σ H4 ⟨as,v3,rfl,S4,B4,L4,P4,asl⟩
      exact ⟨_,rfl,k l as H4 S4 (B4.mono (by omega)) nl hl L4 P4 (by omega)⟩
inductive yy (K : PySem.W.Frag) (vs : List V) (H : Hp) (Q : VK) : Prop
  | mk (b a : Addr) (n : Int) (xs : List V) (_ : vs = [.ref b,.ref a]) (_ : BoxAt H b n) (_ : n < 1000000) (_ : a ≠ b) (_ : H a = some (.lst xs)) (_ : xs.length <= 1000) (_ : ∀ (l : Addr) (ys : List V) H',SameB b H H' -> BoxAt H' b (n + xs.length) -> l ≠ b -> H l = none -> H' l = some (.lst ys) -> ys.Perm xs -> Q (.ref l) H') : yy K vs H Q
def vB (K : PySem.W.Frag) : Sp := fun vs H Q _ => yy K vs H Q
theorem Jw : zy ["_law_box_here", "_law_some", "_law_found", "_law_one"] ["_law_box_here", "_law_some"] (zi (zj 21)) := ⟨rfl,rfl,rfl,by decide +kernel,rfl,by decide +kernel,by decide +kernel⟩
def QM (b : _) (a : _) (l : _) (H : _) (n : _) (xs : List V) := fun (i : Nat) (σ : St) (H4 : Hp) => (Ex2 fun (ys : List V) (v3 : Option V) => An6 (σ = [some (.ref b),some (.ref a),some (.ref l),v3]) (SameB b H H4) (BoxAt H4 b (n + i)) (H4 a = some (.lst xs)) (H4 l = some (.lst ys)) (ys.Perm (xs.take i)) : Prop)
theorem XW {f : Addr} {fd : FuncData} (F : Fun K "_law_shuffled" "_law_shuffled" (zj 21) f fd) (B : Blt mg) (D_take : Dfn P w K mg base "_law_take" 1 ["_law_box_here", "_law_size"] qM) : FnOk P w K mg base CX0 2 f fd ["_law_box_here", "_law_some"] (vB K) := by
  have nd := Jw.nd
  refine F.ok Jw (fun vs H Q E h => ?_) (fun cdv A outer s H vs Q E hr h => ?_)
  · obtain ⟨b,a,n,xs,rfl,_⟩ := h
    rfl
  · obtain ⟨b,a,n,xs,rfl,B0,hn,nab,ha,hxl,k⟩ := h
    have hbig : 100000 < sizeLine := by rw [sizeLine_eq];decide
    have e62 : (2 : Int) ^ 62 = 4611686018427387904 := by decide
    refine ⟨_,(zf (zt (i := 2) nd rfl (Or.inl rfl) (zA zc))
      (zf (qy PassesOwn.never rfl (qV (pv 1)) (zF (i := 3) nd rfl (Or.inl rfl))
      (zk (qx (jn PySem.F.plainAttrs_list PySem.F.slot_list_insert PySem.F.type_list_insert wF (pv 2) (za (zg D_take (hr.mono (by first | decide | exact Nat.le_refl _ | omega)) rfl (za (pv 0) (za (zp zI (zo zC rfl B.len boot_len (za (pv 2) zc)) ze) zc))) (za (pv 3) zc))))))
      (zk (zx (pv 2))))),?_⟩
    refine ⟨le0,fun l hl => ?_⟩
    have nl := B0.nne hl
    have nal : a ≠ l := zn ha hl
    refine ⟨_,rfl,a,rfl,⟨_,SqL.of ((zb hl) _ _ ha)⟩,xJ (K := K) (a := a) (xs := xs) (QM b a l H n xs)
      ⟨[],_,rfl,(SameB.refl b H).new hl,(B0.new hl).mono (by omega),(zb hl) _ _ ha,zd,.nil⟩ (fun i σ H4 _ ⟨_,_,_,_,_,h,_,_⟩ => SqL.of h) ?_ ?_⟩
    · rintro i x σ H4 hx ⟨ys,v3,rfl,S4,B4,A4,L4,pm⟩
      have hi := (List.getElem?_eq_some_iff.mp hx).1
      have yl : ys.length = i := by rw [pm.length_eq,List.length_take];omega
      refine ⟨_,rfl,.inl ⟨rfl,_,SqL.of L4⟩,_,rfl,_,rfl,l,_,rfl,.inl (SqL.of L4),_,_,rfl,rfl,b,_,_,rfl,B4,by omega,by omega,by omega,fun q H5 q0 q1 B5 S5 => ⟨_,rfl,?_⟩⟩
      refine ⟨l,ys,q,x,rfl,rfl,S5 l _ L4 nl,q0,by rw [e62];omega,by omega,?_⟩
      refine ⟨_,_,rfl,(S4.trans S5).put hl,(B5.other nl).mono (by omega),by rw [zq nal];exact S5 a _ A4 nab,zd,?_⟩
      have e1 : xs.take (i + 1) = xs.take i ++ [x] := by
        obtain ⟨h1,h2⟩ := List.getElem?_eq_some_iff.mp hx
        rw [<- h2,List.take_append_getElem]
      rw [e1]
      refine List.perm_middle.trans ?_
      rw [List.take_append_drop]
      exact ((List.Perm.cons x pm).trans (List.perm_append_singleton x _).symm)
    · rintro σ H4 ⟨ys,v3,rfl,S4,B4,A4,L4,pm⟩
      rw [List.take_length] at pm
      exact ⟨_,rfl,k l ys H4 S4 B4 nl hl L4 pm⟩
end
end L2
set_option Elab.async false
set_option linter.all false
set_option maxRecDepth 100000
set_option maxHeartbeats 4000000
namespace L2
open PySem PySem.Spec PyProof.Rows
def SameT (H H' : Hp) : Prop := ∀ a u,H a = some u -> (∀ xs,u ≠ .lst xs) -> H' a = some u
theorem SameT.refl (H : Hp) : SameT H H := fun _ _ e _ => e
theorem SameT.trans {H H1 H2 : Hp} (a : SameT H H1) (b : SameT H1 H2) : SameT H H2 := fun c u e h => b c u (a c u e h) h
theorem SameT.of {H H' : Hp} (s : Same H H') : SameT H H' := fun a u e _ => s a u e
theorem SameT.draw {H H' : Hp} {b : Addr} {n : Int} (B : BoxAt H b n) (s : SameB b H H') : SameT H H' := fun a u e h => by
  obtain ⟨b0,b1,b2,eb,_⟩ := B
  exact s a u e (fun z => by rw [z,eb] at e;cases e;exact h _ rfl)
theorem SameT.put {H : Hp} {l : Addr} {xs ys : List V} (h : H l = some (.lst xs)) : SameT H (upd H l (.lst ys)) := fun a u e hu => by
  rw [zq (fun z => by rw [z,h] at e;cases e;exact hu _ rfl)];exact e
mutual
def Dat.imm : Dat -> Bool
  | .lst _ => false
  | .tup ds => Dat.imms ds
  | _ => true
def Dat.imms : List Dat -> Bool
  | [] => true
  | d :: ds => d.imm && Dat.imms ds
end
section
variable {P : Program} {w : World} {K : PySem.W.Frag} {mg : Str -> Option Value} {base : Heap}
theorem SqT.keep {H H' : Hp} {a : Addr} {xs : List V} (q : SqT K H a xs) (s : SameT H H') : SqT K H' a xs := by
  rcases q with (q | ⟨o,q⟩) | q
  · exact .inl (.inl (s a _ q (fun z h => nomatch h)))
  · exact .inl (.inr ⟨o,s a _ q (fun z h => nomatch h)⟩)
  · exact .inr q
mutual
theorem Rep.keep {H H' : Hp} (s : SameT H H') : ∀ {d : Dat} {v : V},d.imm = true -> Rep K H d v -> Rep K H' d v
  | .non,_,_,h => h
  | .bl _,_,_,h => h
  | .int _,_,_,h => h
  | .str _,_,_,h => h
  | .lst _,_,i,_ => by cases i
  | .tup ds,_,i,h => by
    obtain ⟨a,xs,e,q,r⟩ := h
    exact ⟨a,xs,e,q.keep s,Reps.keep s (ds := ds) i r⟩
theorem Reps.keep {H H' : Hp} (s : SameT H H') : ∀ {ds : List Dat} {xs : List V},Dat.imms ds = true -> Reps K H ds xs -> Reps K H' ds xs
  | [],_,_,h => h
  | d :: ds,_,i,h => by
    obtain ⟨x,r,e,h1,h2⟩ := h
    have i' : (d.imm && Dat.imms ds) = true := i
    rw [Bool.and_eq_true] at i'
    exact ⟨x,r,e,Rep.keep s i'.1 h1,Reps.keep s i'.2 h2⟩
end
theorem Reps.snoc {H : Hp} {d : Dat} {v : V} (h : Rep K H d v) : ∀ {ds : List Dat} {xs : List V},Reps K H ds xs -> Reps K H (ds ++ [d]) (xs ++ [v])
  | [],_,e => by rw [show _ = _ from e];exact ⟨v,[],rfl,h,rfl⟩
  | _ :: _,_,e => by
    obtain ⟨x,r,e1,h1,h2⟩ := e
    subst e1
    exact ⟨x,r ++ [v],rfl,h1,Reps.snoc h h2⟩
end
end L2
set_option Elab.async false
set_option linter.all false
set_option maxRecDepth 100000
set_option maxHeartbeats 4000000
namespace L2
open PySem PySem.Spec PyProof.Rows
theorem xD {α β : Type} {f : α -> β} {ys ws : List β} (h : ys.Perm ws) : ∀ {xs : List α},ws = xs.map f -> ∃ zs : List α,zs.Perm xs /\ ys = zs.map f := by
  induction h with
  | nil =>
    intro xs e
    have : xs = [] := by simpa using e.symm
    exact ⟨[],by rw [this],rfl⟩
  | @cons x l1 l2 p ih =>
    intro xs e
    cases xs with
    | nil => simp at e
    | cons a as =>
      rw [List.map_cons] at e
      injection e with e1 e2
      obtain ⟨zs,p1,p2⟩ := ih e2
      exact ⟨a :: zs,p1.cons a,by rw [List.map_cons,<- p2,<- e1]⟩
  | swap x y l =>
    intro xs e
    cases xs with
    | nil => simp at e
    | cons a as =>
      cases as with
      | nil => simp at e
      | cons c cs =>
        rw [List.map_cons,List.map_cons] at e
        injection e with e1 e2
        injection e2 with e2 e3
        exact ⟨c :: a :: cs,.swap a c cs,by rw [List.map_cons,List.map_cons,<- e1,<- e2,<- e3]⟩
  | trans p q ih1 ih2 =>
    intro xs e
    obtain ⟨zs,p1,p2⟩ := ih2 e
    obtain ⟨us,p3,p4⟩ := ih1 p2
    exact ⟨us,p3.trans p1,p4⟩
def qL (p : Nat × Nat) : Dat := .tup [.int p.1,.int p.2]
def vq (as : List (Nat × Nat)) : Dat := .tup (as.map qL)
theorem zT : ∀ (as : List (Nat × Nat)),Dat.imms (as.map qL) = true
  | [] => rfl
  | p :: as => by
    show (Dat.imm (qL p) && Dat.imms (as.map qL)) = true
    rw [zT as];rfl
def ByOrd (ord : List Nat) (as : List (Nat × Nat)) : Prop := ∀ p ∈ as,∃ k l : Nat,k < l /\ ord[k]? = some p.1 /\ ord[l]? = some p.2
section
variable {P : Program} {w : World} {K : PySem.W.Frag} {mg : Str -> Option Value} {base : Heap}
theorem Reps.take {H : Hp} : ∀ (n : Nat) {ds : List Dat} {xs : List V},Reps K H ds xs -> Reps K H (ds.take n) (xs.take n)
  | 0,_,_,_ => rfl
  | n + 1,[],_,h => by rw [show _ = _ from h];exact rfl
  | n + 1,d :: ds,_,h => by
    obtain ⟨x,r,e,h1,h2⟩ := h
    subst e
    exact ⟨x,r.take n,rfl,h1,Reps.take n h2⟩
theorem Reps.app {H : Hp} : ∀ {ds es : List Dat} {xs ys : List V},Reps K H ds xs -> Reps K H es ys -> Reps K H (ds ++ es) (xs ++ ys)
  | [],_,_,_,h,h' => by rw [show _ = _ from h];exact h'
  | d :: ds,_,_,_,h,h' => by
    obtain ⟨x,r,e,h1,h2⟩ := h
    subst e
    exact ⟨x,r ++ _,rfl,h1,Reps.app h2 h'⟩
inductive vG (K : PySem.W.Frag) (vs : List V) (H : Hp) (Q : VK) : Prop
  | mk (b : Addr) (m n : Int) (_ : vs = [.ref b,.int m]) (_ : BoxAt H b n) (_ : n < 1000000) (_ : 0 <= m) (_ : m <= 100) (_ : ∀ (p : Addr) (as : List (Nat × Nat)) (ord : List Nat) H',SameB b H H' -> BoxAt H' b (n + 800) -> Rep K H' (vq as) (.ref p) -> ord.Perm (List.range m.toNat) -> ByOrd ord as -> as.length <= 300 -> Q (.ref p) H') : vG K vs H Q
def vH (K : PySem.W.Frag) : Sp := fun vs H Q _ => vG K vs H Q
theorem yK : zy ["_law_box_here", "_law_many", "_law_order_here", "_law_found", "_law_turn", "_law_k"] ["_law_box_here", "_law_many"] (zi (zj 23)) := ⟨rfl,rfl,rfl,by decide +kernel,rfl,by decide +kernel,by decide +kernel⟩
theorem WD {m r : Int} (h : 0 <= r) (h' : r < 4) (m2 : 2 <= m) (m1 : m <= 100) : ∃ z : Int,atI [V.int 1,V.int 4,V.int 13,V.int (2 * m)] r = some (.int z) /\ 1 <= z /\ z <= 200 := by
  have hc : r = 0 \/ r = 1 \/ r = 2 \/ r = 3 := by omega
  rcases hc with rfl | rfl | rfl | rfl
  · exact ⟨1,rfl,by omega,by omega⟩
  · exact ⟨4,rfl,by omega,by omega⟩
  · exact ⟨13,rfl,by omega,by omega⟩
  · exact ⟨2 * m,rfl,by omega,by omega⟩
theorem JR {ord : List Nat} {i : Int} (h : 0 <= i) (h' : i < ord.length) : ∃ x : Nat,atI (ord.map fun i : Nat => V.int (i : Int)) i = some (.int (x : Int)) /\ ord[i.toNat]? = some x := by
  obtain ⟨v,e1,e2⟩ := xZ (xs := ord.map fun i : Nat => V.int (i : Int)) h (by rw [List.length_map];exact h')
  rw [List.getElem?_map] at e2
  obtain ⟨x,hx,rfl⟩ := Option.map_eq_some_iff.mp e2
  exact ⟨x,e1,hx⟩
def QL (b : _) (m : _) (o : _) (R : _) (H : _) (n : _) (ord : _) (K : _) := fun (i : Nat) (σ : St) (H5 : Hp) => (Ex4 fun (as : List (Nat × Nat)) (xs : List V) (v4 v5 : Option V) => An8 (σ = [some (.ref b),some (.int m),some (.ref o),some (.ref R),v4,v5]) (SameB b H H5) (BoxAt H5 b (n + 110 + 2 * i)) (H5 o = some (.lst (ord.map fun i : Nat => V.int (i : Int)))) (H5 R = some (.lst xs)) (Reps K H5 (as.map qL) xs) (ByOrd ord as) (as.length = i) : Prop)
theorem Q5 {f : Addr} {fd : FuncData} (F : Fun K "_law_aheads" "_law_aheads" (zj 23) f fd) (B : Blt mg) (D_take : Dfn P w K mg base "_law_take" 1 ["_law_box_here", "_law_size"] qM) (D_shuffled : Dfn P w K mg base "_law_shuffled" 2 ["_law_box_here", "_law_some"] (vB K)) : FnOk P w K mg base CX0 3 f fd ["_law_box_here", "_law_many"] (vH K) := by
  have nd := yK.nd
  refine F.ok yK (fun vs H Q E h => ?_) (fun cdv A outer s H vs Q E hr h => ?_)
  · obtain ⟨b,m,n,rfl,_⟩ := h
    rfl
  · obtain ⟨b,m,n,rfl,B0,hn,m0,m1,k⟩ := h
    have hbig : 100000 < sizeLine := by rw [sizeLine_eq];decide
    have e62 : (2 : Int) ^ 62 = 4611686018427387904 := by decide
    refine ⟨_,(zf (xr (i := 2) (j := 3) rfl nd rfl rfl (by decide) rfl rfl (za (zg D_shuffled (hr.mono (by first | decide | exact Nat.le_refl _ | omega)) rfl (za (pv 0) (za (xE rfl rfl B.list rfl B.range zU (za (pv 1) zc)) zc))) (za (zA zc) zc)) (by rfl))
      (zf (qJ (zG Z8 (pv 1) ze (zE _))
      (zk (zx (zQ zc)))
      qk)
      (zf (qy PassesOwn.never rfl (zV rfl B.range (za (zg D_take (hr.mono (by first | decide | exact Nat.le_refl _ | omega)) rfl (za (pv 0) (za (zr zJ (zA (za ze (za ze (za ze (za (zp je ze (pv 1)) zc))))) (zg D_take (hr.mono (by first | decide | exact Nat.le_refl _ | omega)) rfl (za (pv 0) (za ze zc))) (fun _ _ => rfl)) zc))) zc)) (zF (i := 4) nd rfl (Or.inl rfl))
      (zf (zt (i := 5) nd rfl (Or.inl rfl) (zg D_take (hr.mono (by first | decide | exact Nat.le_refl _ | omega)) rfl (za (pv 0) (za (zp qz (pv 1) ze) zc))))
        (zk (qx (jn PySem.F.plainAttrs_list PySem.F.slot_list_append PySem.F.type_list_append qA (pv 3) (za (zQ (za (zr zJ (pv 2) (pv 5) (fun _ _ => rfl)) (za (zr zJ (pv 2) (zp zI (zp zI (pv 5) ze) (zg D_take (hr.mono (by first | decide | exact Nat.le_refl _ | omega)) rfl (za (pv 0) (za (zp qz (zp qz (pv 1) ze) (pv 5)) zc)))) (fun _ _ => rfl)) zc))) zc))))))
      (zk (zx (zM zY rfl B.tuple zX (za (zp qP (pv 3) (qh qC (pv 3) qS (qe (zM jB rfl B.int jd (za (qm qB (zg D_take (hr.mono (by first | decide | exact Nat.le_refl _ | omega)) rfl (za (pv 0) (za ze zc))) ze (zE _)) zc))))) zc))))))),?_⟩
    refine ⟨_,rfl,_,rfl,m,rfl,m0,by omega,fun l0 h0 => ?_⟩
    have len0 : ((List.range m.toNat).map fun i : Nat => V.int (i : Int)).length = m.toNat := by rw [List.length_map,List.length_range]
    refine ⟨b,l0,n,_,rfl,B0.new h0,by omega,B0.nne h0,zd,by rw [len0];omega,fun o ys H1 S1 B1 no oN ho pm => ⟨le0,fun R hR => ⟨_,_,rfl,?_⟩⟩⟩
    obtain ⟨ord,op,rfl⟩ := xD pm rfl
    have ol : ord.length = m.toNat := by rw [op.length_eq,List.length_range]
    rw [len0] at B1
    have nR := B1.nne hR
    have oR : o ≠ R := zn ho hR
    have S1' := ((SameB.refl b H).new h0).trans S1
    have RH : H R = none := S1'.none hR nR
    have S2 := S1'.new (o := .lst []) hR
    have B2 := B1.new (o := .lst []) hR
    have O2 := (zb (o := .lst []) hR) _ _ ho
    have R2 : upd H1 R (.lst []) R = some (.lst []) := zd
    generalize upd H1 R (.lst []) = H2 at S2 B2 O2 R2
    refine ⟨_,rfl,_,_,rfl,rfl,_,rfl,qw (fun c => ?_) (fun c => ?_)⟩
    · exact ⟨le0,fun p hp => k p [] ord _ (S2.new hp) ((B2.new hp).mono (by omega)) ⟨p,[],rfl,SqT.of zd,rfl⟩ op (fun p h => nomatch h) (Nat.zero_le _)⟩
    have m2 : 2 <= m := by
      have : ¬ m < 2 := fun z => c (decide_eq_true z)
      omega
    refine ⟨_,rfl,_,rfl,_,_,rfl,rfl,.inl ⟨by decide,by decide⟩,le4,fun l1 h1 => ⟨_,rfl,b,4,_,rfl,B2.new h1,by omega,by decide,by decide,fun r H3 r0 r1 B3 S3 => ?_⟩⟩
    have L3 := S3 l1 _ zd (B2.nne h1)
    obtain ⟨z,ez,z0,z1⟩ := WD r0 r1 m2 m1
    refine ⟨l1,_,_,_,rfl,rfl,SqL.of L3,ez,b,z,_,rfl,B3,by omega,by omega,by omega,fun cnt H4 c0 c1 B4 S4 => ⟨_,rfl,(by rw [e62];omega),(by rw [e62];omega),?_⟩⟩
    have U4 := ((SameB.refl b H2).new h1).trans (S3.trans S4)
    have S4' := S2.trans U4
    have O4 := U4 _ _ O2 no
    have R4 := U4 _ _ R2 nR
    clear S2 B2 O2 R2 S3 S4 U4 L3 h1 B3
    refine qq (QL b m o R H n ord K)
      ⟨[],[],_,_,rfl,S4',B4.mono (by omega),O4,R4,rfl,(fun p h => nomatch h),rfl⟩ ?_ ?_
    · rintro i σ H5 hi ⟨as,xs,v4,v5,rfl,S5,B5,O5,R5,rp,bo,asl⟩
      have xl : xs.length = i := by rw [rp.len,List.length_map,asl]
      refine ⟨_,rfl,_,rfl,_,_,rfl,rfl,b,_,_,rfl,B5,by omega,by omega,by omega,fun kk H6 k0 k1 B6 S6 => ?_⟩
      have O6 := S6 _ _ O5 no
      obtain ⟨x1,ex1,ox1⟩ := JR (ord := ord) k0 (by omega)
      refine ⟨_,rfl,.inl ⟨rfl,_,SqL.of (S6 _ _ R5 nR)⟩,_,rfl,_,rfl,o,_,_,_,rfl,rfl,SqL.of O6,ex1,?_⟩
      refine ⟨_,rfl,_,rfl,_,_,rfl,rfl,_,rfl,_,rfl,_,_,rfl,rfl,_,rfl,_,_,rfl,rfl,b,_,_,rfl,B6,by omega,by omega,by omega,fun q H7 q0 q1 B7 S7 => ⟨_,_,rfl,rfl,?_⟩⟩
      have O7 := S7 _ _ O6 no
      have R7 := S7 _ _ (S6 _ _ R5 nR) nR
      obtain ⟨x2,ex2,ox2⟩ := JR (ord := ord) (i := kk + 1 + q) (by omega) (by omega)
      refine ⟨o,_,_,_,rfl,rfl,SqL.of O7,ex2,le2,fun T hT => ⟨R,xs,.ref T,rfl,rfl,(zb hT) _ _ R7,by omega,?_⟩⟩
      have R8 := (zb (o := .tup [.int (x1 : Int),.int (x2 : Int)]) hT) _ _ R7
      have st : SameT H5 (upd (upd H7 T (.tup [.int (x1 : Int),.int (x2 : Int)])) R (.lst (xs ++ [.ref T]))) := ((SameT.draw B5 (S6.trans S7)).trans (.of (zb hT))).trans (.put R8)
      refine ⟨as ++ [(x1,x2)],_,_,_,rfl,(((S5.trans S6).trans S7).new hT).put RH,((B7.new hT).other nR).mono (by omega),by rw [zq oR];exact (zb hT) _ _ O7,zd,?_,fun pq hpq => ?_,by rw [List.length_append,asl];rfl⟩
      · rw [List.map_append]
        refine Reps.snoc ?_ (Reps.keep st (zT as) rp)
        refine ⟨T,_,rfl,SqT.of ?_,_,_,rfl,rfl,_,_,rfl,rfl,rfl⟩
        rw [zq (fun zz => by rw [zz,R7] at hT;cases hT)]
        exact zd
      · rcases List.mem_append.mp hpq with w1 | w1
        · exact bo pq w1
        · rw [List.mem_singleton.mp w1]
          exact ⟨kk.toNat,(kk + 1 + q).toNat,by omega,ox1,ox2⟩
    · rintro σ H5 ⟨as,xs,v4,v5,rfl,S5,B5,O5,R5,rp,bo,asl⟩
      have xl : xs.length = as.length := by rw [rp.len,List.length_map]
      refine ⟨_,rfl,_,rfl,_,rfl,b,4,_,rfl,B5,by omega,by decide,by decide,fun r9 H6 r90 r91 B6 S6 => ⟨rfl,.inr ⟨_,rfl,_,rfl,R,xs,rfl,SqL.of (S6 _ _ R5 nR),fun s1 hs1 => ?_⟩⟩⟩
      have R6 := S6 _ _ R5 nR
      obtain ⟨t,et⟩ : ∃ t : Nat,qb xs none (some (if decide (V.int r9 = V.int 0) = true then (1 : Int) else 0)) = xs.take t /\ t <= 1 := by
        unfold qb
        by_cases hd : decide (V.int r9 = V.int 0) = true
        · rw [if_pos hd,show (some (1 : Int)) = some ((1 : Nat) : Int) from rfl,HT.sIx_nat,HT.sIx_none]
          refine ⟨min 1 xs.length,by simp,by omega⟩
        · rw [if_neg hd,show (some (0 : Int)) = some ((0 : Nat) : Int) from rfl,HT.sIx_nat,HT.sIx_none]
          refine ⟨0,by simp,by omega⟩
      rw [et.1]
      have st : SameT H5 H6 := .draw B5 S6
      have rp6 := Reps.keep st (zT as) rp
      have tl : (xs.take t).length <= 1 := by rw [List.length_take];omega
      refine ⟨R,s1,_,_,rfl,rfl,(zb hs1) _ _ R6,zd,by omega,fun c1 hc1 => ⟨c1,_,rfl,.inl ⟨SqL.of zd,fun p hp => ?_⟩⟩⟩
      have sm := ((zb (o := .lst (xs.take t)) hs1).trans (zb (o := .lst (xs ++ xs.take t)) hc1)).trans (zb (o := .tup (xs ++ xs.take t)) hp)
      refine k p (as ++ as.take t) ord _ ((((S5.trans S6).new hs1).new hc1).new hp) ((((B6.new hs1).new hc1).new hp).mono (by omega)) ⟨p,_,rfl,SqT.of zd,?_⟩ op (fun pq hpq => ?_) (by rw [List.length_append,List.length_take];omega)
      · have rp7 := Reps.keep (SameT.of sm) (zT as) rp6
        have rt := Reps.take t rp7
        rw [<- List.map_take] at rt
        have := Reps.app rp7 rt
        rw [<- List.map_append] at this
        exact this
      · rcases List.mem_append.mp hpq with w1 | w1
        · exact bo pq w1
        · exact bo pq (List.mem_of_mem_take w1)
end
end L2
set_option Elab.async false
set_option linter.all false
set_option maxRecDepth 100000
set_option maxHeartbeats 4000000
namespace L2
open PySem PySem.Spec PyProof.Rows
structure Zh where
  k : Str
  x : Int
  y : Int
structure Je where
  k : Str
  x : Int
  y : Int
  m : Int
def qK (p : Zh) : Dat := .tup [.str p.k,.tup [.int p.x,.int p.y]]
def jg (p : Je) : Dat := .tup [.str p.k,.tup [.int p.x,.int p.y],.int p.m]
theorem jk : ∀ (as : List Je),Dat.imms (as.map jg) = true
  | [] => rfl
  | p :: as => by
    show (Dat.imm (jg p) && Dat.imms (as.map jg)) = true
    rw [jk as];rfl
theorem qG : ∀ (as : List Zh),Dat.imms (as.map qK) = true
  | [] => rfl
  | p :: as => by
    show (Dat.imm (qK p) && Dat.imms (as.map qK)) = true
    rw [qG as];rfl
def inP (x y : Int) : Prop := 0 <= x /\ x <= 1000 /\ 0 <= y /\ y <= 1000
section
variable {P : Program} {w : World} {K : PySem.W.Frag} {mg : Str -> Option Value} {base : Heap}
inductive yG (K : PySem.W.Frag) (vs : List V) (H : Hp) (Q : VK) : Prop
  | mk (b ks ps : Addr) (pl : Bool) (n : Int) (kinds : List Str) (parts : List Zh) (_ : vs = [.ref b,.ref ks,.ref ps,.bl pl]) (_ : BoxAt H b n) (_ : n < 900000) (_ : ks ≠ b) (_ : Row H ks kinds) (_ : 1 <= kinds.length) (_ : kinds.length <= 12) (_ : Rep K H (.tup (parts.map qK)) (.ref ps)) (_ : parts.length <= 100) (_ : ∀ (p : Addr) (fs : List Je) (es : List Str) H',SameB b H H' -> BoxAt H' b (n + 400) -> Rep K H' (.tup (fs.map jg)) (.ref p) -> (fs.map (·.k)).Perm (kinds ++ es) -> (∀ e ∈ es,e ∈ kinds) -> fs.length <= 40 -> (∀ f ∈ fs,Nm f.k /\ inP f.x f.y /\ 0 <= f.m /\ f.m <= 400) -> Q (.ref p) H') : yG K vs H Q
def Zw (K : PySem.W.Frag) : Sp := fun vs H Q _ => yG K vs H Q
theorem JD : zy ["_law_box_here", "_law_kinds", "_law_parts", "_law_plenty", "_law_great_here", "_law_more", "_law_some", "_law_found", "_law_kind", "_law_need", "_law_many"] ["_law_box_here", "_law_kinds", "_law_parts", "_law_plenty"] (zi (zj 22)) := ⟨rfl,rfl,rfl,by decide +kernel,rfl,by decide +kernel,by decide +kernel⟩
theorem Jm {ns : List Str} {i : Int} (h : 0 <= i) (h' : i < ns.length) : ∃ x,atI (ns.map V.str) i = some (.str x) /\ x ∈ ns := by
  obtain ⟨v,e1,e2⟩ := xZ (xs := ns.map V.str) h (by rw [List.length_map];exact h')
  rw [List.getElem?_map] at e2
  obtain ⟨x,hx,rfl⟩ := Option.map_eq_some_iff.mp e2
  exact ⟨x,e1,List.mem_of_getElem? hx⟩
theorem WC {a c r : Int} (h : 0 <= r) (h' : r < 3) (a0 : 0 <= a) (a1 : a <= 400) (c0 : 0 <= c) (c1 : c <= 400) : ∃ z : Int,atI [V.int a,V.int c,V.int 400] r = some (.int z) /\ 0 <= z /\ z <= 400 := by
  have hc : r = 0 \/ r = 1 \/ r = 2 := by omega
  rcases hc with rfl | rfl | rfl
  · exact ⟨a,rfl,a0,a1⟩
  · exact ⟨c,rfl,c0,c1⟩
  · exact ⟨400,rfl,by omega,by omega⟩
def QK (b : _) (ks : _) (ps : _) (pl : _) (r : _) (H : _) (n : _) := fun (σ' : St) (H' : Hp) => (Ex1 fun (more : Int) => An5 (σ' = [some (.ref b),some (.ref ks),some (.ref ps),some (.bl pl),some (.bl (decide (V.int r = V.int 0))),some (.int more),none,none,none,none,none]) (0 <= more) (more <= 20) (SameB b H H') (BoxAt H' b (n + 2)) : Prop)
def QJ (kinds : List Str) (b : _) (H2 : _) (n : _) := fun (j : Nat) (zs : List V) (H3 : Hp) => (Ex1 fun (es : List Str) => An5 (zs = es.map V.str) (es.length = j) ((∀ x ∈ es,x ∈ kinds)) (SameB b H2 H3) (BoxAt H3 b (n + 2 + j)) : Prop)
def QI (b : _) (ks : _) (ps : _) (pl : _) (r : _) (more : _) (R : _) (H : _) (n : _) (l : _) (sh : List Str) (K : _) := fun (i : Nat) (σ : St) (H6 : Hp) => (Ex6 fun (fs : List Je) (xs : List V) (v6 v8 v9 v10 : Option V) => An8 (σ = [some (.ref b),some (.ref ks),some (.ref ps),some (.bl pl),some (.bl (decide (V.int r = V.int 0))),some (.int more),v6,some (.ref R),v8,v9,v10]) (SameB b H H6) (BoxAt H6 b (n + 60 + 6 * i)) (H6 l = some (.lst (sh.map V.str))) (H6 R = some (.lst xs)) (Reps K H6 (fs.map jg) xs) (fs.map (·.k) = sh.take i) (∀ f ∈ fs,Nm f.k /\ inP f.x f.y /\ 0 <= f.m /\ f.m <= 400) : Prop)
def QH (b : _) (ks : _) (ps : _) (pl : _) (r : _) (more : _) (v6 : _) (R : _) (kd : _) (zs : List V) (H8 : _) (n : _) (i : _) := fun (σ' : St) (H' : Hp) => (Ex1 fun (many : Int) => An5 (σ' = [some (.ref b),some (.ref ks),some (.ref ps),some (.bl pl),some (.bl (decide (V.int r = V.int 0))),some (.int more),v6,some (.ref R),some (.str kd),some (.int (zs.length : Int)),some (.int many)]) (0 <= many) (many <= 400) (SameB b H8 H') (BoxAt H' b (n + 60 + 6 * i + 2)) : Prop)
theorem X4 {f : Addr} {fd : FuncData} (F : Fun K "_law_feeders" "_law_feeders" (zj 22) f fd) (B : Blt mg) (D_take : Dfn P w K mg base "_law_take" 1 ["_law_box_here", "_law_size"] qM) (D_shuffled : Dfn P w K mg base "_law_shuffled" 2 ["_law_box_here", "_law_some"] (vB K)) (D_place : Dfn P w K mg base "_law_place" 2 ["_law_box_here", "_law_taken"] (xB K)) : FnOk P w K mg base CX0 3 f fd ["_law_box_here", "_law_kinds", "_law_parts", "_law_plenty"] (Zw K) := by
  have nd := JD.nd
  refine F.ok JD (fun vs H Q E h => ?_) (fun cdv A outer s H vs Q E hr h => ?_)
  · obtain ⟨b,ks,ps,pl,n,kinds,parts,rfl,_⟩ := h
    rfl
  · obtain ⟨b,ks,ps,pl,n,kinds,parts,rfl,B0,hn,nk,Rk,k0,k1,hp,lp,k⟩ := h
    have hbig : 100000 < sizeLine := by rw [sizeLine_eq];decide
    have e62 : (2 : Int) ^ 62 = 4611686018427387904 := by decide
    have ek : (kinds.map V.str).length = kinds.length := List.length_map ..
    refine ⟨_,(zf (zt (i := 4) nd rfl (Or.inl rfl) (qm qB (zg D_take (hr.mono (by first | decide | exact Nat.le_refl _ | omega)) rfl (za (pv 0) (za ze zc))) ze (zE _)))
      (zf (qU (zt (i := 5) nd rfl (Or.inl rfl) (zg D_take (hr.mono (by first | decide | exact Nat.le_refl _ | omega)) rfl (za (pv 0) (za (qN (qD (pv 4)) (zp qz ze (zo zC rfl B.len boot_len (za (pv 1) zc))) ze) zc)))))
      (zf (zt (i := 6) nd rfl (Or.inl rfl) (zp qP (pv 1) (jH ["_law_kinds", "_law_box_here"] [1,0] rfl rfl (by kernel_rfl) (zV rfl B.range (za (pv 5) zc)) (fun C0 s0 H0 ex0 => qH) (fun C0 s0 H0 ex0 => (zr (vR (K := K) rfl) (pv 1) (zg D_take (hr.mono (by first | decide | exact Nat.le_refl _ | omega)) rfl (za (pv 2) (za (zo (xo (K := K) rfl) rfl B.len boot_len (za (pv 1) zc)) zc))) (fun _ _ => rfl))))))
      (zf (zt (i := 7) nd rfl (Or.inl rfl) (zA zc))
      (zf (qy PassesOwn.never rfl (qV (zg D_shuffled (hr.mono (by first | decide | exact Nat.le_refl _ | omega)) rfl (za (pv 0) (za (pv 6) zc)))) (zF (i := 8) nd rfl (Or.inr rfl))
      (zf (zt (i := 9) nd rfl (Or.inl rfl) (zo zC rfl B.len boot_len (za (jH ["_law_kind"] [8] rfl rfl (by kernel_rfl) (jG (pv 2)) (fun C0 s0 H0 ex0 => (yc (zG qB (zr (qo (K := K) rfl) (pv 0) ze (fun _ _ => rfl)) (pv 1) (zE _)))) (fun C0 s0 H0 ex0 => (pv 0))) zc)))
        (zf (qU (zt (i := 10) nd rfl (Or.inl rfl) (qN (qD (pv 3)) (zr zJ (zA (za (pv 9) (za (zp zI (pv 9) (zg D_take (hr.mono (by first | decide | exact Nat.le_refl _ | omega)) rfl (za (pv 0) (za ze zc)))) (za ze zc)))) (zg D_take (hr.mono (by first | decide | exact Nat.le_refl _ | omega)) rfl (za (pv 0) (za ze zc))) (fun _ _ => rfl)) (zg D_take (hr.mono (by first | decide | exact Nat.le_refl _ | omega)) rfl (za (pv 0) (za ze zc))))))
        (zk (qx (jn PySem.F.plainAttrs_list PySem.F.slot_list_append PySem.F.type_list_append qA (pv 7) (za (zQ (za (pv 8) (za (zg D_place (hr.mono (by first | decide | exact Nat.le_refl _ | omega)) rfl (za (pv 0) (za (zA zc) zc))) (za (pv 10) zc)))) zc)))))))
      (zk (zx (zM zY rfl B.tuple zX (za (pv 7) zc))))))))),?_⟩
    refine ⟨_,rfl,b,8,n,rfl,B0,by omega,by decide,by decide,fun r H1 r0 r1 B1 S1 => ⟨rfl,?_⟩⟩
    have Rk1 := Rk.draw S1 nk
    refine ⟨QK b ks ps pl r H n,?_,?_⟩
    · refine ⟨_,rfl,_,rfl,_,rfl,qw (fun c => ?_) (fun c => ?_)⟩
      · exact ⟨_,rfl,ks,_,rfl,.inl (SqL.of Rk1.1),_,_,rfl,rfl,b,_,_,rfl,B1,by omega,by omega,by omega,fun more H2 a0 a1 B2 S2 => ⟨_,rfl,a0,by omega,S1.trans S2,B2.mono (by omega)⟩⟩
      · exact ⟨b,4,_,rfl,B1,by omega,by decide,by decide,fun more H2 a0 a1 B2 S2 => ⟨_,rfl,a0,by omega,S1.trans S2,B2.mono (by omega)⟩⟩
    rintro σ' H2 ⟨more,rfl,mo0,mo1,S2,B2⟩
    clear S1 B1 Rk1
    have Rk2 := Rk.draw S2 nk
    refine ⟨_,rfl,_,rfl,_,rfl,(by rw [e62];omega),(by rw [e62];omega),vQ (QJ kinds b H2 n) ⟨[],rfl,rfl,(fun x h => nomatch h),SameB.refl _ _,B2.mono (by omega)⟩ ?_ ?_⟩
    · rintro j zs H3 hj ⟨es,rfl,el,ee,S3,B3⟩
      refine ⟨rfl,⟨_,rfl,_,rfl,_,rfl,ks,_,rfl,.inl (SqL.of (Rk2.draw S3 nk).1),b,_,_,rfl,B3,by omega,by omega,by omega,fun q H4 q0 q1 B4 S4 => ?_⟩⟩
      obtain ⟨y,ey,my⟩ := Jm (ns := kinds) q0 (by omega)
      refine ⟨ks,_,_,_,rfl,rfl,SqL.of (Rk2.draw (S3.trans S4) nk).1,ey,by rw [List.length_map,el];omega,es ++ [y],by rw [List.map_append];rfl,by rw [List.length_append,el];rfl,fun x hx => ?_,S3.trans S4,B4.mono (by omega)⟩
      rcases List.mem_append.mp hx with pq | pq
      · exact ee x pq
      · rw [List.mem_singleton.mp pq];exact my
    rintro zs H3 ⟨es,rfl,el,ee,S3,B3⟩
    refine ⟨by rw [List.length_map,el];omega,fun D hD => ?_⟩
    have S3' := (S2.trans S3).new (o := .lst (es.map V.str)) hD
    have Rk3 := (Rk2.draw S3 nk).same (zb (o := .lst (es.map V.str)) hD)
    refine ⟨ks,D,_,_,rfl,rfl,Rk3.1,zd,by rw [ek,List.length_map,el];omega,fun sm hs => ?_⟩
    have B4 := (B3.new (o := .lst (es.map V.str)) hD).new (o := .lst (kinds.map V.str ++ es.map V.str)) hs
    have S4 := S3'.new (o := .lst (kinds.map V.str ++ es.map V.str)) hs
    have ns := (B3.new (o := .lst (es.map V.str)) hD).nne hs
    have M4 : upd (upd H3 D (.lst (es.map V.str))) sm (.lst (kinds.map V.str ++ es.map V.str)) sm = some (.lst ((kinds ++ es).map V.str)) := by rw [zd,List.map_append]
    generalize upd (upd H3 D (.lst (es.map V.str))) sm (.lst (kinds.map V.str ++ es.map V.str)) = H4 at B4 S4 M4
    clear S2 S3 S3' Rk2 Rk3 B2 B3 hD hs
    refine ⟨le0,fun R hR => ?_⟩
    have nR := B4.nne hR
    have RH : H R = none := S4.none hR nR
    have lenk : ((kinds ++ es).map V.str).length <= 32 := by rw [List.length_map,List.length_append,el];omega
    refine ⟨_,rfl,_,rfl,b,sm,_,_,rfl,B4.new hR,by omega,ns,(zb hR) _ _ M4,by omega,fun l ys H5 S5 B5 nl lN hl pm => ?_⟩
    obtain ⟨sh,shp,rfl⟩ := xD pm rfl
    have S5' := (S4.new (o := .lst []) hR).trans S5
    have R5 : H5 R = some (.lst []) := S5 _ _ zd nR
    have lR : l ≠ R := fun z => by rw [z,zd] at lN;cases lN
    have shl : sh.length <= 32 := by rw [shp.length_eq];rw [List.length_map] at lenk;exact lenk
    have shn : ∀ x ∈ sh,Nm x := fun x hx => by
      rcases List.mem_append.mp (shp.mem_iff.mp hx) with q | q
      · exact Rk.2 x q
      · exact Rk.2 x (ee x q)
    clear pm M4 S4 S5 B4 hR
    refine ⟨l,rfl,⟨_,SqL.of hl⟩,xJ (K := K) (a := l) (xs := sh.map V.str) (QI b ks ps pl r more R H n l sh K)
      ⟨[],[],_,_,_,_,rfl,S5',B5.mono (by omega),hl,R5,rfl,rfl,(fun f h => nomatch h)⟩ (fun i σ H6 _ ⟨_,_,_,_,_,_,_,_,_,h,_,_,_,_⟩ => SqL.of h) ?_ ?_⟩
    · rintro i x σ H6 hx ⟨fs,xs,v6,v8,v9,v10,rfl,S6,B6,L6,R6,rp,fk,fa⟩
      rw [List.getElem?_map] at hx
      obtain ⟨kd,hkd,rfl⟩ := Option.map_eq_some_iff.mp hx
      have hi := (List.getElem?_eq_some_iff.mp hkd).1
      have fl : fs.length = i := by
        have := congrArg List.length fk
        rw [List.length_map,List.length_take] at this
        omega
      have xl : xs.length = i := by rw [rp.len,List.length_map,fl]
      have hp6 := Rep.keep (d := .tup (parts.map qK)) (SameT.draw B0 S6) (qG parts) hp
      obtain ⟨_,pxs,ep,hq,hps⟩ := hp6
      cases ep
      have pl' : pxs.length = parts.length := by rw [hps.len,List.length_map]
      refine ⟨_,rfl,ps,rfl,⟨_,hq⟩,j3 (K := K) (a := ps) (xs := pxs) (fun j zs H7 => zs.length <= j /\ Same H6 H7) ⟨Nat.le_refl _,Same.refl _⟩ (fun j zs H7 ⟨_,s7⟩ => s7.sqT hq) ?_ ?_⟩
      · rintro j v zs H7 hv ⟨zl,s7⟩
        have hj := (List.getElem?_eq_some_iff.mp hv).1
        obtain ⟨d,hd,rd⟩ := hps.get hv
        rw [List.getElem?_map] at hd
        obtain ⟨pt,_,rfl⟩ := Option.map_eq_some_iff.mp hd
        obtain ⟨c,cxs,rfl,hc,u1,r1',e1,e2,e3⟩ := rd
        subst e1
        cases (show u1 = .str pt.k from e2)
        refine ⟨rfl,⟨_,rfl,c,_,_,.str pt.k,rfl,rfl,s7.sqT hc,qE (j := 0) rfl,_,rfl,rfl,_,rfl,qw (fun dd => ⟨_,rfl,by omega,by rw [List.length_append];simp;omega,s7⟩) (fun dd => ⟨by omega,s7⟩)⟩⟩
      rintro zs H7 ⟨zl,s7⟩
      refine ⟨by omega,fun D2 hD2 => ⟨D2,zs,rfl,.inl (SqL.of zd),?_⟩⟩
      have s8 := s7.trans (zb (o := .lst zs) hD2)
      have B8 := B6.same s8
      generalize upd H7 D2 (.lst zs) = H8 at s8 B8
      refine ⟨QH b ks ps pl r more v6 R kd zs H8 n i,?_,?_⟩
      · refine ⟨_,rfl,_,rfl,qw (fun c => ?_) (fun c => ?_)⟩
        · refine ⟨_,rfl,_,rfl,_,rfl,b,9,_,rfl,B8,by omega,by decide,by decide,fun q9 H9 a0 a1 B9 S9 => ⟨_,_,rfl,rfl,le3,fun l3 h3 => ⟨_,rfl,b,3,_,rfl,B9.new h3,by omega,by decide,by decide,fun q3 H10 c0 c1 B10 S10 => ?_⟩⟩⟩
          have L10 := S10 l3 _ zd (B9.nne h3)
          obtain ⟨z,ez,z0,z1⟩ := WC (a := (zs.length : Int)) (c := (zs.length : Int) + q9) c0 c1 (by omega) (by omega) (by omega) (by omega)
          exact ⟨l3,_,_,_,rfl,rfl,SqL.of L10,ez,z,rfl,z0,z1,(S9.new h3).trans S10,B10.mono (by omega)⟩
        · exact ⟨_,rfl,b,4,_,rfl,B8,by omega,by decide,by decide,fun q9 H9 a0 a1 B9 S9 => ⟨q9,rfl,a0,by omega,S9,B9.mono (by omega)⟩⟩
      rintro σ' H9 ⟨many,rfl,y0,y1,S9,B9⟩
      have S9' := (SameB.of (b := b) s8).trans S9
      have R9 := S9' _ _ R6 nR
      refine ⟨_,rfl,.inl ⟨rfl,_,SqL.of R9⟩,_,rfl,_,rfl,le0,fun e he => ⟨b,e,_,[],rfl,B9.new he,by omega,B9.nne he,zd,Nat.zero_le _,(fun a h => nomatch h),fun pp H10 S10 B10 ppN pa => ⟨_,rfl,le3,fun T hT => ?_⟩⟩⟩
      obtain ⟨px,py,hpp,b1,b2,b3,b4⟩ := pa
      have R10 := S10 _ _ ((zb he) _ _ R9) nR
      have R11 := (zb (o := .tup [.str kd,.ref pp,.int many]) hT) _ _ R10
      refine ⟨R,xs,.ref T,rfl,rfl,R11,by omega,?_⟩
      have S11 := (S9'.new he).trans (S10.new (o := .tup [.str kd,.ref pp,.int many]) hT)
      have st : SameT H6 (upd (upd H10 T (.tup [.str kd,.ref pp,.int many])) R (.lst (xs ++ [.ref T]))) := (SameT.draw B6 S11).trans (.put R11)
      have TR : T ≠ R := fun z => by rw [z,R10] at hT;cases hT
      have ppR : pp ≠ R := fun z => by rw [z,R10] at hpp;cases hpp
      have ppT : pp ≠ T := fun z => by rw [z,hT] at hpp;cases hpp
      refine ⟨fs ++ [⟨kd,px,py,many⟩],_,_,_,_,_,rfl,(S6.trans S11).put RH,((B10.new hT).other nR).mono (by omega),by rw [zq lR];exact S11 _ _ L6 nl,zd,?_,?_,fun g hgm => ?_⟩
      · rw [List.map_append]
        refine Reps.snoc ?_ (Reps.keep st (jk fs) rp)
        refine ⟨T,_,rfl,SqT.of (by rw [zq TR];exact zd),_,_,rfl,rfl,_,_,rfl,⟨pp,_,rfl,SqT.of (by rw [zq ppR,zq ppT];exact hpp),_,_,rfl,rfl,_,_,rfl,rfl,rfl⟩,_,_,rfl,rfl,rfl⟩
      · rw [List.map_append,fk]
        obtain ⟨h1,h2⟩ := List.getElem?_eq_some_iff.mp hkd
        rw [<- List.take_append_getElem h1,h2]
        rfl
      · rcases List.mem_append.mp hgm with q | q
        · exact fa g q
        · rw [List.mem_singleton.mp q]
          exact ⟨shn kd (List.mem_of_getElem? hkd),⟨b1,b2,b3,b4⟩,y0,y1⟩
    · rintro σ H6 ⟨fs,xs,v6,v8,v9,v10,rfl,S6,B6,L6,R6,rp,fk,fa⟩
      rw [List.length_map,List.take_length] at fk
      have fl : fs.length <= 32 := by
        have := congrArg List.length fk
        rw [List.length_map] at this
        omega
      refine ⟨_,rfl,R,xs,rfl,.inl ⟨SqL.of R6,fun p hp' => ?_⟩⟩
      refine k p fs es _ (S6.new hp') ((B6.new hp').mono (by rw [List.length_map] at *;omega)) ⟨p,_,rfl,SqT.of zd,Reps.keep (SameT.of (zb hp')) (jk fs) rp⟩ (by rw [fk];exact shp) ee (by omega) fa
end
end L2
set_option Elab.async false
set_option linter.all false
set_option maxRecDepth 100000
set_option maxHeartbeats 4000000
namespace L2
open PySem PySem.Spec PyProof.Rows
structure Job where
  gx : Int
  gy : Int
  hd : Int
  fs : List Je
  ps : List Zh
  as : List (Nat × Nat)
def jR (J : Job) : Dat := .tup [.tup [.int J.gx,.int J.gy],.int J.hd,.tup (J.fs.map jg),.tup (J.ps.map qK),vq J.as]
theorem xH (J : Job) : (jR J).imm = true := by
  show (true && (true && (Dat.imms (J.fs.map jg) && (Dat.imms (J.ps.map qK) && (Dat.imms (J.as.map qL) && true))))) = true
  rw [jk,qG,zT];rfl
structure jh (J : Job) (ord : List Nat) : Prop where
  gate : inP J.gx J.gy
  hd0 : 1 <= J.hd
  hd1 : J.hd <= 4
  fl : J.fs.length <= 40
  fa : ∀ f ∈ J.fs,Nm f.k /\ inP f.x f.y /\ 0 <= f.m /\ f.m <= 400
  pl : J.ps.length <= 60
  pa : ∀ p ∈ J.ps,Nm p.k /\ inP p.x p.y /\ ∃ f ∈ J.fs,f.k = p.k
  op : ord.Perm (List.range J.ps.length)
  bo : ByOrd ord J.as
  al : J.as.length <= 300
  f0 : 1 <= J.fs.length
theorem XO {r : Int} (h0 : 0 <= r) (h1 : r < 4) : ∃ z : Int,atI [V.int 3,V.int 3,V.int 3,V.int 12] r = some (.int z) /\ 3 <= z /\ z <= 12 := by
  have hc : r = 0 \/ r = 1 \/ r = 2 \/ r = 3 := by omega
  rcases hc with rfl | rfl | rfl | rfl
  · exact ⟨3,rfl,by decide,by decide⟩
  · exact ⟨3,rfl,by decide,by decide⟩
  · exact ⟨3,rfl,by decide,by decide⟩
  · exact ⟨12,rfl,by decide,by decide⟩
section
variable {P : Program} {w : World} {K : PySem.W.Frag} {mg : Str -> Option Value} {base : Heap}
inductive ZP (K : PySem.W.Frag) (vs : List V) (H : Hp) (Q : VK) : Prop
  | mk (b : Addr) (few most n : Int) (pl : Bool) (_ : vs = [.ref b,.int few,.int most,.bl pl]) (_ : BoxAt H b n) (_ : n < 500000) (_ : 0 <= few) (_ : few <= 60) (_ : 0 <= most) (_ : most <= 60) (_ : ∀ (p : Addr) (J : Job) (ord : List Nat) H',SameB b H H' -> BoxAt H' b (n + 3000) -> Rep K H' (jR J) (.ref p) -> jh J ord -> Q (.ref p) H') : ZP K vs H Q
def Jq (K : PySem.W.Frag) : Sp := fun vs H Q _ => ZP K vs H Q
theorem Vr : zy ["_law_box_here", "_law_few", "_law_most", "_law_plenty", "_law_many", "_law_kinds", "_law_parts", "_law_feeders_here"] ["_law_box_here", "_law_few", "_law_most", "_law_plenty"] (zi (zj 24)) := ⟨rfl,rfl,rfl,by decide +kernel,rfl,by decide +kernel,by decide +kernel⟩
def QG (b : _) (few : _) (most : _) (pl : _) (H : _) (n : _) := fun (σ' : St) (H' : Hp) => (Ex1 fun (m : Int) => An5 (σ' = [some (.ref b),some (.int few),some (.int most),some (.bl pl),some (.int m),none,none,none]) (0 <= m) (m <= 60) (SameB b H H') (BoxAt H' b (n + 2)) : Prop)
def QF (K : _) (kinds : List Str) (b : _) (H6 : _) (n : _) := fun (j : Nat) (zs : List V) (H7 : Hp) => (Ex1 fun (qs : List Zh) => An5 (Reps K H7 (qs.map qK) zs) (qs.length = j) ((∀ q ∈ qs,q.k ∈ kinds /\ inP q.x q.y)) (SameB b H6 H7) (BoxAt H7 b (n + 700 + j)) : Prop)
theorem V2 {f : Addr} {fd : FuncData} (F : Fun K "_law_job" "_law_job" (zj 24) f fd) (B : Blt mg) (D_take : Dfn P w K mg base "_law_take" 1 ["_law_box_here", "_law_size"] qM) (D_names : Dfn P w K mg base "_law_names" 3 ["_law_box_here", "_law_many"] wY) (D_place : Dfn P w K mg base "_law_place" 2 ["_law_box_here", "_law_taken"] (xB K)) (D_places : Dfn P w K mg base "_law_places" 3 ["_law_box_here", "_law_many"] vD)
    (D_feeders : Dfn P w K mg base "_law_feeders" 3 ["_law_box_here", "_law_kinds", "_law_parts", "_law_plenty"] (Zw K)) (D_aheads : Dfn P w K mg base "_law_aheads" 3 ["_law_box_here", "_law_many"] (vH K)) : FnOk P w K mg base CX0 4 f fd ["_law_box_here", "_law_few", "_law_most", "_law_plenty"] (Jq K) := by
  have nd := Vr.nd
  refine F.ok Vr (fun vs H Q E h => ?_) (fun cdv A outer s H vs Q E hr h => ?_)
  · obtain ⟨b,few,most,n,pl,rfl,_⟩ := h
    rfl
  · obtain ⟨b,few,most,n,pl,rfl,B0,hn,f0,f1,mo0,mo1,k⟩ := h
    have hbig : 100000 < sizeLine := by rw [sizeLine_eq];decide
    refine ⟨_,(zf (qU (zt (i := 4) nd rfl (Or.inl rfl) (zg D_take (hr.mono (by first | decide | exact Nat.le_refl _ | omega)) rfl (za (pv 0) (za (zp zI (qN (zG wD (zg D_take (hr.mono (by first | decide | exact Nat.le_refl _ | omega)) rfl (za (pv 0) (za ze zc))) ze (zE _)) (pv 1) (pv 2)) ze) zc)))))
      (zf (zt (i := 5) nd rfl (Or.inr rfl) (zg D_names (hr.mono (by first | decide | exact Nat.le_refl _ | omega)) rfl (za (pv 0) (za (zp zI ze (zg D_take (hr.mono (by first | decide | exact Nat.le_refl _ | omega)) rfl (za (pv 0) (za (zr zJ (zA (za ze (za ze (za ze (za ze zc))))) (zg D_take (hr.mono (by first | decide | exact Nat.le_refl _ | omega)) rfl (za (pv 0) (za ze zc))) (fun _ _ => rfl)) zc)))) zc))))
      (zf (zt (i := 6) nd rfl (Or.inl rfl) (zM zY rfl B.tuple zX (za (jH ["_law_kinds", "_law_box_here"] [5,0] rfl rfl (by kernel_rfl) (qV (zg D_places (hr.mono (by first | decide | exact Nat.le_refl _ | omega)) rfl (za (pv 0) (za (pv 4) zc)))) (fun C0 s0 H0 ex0 => qH) (fun C0 s0 H0 ex0 => (zQ (za (zr (vR (K := K) rfl) (pv 1) (zg D_take (hr.mono (by first | decide | exact Nat.le_refl _ | omega)) rfl (za (pv 2) (za (zo (xo (K := K) rfl) rfl B.len boot_len (za (pv 1) zc)) zc))) (fun _ _ => rfl)) (za (pv 0) zc))))) zc)))
      (zf (zt (i := 7) nd rfl (Or.inl rfl) (zg D_feeders (hr.mono (by first | decide | exact Nat.le_refl _ | omega)) rfl (za (pv 0) (za (pv 5) (za (pv 6) (za (pv 3) zc))))))
      (zk (zx (zQ (pa5 (zg D_place (hr.mono (by first | decide | exact Nat.le_refl _ | omega)) rfl (za (pv 0) (za (zA zc) zc))) (zp zI ze (zg D_take (hr.mono (by first | decide | exact Nat.le_refl _ | omega)) rfl (za (pv 0) (za ze zc)))) (pv 7) (pv 6) (zg D_aheads (hr.mono (by first | decide | exact Nat.le_refl _ | omega)) rfl (za (pv 0) (za (pv 4) zc))))))))))),?_⟩
    refine ⟨QG b few most pl H n,?_,?_⟩
    · refine ⟨_,rfl,_,rfl,b,8,n,rfl,B0,by omega,by decide,by decide,fun r H1 r0 r1 B1 S1 => ⟨_,_,rfl,rfl,_,rfl,qw (fun c => ⟨_,rfl,_,_,rfl,rfl,?_⟩) (fun c => ⟨_,rfl,_,_,rfl,rfl,?_⟩)⟩⟩
      · exact ⟨b,_,_,rfl,B1,by omega,by omega,by omega,fun m H2 a0 a1 B2 S2 => ⟨m,rfl,a0,by omega,S1.trans S2,B2.mono (by omega)⟩⟩
      · exact ⟨b,_,_,rfl,B1,by omega,by omega,by omega,fun m H2 a0 a1 B2 S2 => ⟨m,rfl,a0,by omega,S1.trans S2,B2.mono (by omega)⟩⟩
    rintro σ' H2 ⟨m,rfl,m0,m1,S2,B2⟩
    refine ⟨_,rfl,_,rfl,le4,fun l1 h1 => ⟨_,rfl,b,4,_,rfl,B2.new h1,by omega,by decide,by decide,fun r H3 r0 r1 B3 S3 => ?_⟩⟩
    have L3 := S3 l1 _ zd (B2.nne h1)
    obtain ⟨z,ez,z0,z1⟩ := XO r0 r1
    refine ⟨l1,_,_,_,rfl,rfl,SqL.of L3,ez,b,z,_,rfl,B3,by omega,by omega,by omega,fun q H4 q0 q1 B4 S4 => ⟨_,_,rfl,rfl,b,1 + q,_,rfl,B4,by omega,by omega,by omega,fun ks kinds H5 S5 B5 nk kN Rk kl => ?_⟩⟩
    have S5' := (((S2.new h1).trans S3).trans S4).trans S5
    have ek : (kinds.map V.str).length = kinds.length := List.length_map ..
    clear S2 S3 S4 S5 B2 B3 B4 L3 h1
    refine ⟨_,rfl,_,rfl,b,m,_,rfl,B5,by omega,m0,by omega,fun l as H6 S6 B6 nl lN hl pa al => ?_⟩
    have Rk6 := Rk.draw S6 nk
    refine ⟨l,rfl,⟨_,SqL.of hl⟩,xG (K := K) (a := l) (xs := as.map V.ref) (QF K kinds b H6 n) ⟨[],rfl,rfl,(fun x h => nomatch h),SameB.refl _ _,B6.mono (by omega)⟩ (fun j zs H7 ⟨_,_,_,_,s7,_⟩ => SqL.of (s7 _ _ hl nl)) ?_ ?_⟩
    · rintro j x zs H7 hx ⟨qs,rq,ql,qa,S7,B7⟩
      rw [List.getElem?_map] at hx
      obtain ⟨a,ha,rfl⟩ := Option.map_eq_some_iff.mp hx
      have hj := (List.getElem?_eq_some_iff.mp ha).1
      have zl : zs.length = j := by rw [rq.len,List.length_map,ql]
      refine ⟨rfl,⟨_,rfl,_,rfl,_,rfl,ks,_,rfl,.inl (SqL.of (Rk6.draw S7 nk).1),b,_,_,rfl,B7,by omega,by omega,by omega,fun q H8 c0 c1 B8 S8 => ?_⟩⟩
      obtain ⟨y,ey,my⟩ := Jm (ns := kinds) c0 (by omega)
      obtain ⟨px,py,hpp,b1,b2,b3,b4⟩ := (pa a (List.mem_of_getElem? ha)).draw B6 (S7.trans S8)
      refine ⟨ks,_,_,_,rfl,rfl,SqL.of (Rk6.draw (S7.trans S8) nk).1,ey,_,rfl,le2,fun T hT => ⟨by omega,qs ++ [⟨y,px,py⟩],?_,by rw [List.length_append,ql];rfl,fun q hq => ?_,(S7.trans S8).new hT,(B8.new hT).mono (by omega)⟩⟩
      · rw [List.map_append]
        have rT : Rep K (upd H8 T (.tup [.str y,.ref a])) (qK ⟨y,px,py⟩) (.ref T) := ⟨T,_,rfl,SqT.of zd,_,_,rfl,rfl,_,_,rfl,⟨a,_,rfl,SqT.of ((zb hT) _ _ hpp),_,_,rfl,rfl,_,_,rfl,rfl,rfl⟩,rfl⟩
        exact Reps.snoc rT (Reps.keep ((SameT.draw B7 S8).trans (.of (zb hT))) (qG qs) rq)
      · rcases List.mem_append.mp hq with w1 | w1
        · exact qa q w1
        · rw [List.mem_singleton.mp w1];exact ⟨my,b1,b2,b3,b4⟩
    rintro zs H7 ⟨qs,rq,ql,qa,S7,B7⟩
    rw [List.length_map] at ql
    have B7 : BoxAt H7 b (n + 800) := B7.mono (by rw [List.length_map];omega)
    have zl : zs.length = as.length := by rw [rq.len,List.length_map,ql]
    refine ⟨by omega,fun D hD => ⟨D,zs,rfl,.inl ⟨SqL.of zd,fun ps hps => ?_⟩⟩⟩
    have sm := (zb (o := .lst zs) hD).trans (zb (o := .tup zs) hps)
    have S8 := (S5'.trans S6).trans (S7.trans (SameB.of (b := b) sm))
    have B8 := B7.same sm
    have Rk8 := (Rk6.draw S7 nk).same sm
    have P8 : Rep K (upd (upd H7 D (.lst zs)) ps (.tup zs)) (.tup (qs.map qK)) (.ref ps) := ⟨ps,_,rfl,SqT.of zd,Reps.keep (.of sm) (qG qs) rq⟩
    generalize upd (upd H7 D (.lst zs)) ps (.tup zs) = H8 at sm S8 B8 Rk8 P8
    clear S5' S6 S7 B5 B6 B7 Rk Rk6 rq hD hps pa hl
    refine ⟨_,rfl,_,rfl,_,rfl,_,rfl,b,ks,ps,pl,_,kinds,qs,rfl,B8,by omega,nk,Rk8,by omega,by omega,P8,by omega,fun fp fs es H9 S9 B9 F9 fperm ee fl fa => ?_⟩
    have P9 := Rep.keep (d := .tup (qs.map qK)) (SameT.draw B8 S9) (qG qs) P8
    refine ⟨_,rfl,le0,fun t ht => ⟨b,t,_,[],rfl,B9.new ht,by omega,B9.nne ht,zd,Nat.zero_le _,(fun a h => nomatch h),fun gp H10 S10 B10 gN ga => ?_⟩⟩
    obtain ⟨gx,gy,hgp,g1,g2,g3,g4⟩ := ga
    refine ⟨_,rfl,b,4,_,rfl,B10,by omega,by decide,by decide,fun hd H11 d0 d1 B11 S11 => ⟨_,_,rfl,rfl,_,rfl,_,rfl,_,rfl,_,rfl,b,m,_,rfl,B11,by omega,m0,by omega,fun ap aas ord H12 S12 B12 A12 op bo al2 => ⟨leN (by show 5 <= 1000;decide),fun p hp => ?_⟩⟩⟩
    have t9 : SameT H9 H12 := ((SameT.of (zb ht)).trans (.draw (B9.new ht) S10)).trans ((SameT.draw B10 S11).trans (.draw B11 S12))
    have t10 : SameT H10 H12 := (SameT.draw B10 S11).trans (.draw B11 S12)
    have up : Same H12 (upd H12 p (.tup [.ref gp,.int (1 + hd),.ref fp,.ref ps,.ref ap])) := zb hp
    have F12 := Rep.keep (d := .tup (fs.map jg)) (t9.trans (.of up)) (jk fs) F9
    have P12 := Rep.keep (d := .tup (qs.map qK)) (t9.trans (.of up)) (qG qs) P9
    have A13 := Rep.keep (d := vq aas) (.of up) (zT aas) A12
    have G12 := (t10.trans (.of up)) gp _ hgp (fun xs h => nomatch h)
    have qlm : qs.length = m.toNat := by omega
    have fk : ∀ kd ∈ kinds,∃ f ∈ fs,f.k = kd := fun kd hkd => by
      have := fperm.mem_iff.mpr (List.mem_append_left es hkd)
      obtain ⟨f,hf,e⟩ := List.mem_map.mp this
      exact ⟨f,hf,e⟩
    refine k p ⟨gx,gy,1 + hd,fs,qs,aas⟩ ord _ (((S8.trans S9).trans ((SameB.of (zb ht)).trans S10)).trans ((S11.trans S12).new hp)) ((B12.new hp).mono (by omega)) ?_ ?_
    · exact ⟨p,_,rfl,SqT.of zd,_,_,rfl,⟨gp,_,rfl,SqT.of G12,_,_,rfl,rfl,_,_,rfl,rfl,rfl⟩,_,_,rfl,rfl,_,_,rfl,F12,_,_,rfl,P12,_,_,rfl,A13,rfl⟩
    · refine ⟨⟨g1,g2,g3,g4⟩,by show 1 <= 1 + hd;omega,by show 1 + hd <= 4;omega,fl,fa,by show qs.length <= 60;omega,fun q hq => ?_,by show ord.Perm (List.range qs.length);rw [qlm];exact op,bo,al2,?_⟩
      · obtain ⟨hk,hi⟩ := qa q hq
        exact ⟨Rk8.2 q.k hk,hi,fk q.k hk⟩
      · have := fperm.length_eq
        rw [List.length_map,List.length_append] at this
        show 1 <= fs.length
        omega
end
end L2
set_option Elab.async false
set_option linter.all false
set_option maxRecDepth 100000
set_option maxHeartbeats 4000000
namespace L2
open PySem PySem.Spec PyProof.Rows
theorem qi {α : Type} {l : List α} {i : Nat} {x : α} (h : l[i]? = some x) : l.take (i + 1) = l.take i ++ [x] := by
  obtain ⟨h1,h2⟩ := List.getElem?_eq_some_iff.mp h
  rw [<- h2,List.take_append_getElem]
def zH (os : List Nat) : List V := os.map fun i : Nat => V.int (i : Int)
theorem zR (os : List Nat) : (zH os).length = os.length := List.length_map ..
theorem yT (os : List Nat) : zH os = (os.map fun i : Nat => (i : Int)).map V.int := by unfold zH;rw [List.map_map];rfl
theorem xf : ∀ os : List Nat,(zH os).all jf = true
  | [] => rfl
  | o :: os => by
    show (true && (zH os).all jf) = true
    rw [xf os];rfl
theorem yj (k : Nat) : ∀ os : List Nat,inV (.int (k : Int)) (zH os) = decide (k ∈ os)
  | [] => rfl
  | o :: os => by
    show ((o : Int) == (k : Int) || inV (.int (k : Int)) (zH os)) = _
    rw [yj k os]
    by_cases h : o = k
    · subst h;simp
    · have e : ((o : Int) == (k : Int)) = false := by simp;omega
      rw [e,Bool.false_or,decide_eq_decide]
      exact ⟨fun z => List.mem_cons_of_mem _ z,fun z => (List.mem_cons.mp z).resolve_left fun y => h y.symm⟩
theorem wK (k : Nat) : ∀ os : List Nat,((os.map fun i : Nat => (i : Int)).erase (k : Int)) = (os.erase k).map fun i : Nat => (i : Int)
  | [] => rfl
  | o :: os => by
    rw [List.map_cons,List.erase_cons,List.erase_cons]
    by_cases h : (o == k) = true
    · have e : ((o : Int) == (k : Int)) = true := by
        have := eq_of_beq h
        simp [this]
      rw [if_pos h,if_pos e]
    · have e : ¬ ((o : Int) == (k : Int)) = true := fun z => h (by
        have := eq_of_beq z
        have : o = k := by omega
        simp [this])
      rw [if_neg h,if_neg e,List.map_cons,wK k os]
theorem yU {os : List Nat} {i : Nat} {x : V} (h : (zH os)[i]? = some x) : ∃ k,os[i]? = some k /\ x = .int (k : Int) := by
  unfold zH at h
  rw [List.getElem?_map] at h
  obtain ⟨k,hk,rfl⟩ := Option.map_eq_some_iff.mp h
  exact ⟨k,hk,rfl⟩
def Early (os : List Nat) (as : List (Nat × Nat)) : Prop := ∀ p ∈ as,∀ l : Nat,os[l]? = some p.2 -> ∃ k : Nat,k < l /\ os[k]? = some p.1
theorem Early.snoc {os : List Nat} {as : List (Nat × Nat)} {k : Nat} (h : Early os as) (hk : ∀ p ∈ as,p.2 = k -> p.1 ∈ os) : Early (os ++ [k]) as := by
  intro p hp l hl
  by_cases hlt : l < os.length
  · rw [List.getElem?_append_left hlt] at hl
    obtain ⟨j,h1,h2⟩ := h p hp l hl
    exact ⟨j,h1,by rw [List.getElem?_append_left (by omega)];exact h2⟩
  · have hle : l = os.length := by
      have := (List.getElem?_eq_some_iff.mp hl).1
      rw [List.length_append] at this
      simp at this
      omega
    subst hle
    rw [List.getElem?_append_right (Nat.le_refl _),Nat.sub_self] at hl
    have e : k = p.2 := by simpa using hl
    obtain ⟨j,hj,ej⟩ := List.mem_iff_getElem.mp (hk p hp e.symm)
    exact ⟨j,hj,by rw [List.getElem?_append_left hj,<- ej];simp [hj]⟩
theorem ByOrd.mem1 {ord : List Nat} {as : List (Nat × Nat)} (h : ByOrd ord as) {p : Nat × Nat} (hp : p ∈ as) : p.1 ∈ ord := by
  obtain ⟨k,l,_,e,_⟩ := h p hp
  exact List.mem_of_getElem? e
theorem ByOrd.mem2 {ord : List Nat} {as : List (Nat × Nat)} (h : ByOrd ord as) {p : Nat × Nat} (hp : p ∈ as) : p.2 ∈ ord := by
  obtain ⟨k,l,_,_,e⟩ := h p hp
  exact List.mem_of_getElem? e
theorem Early.ord {os ord : List Nat} {as : List (Nat × Nat)} (h : Early os as) (b : ByOrd ord as) (hp : os.Perm ord) : ByOrd os as := by
  intro p hq
  obtain ⟨l,hl,el⟩ := List.mem_iff_getElem.mp (hp.mem_iff.mpr (b.mem2 hq))
  have e : os[l]? = some p.2 := by rw [<- el];simp [hl]
  obtain ⟨k,h1,h2⟩ := h p hq l e
  exact ⟨k,l,h1,h2,e⟩
def zW (left : List Nat) (as : List (Nat × Nat)) : List Nat := (as.filter fun p => decide (p.1 ∈ left)).map fun p => p.2
def qI (left : List Nat) (as : List (Nat × Nat)) : List Nat := left.filter fun k => !decide (k ∈ zW left as)
theorem yV {left : List Nat} {as : List (Nat × Nat)} {c : Nat} : c ∈ zW left as ↔ ∃ p ∈ as,p.1 ∈ left /\ p.2 = c := by
  unfold zW
  rw [List.mem_map]
  constructor
  · rintro ⟨p,hp,rfl⟩
    obtain ⟨h1,h2⟩ := List.mem_filter.mp hp
    exact ⟨p,h1,of_decide_eq_true h2,rfl⟩
  · rintro ⟨p,h1,h2,rfl⟩
    exact ⟨p,List.mem_filter.mpr ⟨h1,decide_eq_true h2⟩,rfl⟩
theorem Ja {left ord : List Nat} {as : List (Nat × Nat)} (b : ByOrd ord as) (nd : ord.Nodup) (hs : ∀ k ∈ left,k ∈ ord) (hne : left ≠ []) : qI left as ≠ [] := by
  have key : ∀ (n : Nat) (k : Nat),k ∈ left -> (∃ i,i < n /\ ord[i]? = some k) -> ∃ c ∈ left,c ∉ zW left as := by
    intro n
    induction n with
    | zero => rintro k _ ⟨i,hi,_⟩;omega
    | succ n ih =>
      rintro k hk ⟨i,hi,ei⟩
      by_cases hl : k ∈ zW left as
      · obtain ⟨p,hp,h1,rfl⟩ := yV.mp hl
        obtain ⟨x,y,hxy,ex,ey⟩ := b p hp
        have e : y = i := by
          have h1 := (List.getElem?_eq_some_iff.mp ei).1
          have h2 := (List.getElem?_eq_some_iff.mp ey).1
          have h3 : ord[y] = ord[i] := by
            rw [List.getElem?_eq_getElem h1] at ei
            rw [List.getElem?_eq_getElem h2] at ey
            exact (Option.some.inj ey).trans (Option.some.inj ei).symm
          exact (List.getElem_inj nd).mp h3
        exact ih p.1 h1 ⟨x,by omega,ex⟩
      · exact ⟨k,hk,hl⟩
  obtain ⟨k,hk⟩ : ∃ k,k ∈ left := by
    cases left with
    | nil => exact absurd rfl hne
    | cons a r => exact ⟨a,by simp⟩
  obtain ⟨i,hi,ei⟩ := List.mem_iff_getElem.mp (hs k hk)
  obtain ⟨c,hc,hn⟩ := key (i + 1) k hk ⟨i,by omega,by rw [<- ei];simp [hi]⟩
  intro z
  have : c ∈ qI left as := List.mem_filter.mpr ⟨hc,by simp [hn]⟩
  rw [z] at this
  cases this
section
variable {P : Program} {w : World} {K : PySem.W.Frag} {mg : Str -> Option Value} {base : Heap}
theorem jA {H : Hp} {J : Job} {jp : Addr} (h : Rep K H (jR J) (.ref jp)) : ∃ g fs ps as : Addr,SqT K H jp [.ref g,.int J.hd,.ref fs,.ref ps,.ref as] /\ Rep K H (.tup [.int J.gx,.int J.gy]) (.ref g) /\ Rep K H (.tup (J.fs.map jg)) (.ref fs) /\ Rep K H (.tup (J.ps.map qK)) (.ref ps) /\ Rep K H (vq J.as) (.ref as) := by
  obtain ⟨a,xs,e,q,x0,r0,e0,h0,x1,r1,e1,h1,x2,r2,e2,h2,x3,r3,e3,h3,x4,r4,e4,h4,e5⟩ := h
  cases e
  subst e0 e1 e2 e3 e4
  have e5' : r4 = [] := e5
  subst e5'
  have h1' : x1 = .int J.hd := h1
  subst h1'
  obtain ⟨g,gx,rfl,gq⟩ := h0
  obtain ⟨fs,fx,rfl,fq⟩ := h2
  obtain ⟨ps,px,rfl,pq⟩ := h3
  obtain ⟨as,ax,rfl,aq⟩ := h4
  exact ⟨g,fs,ps,as,q,⟨g,gx,rfl,gq⟩,⟨fs,fx,rfl,fq⟩,⟨ps,px,rfl,pq⟩,⟨as,ax,rfl,aq⟩⟩
theorem jb {H : Hp} {ds : List Dat} {a : Addr} (h : Rep K H (.tup ds) (.ref a)) : ∃ xs,SqT K H a xs /\ Reps K H ds xs := by
  obtain ⟨a',xs,e,q,r⟩ := h
  cases e
  exact ⟨xs,q,r⟩
inductive wu (K : PySem.W.Frag) (vs : List V) (H : Hp) (Q : VK) : Prop
  | mk (b jp : Addr) (J : Job) (ord : List Nat) (n : Int) (_ : vs = [.ref b,.ref jp]) (_ : BoxAt H b n) (_ : n < 600000) (_ : Rep K H (jR J) (.ref jp)) (_ : jh J ord) (_ : ∀ (l : Addr) (os : List Nat) H',SameB b H H' -> BoxAt H' b (n + 60) -> l ≠ b -> H l = none -> H' l = some (.lst (zH os)) -> os.Perm (List.range J.ps.length) -> ByOrd os J.as -> Q (.ref l) H') : wu K vs H Q
def wX (K : PySem.W.Frag) : Sp := fun vs H Q _ => wu K vs H Q
inductive WT (b jp l0 l1 : Addr) (H : Hp) (n : Int) (J : Job) (m : Nat) (σ : St) (H4 : Hp) : Prop
  | mk (left os : List Nat) (v4 v5 : Option V) (_ : σ = [some (.ref b),some (.ref jp),some (.ref l0),some (.ref l1),v4,v5]) (_ : m = left.length) (_ : SameB b H H4) (_ : BoxAt H4 b (n + os.length)) (_ : H4 l0 = some (.lst (zH left))) (_ : H4 l1 = some (.lst (zH os))) (_ : (left ++ os).Perm (List.range J.ps.length)) (_ : Early os J.as) : WT b jp l0 l1 H n J m σ H4
inductive WU (b jp l0 l1 : Addr) (H : Hp) (n : Int) (J : Job) (left : List Nat) (σ : St) (H4 : Hp) : Prop
  | mk (left' os : List Nat) (v4 v5 : Option V) (_ : left'.length < left.length) (_ : σ = [some (.ref b),some (.ref jp),some (.ref l0),some (.ref l1),v4,v5]) (_ : SameB b H H4) (_ : BoxAt H4 b (n + os.length)) (_ : H4 l0 = some (.lst (zH left'))) (_ : H4 l1 = some (.lst (zH os))) (_ : (left' ++ os).Perm (List.range J.ps.length)) (_ : Early os J.as) : WU b jp l0 l1 H n J left σ H4
theorem ZY : zy ["_law_box_here", "_law_job_here", "_law_left", "_law_found", "_law_late", "_law_free"] ["_law_box_here", "_law_job_here"] (zi (zj 25)) := ⟨rfl,rfl,rfl,by decide +kernel,rfl,by decide +kernel,by decide +kernel⟩
theorem JZ {f : Addr} {fd : FuncData} (F : Fun K "_law_order" "_law_order" (zj 25) f fd) (B : Blt mg) (D_take : Dfn P w K mg base "_law_take" 1 ["_law_box_here", "_law_size"] qM) : FnOk P w K mg base CX0 2 f fd ["_law_box_here", "_law_job_here"] (wX K) := by
  have nd := ZY.nd
  refine F.ok ZY (fun vs H Q E h => ?_) (fun cdv A outer s H vs Q E hr h => ?_)
  · obtain ⟨b,jp,J,ord,n,rfl,_⟩ := h
    rfl
  · obtain ⟨b,jp,J,ord,n,rfl,B0,hn,rj,jo,k⟩ := h
    have hu := hr.units0
    have hbig : 100000 < sizeLine := by rw [sizeLine_eq];decide
    have pl := jo.pl
    have al := jo.al
    obtain ⟨g,fs,ps,as,qj,_,_,rp,ra⟩ := jA rj
    obtain ⟨pv',qp,rp'⟩ := jb rp
    obtain ⟨av,qa,ra'⟩ := jb ra
    have lp := rp'.len
    rw [List.length_map] at lp
    have la := ra'.len
    rw [List.length_map] at la
    refine ⟨_,(zf (jW (zQ (za (xE rfl rfl B.list rfl B.range zU (za (zo zC rfl B.len boot_len (za (zr zL (pv 1) ze (fun _ _ => rfl)) zc)) zc)) (za (zA zc) zc))) (jy rfl (zN (zF (i := 2) nd rfl (Or.inr rfl)) (zN (zF (i := 3) nd rfl (Or.inl rfl)) jc))))
      (zf (JG PassesOwn.never (zG (xF hu) (pv 2) (zA zc) (zE _))
      (zf (zt (i := 4) nd rfl (Or.inr rfl) (xu ["_law_left"] [2] rfl rfl (by kernel_rfl) (jG (zr zL (pv 1) ze (fun _ _ => rfl))) (fun C0 s0 H0 ex0 => (yc (zG (xx (K := K) rfl) (pv 0) (pv 2) (by with_unfolding_all rfl)))) (fun C0 s0 H0 ex0 => (pv 1))))
        (zf (JI ["_law_late"] [4] rfl rfl (by kernel_rfl) (qV (pv 2)) (fun C0 s0 H0 ex0 => (yc (zG (wa (K := K) rfl) (pv 0) (pv 1) (by with_unfolding_all rfl)))) (fun C0 s0 H0 ex0 => (pv 0)) (zF (i := 5) nd rfl (Or.inl rfl)))
        (zf (qx (jn PySem.F.plainAttrs_list PySem.F.slot_list_append PySem.F.type_list_append qA (pv 3) (za (zr zJ (pv 5) (zg D_take (hr.mono (by first | decide | exact Nat.le_refl _ | omega)) rfl (za (pv 0) (za (zo zC rfl B.len boot_len (za (pv 5) zc)) zc))) (fun _ _ => rfl)) zc)))
        (zk (qx (jn PySem.F.plainAttrs_list PySem.F.slot_list_remove PySem.F.type_list_remove ZB (pv 2) (za (zr zJ (pv 3) (yN vw ze) (fun _ _ => rfl)) zc))))))))
      (zk (zx (pv 3))))),?_⟩
    refine ⟨_,rfl,jp,_,_,_,rfl,rfl,qj,rfl,ps,_,rfl,.inr qp,_,rfl,by omega,by omega,fun l0 h0 => ⟨le0,fun l1 h1 => ⟨le2,fun t ht => ?_⟩⟩⟩
    have eN : ((List.range ((pv'.length : Int)).toNat).map fun i : Nat => V.int (i : Int)) = zH (List.range J.ps.length) := by
      unfold zH
      rw [show ((pv'.length : Int)).toNat = J.ps.length by omega]
    have n0 := B0.nne h0
    have S0 := (SameB.refl b H).new (o := .lst ((List.range ((pv'.length : Int)).toNat).map fun i : Nat => V.int (i : Int))) h0
    have B1 := B0.new (o := .lst ((List.range ((pv'.length : Int)).toNat).map fun i : Nat => V.int (i : Int))) h0
    have L0 : upd H l0 (.lst ((List.range ((pv'.length : Int)).toNat).map fun i : Nat => V.int (i : Int))) l0 = some (.lst (zH (List.range J.ps.length))) := by rw [zd,eN]
    generalize upd H l0 (.lst ((List.range ((pv'.length : Int)).toNat).map fun i : Nat => V.int (i : Int))) = H1 at S0 B1 L0 h1 ht
    have n1 := B1.nne h1
    have N1 := S0.none h1 n1
    have n01 : l0 ≠ l1 := zn L0 h1
    have S1 := S0.new (o := .lst []) h1
    have B2 := B1.new (o := .lst []) h1
    have L02 := (zb (o := .lst []) h1) _ _ L0
    have L1 : upd H1 l1 (.lst []) l1 = some (.lst []) := zd
    generalize upd H1 l1 (.lst []) = H2 at S1 B2 L02 L1 ht
    have S2 := S1.new (o := .tup [.ref l0,.ref l1]) ht
    have B3 := B2.new (o := .tup [.ref l0,.ref l1]) ht
    have L03 := (zb (o := .tup [.ref l0,.ref l1]) ht) _ _ L02
    have L13 := (zb (o := .tup [.ref l0,.ref l1]) ht) _ _ L1
    have T3 : upd H2 t (.tup [.ref l0,.ref l1]) t = some (.tup [.ref l0,.ref l1]) := zd
    generalize upd H2 t (.tup [.ref l0,.ref l1]) = H3 at S2 B3 L03 L13 T3
    refine ⟨t,_,rfl,SqT.of T3,rfl,_,_,rfl,_,_,rfl,rfl,?_⟩
    clear S0 S1 B1 B2 L0 L02 L1 ht h1 T3
    refine ⟨WT b jp l0 l1 H n J,
      ⟨_,List.range J.ps.length,[],none,none,rfl,rfl,S2,B3.mono (by simp),L03,L13,by rw [List.append_nil],fun p _ l hl => by simp at hl⟩,?_⟩
    clear S2 B3 L03 L13
    rintro m σ H4 ⟨left,os,v4,v5,rfl,rfl,S4,B4,LL,LO,pm,ea⟩
    have plen := pm.length_eq
    rw [List.length_append,List.length_range] at plen
    refine ⟨_,rfl,le0,fun q hq => ⟨l0,q,_,rfl,rfl,SqL.of ((zb hq) _ _ LL),SqL.of zd,_,rfl,?_⟩⟩
    have S5 := S4.new (o := .lst []) hq
    have B5 := B4.new (o := .lst []) hq
    have LL5 := (zb (o := .lst []) hq) _ _ LL
    have LO5 := (zb (o := .lst []) hq) _ _ LO
    generalize upd H4 q (.lst []) = H5 at S5 B5 LL5 LO5
    clear S4 B4 LL LO hq
    cases left with
    | nil =>
      refine ifF rfl ⟨_,rfl,k l1 os H5 S5 (B5.mono (by simp at plen;omega)) n1 N1 LO5 (by simpa using pm) (ea.ord jo.bo ?_)⟩
      have : os.Perm (List.range J.ps.length) := by simpa using pm
      exact this.trans jo.op.symm
    | cons c xn =>
      refine ifT rfl ?_
      have hne : c :: xn ≠ [] := fun z => by cases z
      generalize c :: xn = left at *
      clear c xn
      refine ⟨WU b jp l0 l1 H n J left,
        fun σ' H' ⟨left',os',v4,v5,hlt,e,a1,a2,a3,a4,a5,a6⟩ => ⟨_,hlt,left',os',v4,v5,e,rfl,a1,a2,a3,a4,a5,a6⟩,?_⟩
      have T5 := SameT.trans (SameT.draw B0 S5) (SameT.refl H5)
      have qj5 := qj.keep T5
      have qa5 := qa.keep T5
      have ra5 := ra'.keep T5 (zT J.as)
      refine ⟨_,rfl,jp,_,_,_,rfl,rfl,qj5,rfl,as,rfl,⟨_,qa5⟩,j3 (K := K) (a := as) (xs := av) (fun i zs H6 => zs = zH (zW left (J.as.take i)) /\ Same H5 H6) ⟨rfl,Same.refl _⟩ (fun i zs H6 ⟨_,sm⟩ => sm.sqT qa5) ?_ ?_⟩
      · rintro i x zs H6 hx ⟨rfl,sm⟩
        obtain ⟨d,e1,r1⟩ := (ra5.same sm).get hx
        rw [List.getElem?_map] at e1
        obtain ⟨p,ep,rfl⟩ := Option.map_eq_some_iff.mp e1
        obtain ⟨pa,xs,rfl,qp',y0,r0,f0,g0,y1,r1',f1,g1,f2⟩ := r1
        subst f0 f1
        cases (show r1' = [] from f2)
        cases (show y0 = _ from g0)
        cases (show y1 = _ from g1)
        have hi : i < J.as.length := (List.getElem?_eq_some_iff.mp ep).1
        refine ⟨pa,_,rfl,qp',rfl,_,_,rfl,_,_,rfl,rfl,rfl,?_⟩
        refine ⟨_,rfl,_,rfl,l0,zH left,rfl,.inl (SqL.of (sm _ _ LL5)),rfl,xf left,_,rfl,?_⟩
        have et : J.as.take (i + 1) = J.as.take i ++ [p] := qi ep
        have ein : (if false = true then !inV (.int (p.1 : Int)) (zH left) else inV (.int (p.1 : Int)) (zH left)) = decide (p.1 ∈ left) := yj p.1 left
        rw [ein]
        refine qw (fun c => ⟨_,rfl,?_,?_,sm⟩) (fun c => ⟨?_,sm⟩)
        · have : (zW left (J.as.take i)).length <= J.as.length := by
            unfold zW
            rw [List.length_map]
            refine Nat.le_trans (List.length_filter_le _ _) ?_
            rw [List.length_take];omega
          rw [zR];omega
        · rw [et]
          unfold zW
          rw [List.filter_append,List.map_append,List.filter_cons_of_pos (by exact c)]
          unfold zH
          rw [List.map_append]
          rfl
        · rw [et]
          unfold zW
          rw [List.filter_append,List.filter_cons_of_neg (by exact c),List.filter_nil,List.append_nil]
      rintro zs H6 ⟨rfl,sm⟩
      have eall : J.as.take av.length = J.as := by rw [la,List.take_length]
      rw [eall]
      have latel : (zW left J.as).length <= 300 := by
        unfold zW
        rw [List.length_map]
        exact Nat.le_trans (List.length_filter_le _ _) al
      refine ⟨by rw [zR];omega,fun la' hla => ?_⟩
      have S6 := (S5.trans (SameB.of sm)).new (o := .lst (zH (zW left J.as))) hla
      have B6 := (B5.same sm).new (o := .lst (zH (zW left J.as))) hla
      have LL6 := (zb (o := .lst (zH (zW left J.as))) hla) _ _ (sm _ _ LL5)
      have LO6 := (zb (o := .lst (zH (zW left J.as))) hla) _ _ (sm _ _ LO5)
      have LA6 : upd H6 la' (.lst (zH (zW left J.as))) la' = some (.lst (zH (zW left J.as))) := zd
      generalize upd H6 la' (.lst (zH (zW left J.as))) = H7 at S6 B6 LL6 LO6 LA6
      clear S5 B5 LL5 LO5 sm hla T5 qj5 qa5 ra5
      refine ⟨_,rfl,l0,rfl,⟨_,SqL.of LL6⟩,xG (K := K) (a := l0) (xs := zH left) (fun i zs H8 => zs = zH ((left.take i).filter fun k => !decide (k ∈ zW left J.as)) /\ Same H7 H8) ⟨rfl,Same.refl _⟩ (fun i zs H8 ⟨_,sm⟩ => SqL.of (sm _ _ LL6)) ?_ ?_⟩
      · rintro i x zs H8 hx ⟨rfl,sm⟩
        obtain ⟨c,ec,rfl⟩ := yU hx
        have hi : i < left.length := (List.getElem?_eq_some_iff.mp ec).1
        refine ⟨rfl,?_⟩
        refine ⟨_,rfl,_,rfl,la',zH (zW left J.as),rfl,.inl (SqL.of (sm _ _ LA6)),rfl,xf _,_,rfl,?_⟩
        have ein : (if true = true then !inV (.int (c : Int)) (zH (zW left J.as)) else inV (.int (c : Int)) (zH (zW left J.as))) = !decide (c ∈ zW left J.as) := by rw [yj];rfl
        rw [ein,qi ec]
        refine qw (fun d => ⟨_,rfl,?_,?_,sm⟩) (fun d => ⟨?_,sm⟩)
        · have := List.length_filter_le (fun k => !decide (k ∈ zW left J.as)) (left.take i)
          rw [List.length_take] at this
          rw [zR];omega
        · rw [List.filter_append,List.filter_cons_of_pos (by exact d)]
          unfold zH
          rw [List.map_append]
          rfl
        · rw [List.filter_append,List.filter_cons_of_neg (by exact d),List.filter_nil,List.append_nil]
      rintro zs H8 ⟨rfl,sm⟩
      have etk : left.take (zH left).length = left := by rw [zR,List.take_length]
      rw [etk]
      have fre : (left.filter fun k => !decide (k ∈ zW left J.as)) = qI left J.as := rfl
      rw [fre]
      have frl : (qI left J.as).length <= left.length := List.length_filter_le _ _
      refine ⟨by rw [zR];omega,fun lf hlf => ?_⟩
      have S7 := (S6.trans (SameB.of sm)).new (o := .lst (zH (qI left J.as))) hlf
      have B7 := (B6.same sm).new (o := .lst (zH (qI left J.as))) hlf
      have LL7 := (zb (o := .lst (zH (qI left J.as))) hlf) _ _ (sm _ _ LL6)
      have LO7 := (zb (o := .lst (zH (qI left J.as))) hlf) _ _ (sm _ _ LO6)
      have LF7 : upd H8 lf (.lst (zH (qI left J.as))) lf = some (.lst (zH (qI left J.as))) := zd
      have nlf := (B6.same sm).nne hlf
      generalize upd H8 lf (.lst (zH (qI left J.as))) = H9 at S7 B7 LL7 LO7 LF7
      clear S6 B6 LL6 LO6 LA6 sm hlf
      have inr : ∀ x ∈ left,x ∈ ord := fun x hx => by
        have h1 := pm.mem_iff.mp (List.mem_append_left os hx)
        exact jo.op.mem_iff.mpr h1
      have ordnd : ord.Nodup := jo.op.nodup_iff.mpr List.nodup_range
      have fne := Ja jo.bo ordnd inr hne
      have fpos : 0 < (qI left J.as).length := List.length_pos_iff.mpr fne
      refine ⟨_,rfl,.inl ⟨rfl,_,SqL.of LO7⟩,_,rfl,_,rfl,_,rfl,lf,_,rfl,.inl (SqL.of LF7),b,_,_,rfl,B7,by omega,by rw [zR];omega,by rw [zR];omega,fun r Ha r0 r1 Ba Sa => ?_⟩
      rw [zR] at r1
      have hr' : r.toNat < (qI left J.as).length := by omega
      have er : (zH (qI left J.as))[r.toNat]? = some (.int (((qI left J.as)[r.toNat] : Nat) : Int)) := by
        unfold zH
        rw [List.getElem?_map,List.getElem?_eq_getElem hr']
        rfl
      have er' : atI (zH (qI left J.as)) r = some (.int (((qI left J.as)[r.toNat] : Nat) : Int)) := by
        have := qE er
        rwa [show ((r.toNat : Nat) : Int) = r by omega] at this
      have hcm := List.getElem_mem hr'
      generalize (qI left J.as)[r.toNat] = c at er er' hcm
      obtain ⟨cl,cn⟩ := List.mem_filter.mp hcm
      have cn' : c ∉ zW left J.as := by simpa using cn
      have LFa := Sa _ _ LF7 nlf
      have LOa := Sa _ _ LO7 n1
      have LLa := Sa _ _ LL7 n0
      refine ⟨lf,_,_,_,rfl,rfl,SqL.of LFa,er',l1,_,_,rfl,rfl,LOa,by rw [zR];omega,?_⟩
      have eO : zH os ++ [V.int (c : Int)] = zH (os ++ [c]) := by unfold zH;rw [List.map_append];rfl
      rw [eO]
      have Sb := (S7.trans Sa).put (o := .lst (zH (os ++ [c]))) N1
      have Bb := Ba.other (o := .lst (zH (os ++ [c]))) n1
      have LOb : upd Ha l1 (.lst (zH (os ++ [c]))) l1 = some (.lst (zH (os ++ [c]))) := zd
      have LLb : upd Ha l1 (.lst (zH (os ++ [c]))) l0 = some (.lst (zH left)) := by rw [zq n01];exact LLa
      generalize upd Ha l1 (.lst (zH (os ++ [c]))) = Hb at Sb Bb LOb LLb
      have elast : atI (zH (os ++ [c])) (-1) = some (.int (c : Int)) := by
        have : zH (os ++ [c]) = zH os ++ [V.int (c : Int)] := eO.symm
        rw [this]
        exact Zf _ _
      refine ⟨_,rfl,.inl ⟨rfl,_,SqL.of LLb⟩,_,rfl,_,rfl,l1,_,_,_,rfl,rfl,SqL.of LOb,elast,l0,left.map fun i : Nat => (i : Int),(c : Int),rfl,rfl,by rw [LLb,yT],List.mem_map.mpr ⟨c,cl,rfl⟩,?_⟩
      have eE : ((left.map fun i : Nat => (i : Int)).erase (c : Int)).map V.int = zH (left.erase c) := by rw [wK,yT]
      rw [eE]
      have N0 : H l0 = none := h0
      have hlen : (left.erase c).length + 1 = left.length := by
        have := List.length_erase_of_mem cl
        have := List.length_pos_of_mem cl
        omega
      refine ⟨left.erase c,os ++ [c],_,_,by omega,rfl,Sb.put N0,(Bb.other n0).mono (by rw [List.length_append];simp;omega),zd,by rw [zq n01.symm];exact LOb,?_,?_⟩
      · have h1 : (left ++ os).Perm (c :: (left.erase c) ++ os) := (List.perm_cons_erase cl).append_right os
        have h2 : (left.erase c ++ (os ++ [c])).Perm (c :: left.erase c ++ os) := by
          rw [<- List.append_assoc]
          exact List.perm_append_comm
        exact (h2.trans h1.symm).trans pm
      · refine ea.snoc fun p hp e => ?_
        have h1 : p.1 ∈ left ++ os := pm.mem_iff.mpr (jo.op.mem_iff.mp (jo.bo.mem1 hp))
        rcases List.mem_append.mp h1 with z | z
        · exact absurd (yV.mpr ⟨p,hp,z,e⟩) cn'
        · exact z
end
end L2
set_option Elab.async false
set_option linter.all false
set_option maxRecDepth 100000
set_option maxHeartbeats 4000000
namespace L2
open PySem PySem.Spec PyProof.Rows
structure qv where
  pk : List (Nat × Nat)
  ly : List Nat
def vi (k : Nat) : Dat := .int (k : Int)
def qQ (t : qv) : Dat := .tup [.tup (t.pk.map qL),.tup (t.ly.map vi)]
theorem yS : ∀ (l : List Nat),Dat.imms (l.map vi) = true
  | [] => rfl
  | k :: l => by
    show (true && Dat.imms (l.map vi)) = true
    rw [yS l];rfl
theorem wg (t : qv) : (qQ t).imm = true := by
  show (Dat.imms (t.pk.map qL) && (Dat.imms (t.ly.map vi) && true)) = true
  rw [zT,yS];rfl
theorem qY : ∀ (l : List qv),Dat.imms (l.map qQ) = true
  | [] => rfl
  | t :: l => by
    show ((qQ t).imm && Dat.imms (l.map qQ)) = true
    rw [wg,qY l];rfl
section
variable {P : Program} {w : World} {K : PySem.W.Frag} {mg : Str -> Option Value} {base : Heap}
theorem Reps.perm {H : Hp} {α : Type} {f : α -> Dat} {ys xs : List V} (h : ys.Perm xs) : ∀ {as : List α},Reps K H (as.map f) xs -> ∃ bs : List α,bs.Perm as /\ Reps K H (bs.map f) ys := by
  induction h with
  | nil => intro as h;exact ⟨as,List.Perm.refl _,h⟩
  | cons x hp ih =>
    intro as h
    cases as with
    | nil => cases (show _ = [] from h)
    | cons a as =>
      obtain ⟨y,r,e,h1,h2⟩ := h
      cases e
      obtain ⟨bs,p,q⟩ := ih h2
      exact ⟨a :: bs,p.cons a,⟨_,_,rfl,h1,q⟩⟩
  | swap x y l =>
    intro as h
    cases as with
    | nil => cases (show _ = [] from h)
    | cons a as =>
      obtain ⟨u,r,e,h1,h2⟩ := h
      cases e
      cases as with
      | nil => cases (show _ = [] from h2)
      | cons c as =>
        obtain ⟨u,r,e,h3,h4⟩ := h2
        cases e
        exact ⟨c :: a :: as,List.Perm.swap a c as,⟨_,_,rfl,h3,_,_,rfl,h1,h4⟩⟩
  | trans h1 h2 ih1 ih2 =>
    intro as h
    obtain ⟨bs,p,q⟩ := ih2 h
    obtain ⟨cs,p',q'⟩ := ih1 q
    exact ⟨cs,p'.trans p,q'⟩
theorem wE {H : Hp} : ∀ (l : List Nat),Reps K H (l.map vi) (zH l)
  | [] => rfl
  | k :: l => ⟨_,_,rfl,rfl,wE l⟩
theorem xb {H : Hp} {p : Nat × Nat} {x : V} (h : Rep K H (qL p) x) : ∃ a,x = .ref a /\ SqT K H a [.int p.1,.int p.2] := by
  obtain ⟨pa,xs,rfl,qp',y0,r0,f0,g0,y1,r1',f1,g1,f2⟩ := h
  subst f0 f1
  cases (show r1' = [] from f2)
  cases (show y0 = _ from g0)
  cases (show y1 = _ from g1)
  exact ⟨pa,rfl,qp'⟩
inductive yw (K : PySem.W.Frag) (vs : List V) (H : Hp) (Q : VK) : Prop
  | mk (b pk : Addr) (n : Int) (xs : List V) (ps : List (Nat × Nat)) (_ : vs = [.ref b,.ref pk]) (_ : BoxAt H b n) (_ : n < 900000) (_ : pk ≠ b) (_ : H pk = some (.lst xs)) (_ : Reps K H (ps.map qL) xs) (_ : ps.length <= 1000) (_ : ∀ (p : Addr) (sh : List (Nat × Nat)) H',SameB b H H' -> BoxAt H' b (n + ps.length) -> sh.Perm ps -> Rep K H' (qQ ⟨sh,ps.map (·.1)⟩) (.ref p) -> Q (.ref p) H') : yw K vs H Q
def Zq (K : PySem.W.Frag) : Sp := fun vs H Q _ => yw K vs H Q
theorem Ju : zy ["_law_box_here", "_law_picks"] ["_law_box_here", "_law_picks"] (zi (zj 26)) := ⟨rfl,rfl,rfl,by decide +kernel,rfl,by decide +kernel,by decide +kernel⟩
theorem XU {f : Addr} {fd : FuncData} (F : Fun K "_law_trip" "_law_trip" (zj 26) f fd) (B : Blt mg) (D_shuffled : Dfn P w K mg base "_law_shuffled" 2 ["_law_box_here", "_law_some"] (vB K)) : FnOk P w K mg base CX0 3 f fd ["_law_box_here", "_law_picks"] (Zq K) := by
  have nd := Ju.nd
  refine F.ok Ju (fun vs H Q E h => ?_) (fun cdv A outer s H vs Q E hr h => ?_)
  · obtain ⟨b,pk,n,xs,ps,rfl,_⟩ := h
    rfl
  · obtain ⟨b,pk,n,xs,ps,rfl,B0,hn,npb,hp,rp,lp,k⟩ := h
    have hbig : 100000 < sizeLine := by rw [sizeLine_eq];decide
    have lx : xs.length = ps.length := by have := rp.len;rwa [List.length_map] at this
    refine ⟨_,(zk (zx (zQ (za (zM zY rfl B.tuple zX (za (zg D_shuffled (hr.mono (by first | decide | exact Nat.le_refl _ | omega)) rfl (za (pv 0) (za (pv 1) zc))) zc)) (za (zM zY rfl B.tuple zX (za (xu [] [] rfl rfl (by kernel_rfl) (qV (pv 1)) (fun C0 s0 H0 ex0 => qH) (fun C0 s0 H0 ex0 => (pv 0))) zc)) zc))))),?_⟩
    refine ⟨_,rfl,_,rfl,b,pk,n,xs,rfl,B0,by omega,npb,hp,by omega,fun l ys H1 S1 B1 nl hl hL pm => ?_⟩
    have T1 := SameT.draw B0 S1
    obtain ⟨sh,shp,rsh⟩ := Reps.perm pm (rp.keep T1 (zT ps))
    have rp1 := rp.keep T1 (zT ps)
    refine ⟨l,ys,rfl,.inl ⟨SqL.of hL,fun t1 ht1 => ?_⟩⟩
    have s1 := zb (o := .tup ys) ht1
    have hp2 := s1 _ _ (S1 _ _ hp npb)
    have rp2 := rp1.same s1
    have rsh2 := rsh.same s1
    have t12 : upd H1 t1 (.tup ys) t1 = some (.tup ys) := zd
    have S2 := S1.new (o := .tup ys) ht1
    have B2 := B1.new (o := .tup ys) ht1
    generalize upd H1 t1 (.tup ys) = H2 at s1 hp2 rp2 rsh2 t12 S2 B2
    refine ⟨_,rfl,pk,rfl,⟨_,SqL.of hp2⟩,xG (K := K) (a := pk) (xs := xs) (fun i zs H3 => zs = zH ((ps.map (·.1)).take i) /\ Same H2 H3) ⟨rfl,Same.refl _⟩ (fun i zs H3 ⟨_,sm⟩ => SqL.of (sm _ _ hp2)) ?_ ?_⟩
    · rintro i x zs H3 hx ⟨rfl,sm⟩
      obtain ⟨d,e1,r1⟩ := (rp2.same sm).get hx
      rw [List.getElem?_map] at e1
      obtain ⟨p,ep,rfl⟩ := Option.map_eq_some_iff.mp e1
      obtain ⟨pa,rfl,qp⟩ := xb r1
      have hi : i < ps.length := (List.getElem?_eq_some_iff.mp ep).1
      refine ⟨pa,_,rfl,qp,rfl,_,_,rfl,_,_,rfl,rfl,rfl,?_⟩
      refine ⟨_,rfl,?_,?_,sm⟩
      · rw [zR,List.length_take,List.length_map];omega
      · have ep' : (ps.map (·.1))[i]? = some p.1 := by rw [List.getElem?_map,ep];rfl
        rw [qi ep']
        unfold zH
        rw [List.map_append]
        rfl
    rintro zs H3 ⟨rfl,sm⟩
    have etk : (ps.map (·.1)).take xs.length = ps.map (·.1) := by rw [lx,<- List.length_map (f := (·.1)),List.take_length]
    rw [etk]
    refine ⟨by rw [zR,List.length_map];omega,fun l2 hl2 => ⟨l2,_,rfl,.inl ⟨SqL.of zd,fun t2 ht2 => ⟨le2,fun q hq => ?_⟩⟩⟩⟩
    have s2 := (sm.trans (zb (o := .lst (zH (ps.map (·.1)))) hl2)).trans (zb (o := .tup (zH (ps.map (·.1)))) ht2)
    have s3 := s2.trans (zb (o := .tup [.ref t1,.ref t2]) hq)
    refine k q sh _ (S2.trans (SameB.of s3)) (B2.same s3 |>.mono (by omega)) shp ?_
    refine ⟨q,_,rfl,SqT.of zd,_,_,rfl,⟨t1,ys,rfl,SqT.of (s3 _ _ t12),rsh2.same s3⟩,_,_,rfl,⟨t2,_,rfl,SqT.of ((zb hq) _ _ zd),wE _⟩,rfl⟩
end
end L2
set_option Elab.async false
set_option linter.all false
set_option maxRecDepth 100000
set_option maxHeartbeats 4000000
namespace L2
open PySem PySem.Spec PyProof.Rows
def ZG (J : Job) (p : Nat × Nat) : Prop := ∃ pa fe,J.ps[p.1]? = some pa /\ J.fs[p.2]? = some fe /\ fe.k = pa.k
structure TripOk (J : Job) (t : qv) : Prop where
  p1 : 1 <= t.pk.length
  p2 : (t.pk.length : Int) <= J.hd
  ok : ∀ p ∈ t.pk,ZG J p
  ly : t.ly.Perm (t.pk.map (·.1))
def j4 (ts : List qv) : List Nat := ts.flatMap (·.ly)
theorem va (ts : List qv) (t : qv) : j4 (ts ++ [t]) = j4 ts ++ t.ly := by
  unfold j4
  rw [List.flatMap_append]
  simp
structure yt (J : Job) (os : List Nat) (ts : List qv) : Prop where
  tr : ∀ t ∈ ts,TripOk J t
  sub : (j4 ts).Sublist os
  len : ts.length <= 60
section
variable {P : Program} {w : World} {K : PySem.W.Frag} {mg : Str -> Option Value} {base : Heap}
structure PlS (K : PySem.W.Frag) (H : Hp) (b ls lf lp lo lq : Addr) (st : List Int) (tr pk : List V) (ou os : List Nat) (ts : List qv) (pks : List (Nat × Nat)) (H' : Hp) (n : Int) : Prop where
  s : SameB b H H'
  bx : BoxAt H' b n
  nb : ls ≠ b /\ lf ≠ b /\ lp ≠ b /\ lo ≠ b /\ lq ≠ b
  nn : ls ≠ lf /\ ls ≠ lp /\ ls ≠ lo /\ ls ≠ lq /\ lf ≠ lp /\ lf ≠ lo /\ lf ≠ lq /\ lp ≠ lo /\ lp ≠ lq /\ lo ≠ lq
  hN : H ls = none /\ H lf = none /\ H lp = none /\ H lo = none
  hs : H' ls = some (.lst (st.map V.int))
  hf : H' lf = some (.lst tr)
  hp : H' lp = some (.lst pk)
  ho : H' lo = some (.lst (zH ou))
  hq : H' lq = some (.lst (zH os))
  rt : Reps K H' (ts.map qQ) tr
  rk : Reps K H' (pks.map qL) pk
variable {H H' H'' : Hp} {b ls lf lp lo lq : Addr} {st : List Int} {tr pk : List V} {ou os : List Nat} {ts : List qv} {pks : List (Nat × Nat)} {n m : Int}
theorem PlS.draw (g : PlS K H b ls lf lp lo lq st tr pk ou os ts pks H' n) (S : SameB b H' H'') (B : BoxAt H'' b m) : PlS K H b ls lf lp lo lq st tr pk ou os ts pks H'' m := by
  obtain ⟨n1,n2,n3,n4,n5⟩ := g.nb
  have T := SameT.draw g.bx S
  exact ⟨g.s.trans S,B,g.nb,g.nn,g.hN,S _ _ g.hs n1,S _ _ g.hf n2,S _ _ g.hp n3,S _ _ g.ho n4,S _ _ g.hq n5,g.rt.keep T (qY ts),g.rk.keep T (zT pks)⟩
theorem PlS.same (g : PlS K H b ls lf lp lo lq st tr pk ou os ts pks H' n) (S : Same H' H'') : PlS K H b ls lf lp lo lq st tr pk ou os ts pks H'' n := g.draw (SameB.of S) (g.bx.same S)
theorem PlS.new {q : Addr} {o : HO} (g : PlS K H b ls lf lp lo lq st tr pk ou os ts pks H' n) (h : H' q = none) : PlS K H b ls lf lp lo lq st tr pk ou os ts pks (upd H' q o) n := g.same (zb h)
theorem PlS.mono (g : PlS K H b ls lf lp lo lq st tr pk ou os ts pks H' n) (h : n <= m) : PlS K H b ls lf lp lo lq st tr pk ou os ts pks H' m := ⟨g.s,g.bx.mono h,g.nb,g.nn,g.hN,g.hs,g.hf,g.hp,g.ho,g.hq,g.rt,g.rk⟩
theorem PlS.putO {ou' : List Nat} (g : PlS K H b ls lf lp lo lq st tr pk ou os ts pks H' n) : PlS K H b ls lf lp lo lq st tr pk ou' os ts pks (upd H' lo (.lst (zH ou'))) n := by
  obtain ⟨n1,n2,n3,n4,n5⟩ := g.nb
  obtain ⟨a1,a2,a3,a4,a5,a6,a7,a8,a9,a10⟩ := g.nn
  have T := SameT.put (ys := zH ou') g.ho
  exact ⟨g.s.put g.hN.2.2.2,g.bx.other n4,g.nb,g.nn,g.hN,by rw [zq a3];exact g.hs,by rw [zq a6];exact g.hf,by rw [zq a8];exact g.hp,zd,by rw [zq a10.symm];exact g.hq,g.rt.keep T (qY ts),g.rk.keep T (zT pks)⟩
theorem PlS.putS {st' : List Int} (g : PlS K H b ls lf lp lo lq st tr pk ou os ts pks H' n) : PlS K H b ls lf lp lo lq st' tr pk ou os ts pks (upd H' ls (.lst (st'.map V.int))) n := by
  obtain ⟨n1,n2,n3,n4,n5⟩ := g.nb
  obtain ⟨a1,a2,a3,a4,a5,a6,a7,a8,a9,a10⟩ := g.nn
  have T := SameT.put (ys := st'.map V.int) g.hs
  exact ⟨g.s.put g.hN.1,g.bx.other n1,g.nb,g.nn,g.hN,zd,by rw [zq a1.symm];exact g.hf,by rw [zq a2.symm];exact g.hp,by rw [zq a3.symm];exact g.ho,by rw [zq a4.symm];exact g.hq,g.rt.keep T (qY ts),g.rk.keep T (zT pks)⟩
theorem PlS.putF {v : V} {t : qv} (g : PlS K H b ls lf lp lo lq st tr pk ou os ts pks H' n) (hv : Rep K H' (qQ t) v) : PlS K H b ls lf lp lo lq st (tr ++ [v]) pk ou os (ts ++ [t]) pks (upd H' lf (.lst (tr ++ [v]))) n := by
  obtain ⟨n1,n2,n3,n4,n5⟩ := g.nb
  obtain ⟨a1,a2,a3,a4,a5,a6,a7,a8,a9,a10⟩ := g.nn
  have T := SameT.put (ys := tr ++ [v]) g.hf
  refine ⟨g.s.put g.hN.2.1,g.bx.other n2,g.nb,g.nn,g.hN,by rw [zq a1];exact g.hs,zd,by rw [zq a5.symm];exact g.hp,by rw [zq a6.symm];exact g.ho,by rw [zq a7.symm];exact g.hq,?_,g.rk.keep T (zT pks)⟩
  rw [List.map_append]
  exact Reps.snoc (hv.keep T (wg t)) (g.rt.keep T (qY ts))
theorem PlS.putP {v : V} {p : Nat × Nat} (g : PlS K H b ls lf lp lo lq st tr pk ou os ts pks H' n) (hv : Rep K H' (qL p) v) : PlS K H b ls lf lp lo lq st tr (pk ++ [v]) ou os ts (pks ++ [p]) (upd H' lp (.lst (pk ++ [v]))) n := by
  obtain ⟨n1,n2,n3,n4,n5⟩ := g.nb
  obtain ⟨a1,a2,a3,a4,a5,a6,a7,a8,a9,a10⟩ := g.nn
  have T := SameT.put (ys := pk ++ [v]) g.hp
  refine ⟨g.s.put g.hN.2.2.1,g.bx.other n3,g.nb,g.nn,g.hN,by rw [zq a2];exact g.hs,by rw [zq a5];exact g.hf,zd,by rw [zq a8.symm];exact g.ho,by rw [zq a9.symm];exact g.hq,g.rt.keep T (qY ts),?_⟩
  rw [List.map_append]
  exact Reps.snoc (hv.keep T (by rfl)) (g.rk.keep T (zT pks))
theorem PlS.newP {q : Addr} (g : PlS K H b ls lf lp lo lq st tr pk ou os ts pks H' n) (h : H' q = none) : PlS K H b ls lf q lo lq st tr [] ou os ts [] (upd H' q (.lst [])) n := by
  obtain ⟨n1,n2,n3,n4,n5⟩ := g.nb
  obtain ⟨a1,a2,a3,a4,a5,a6,a7,a8,a9,a10⟩ := g.nn
  have g' := g.new (o := .lst []) h
  have nq := g.bx.nne h
  exact ⟨g'.s,g'.bx,⟨n1,n2,nq,n4,n5⟩,⟨a1,zn g.hs h,a3,a4,zn g.hf h,a6,a7,(zn g.ho h).symm,(zn g.hq h).symm,a10⟩,⟨g.hN.1,g.hN.2.1,g.s.none h nq,g.hN.2.2.2⟩,g'.hs,g'.hf,zd,g'.ho,g'.hq,g'.rt,rfl⟩
end
end L2
set_option Elab.async false
set_option linter.all false
set_option maxRecDepth 100000
set_option maxHeartbeats 4000000
namespace L2
open PySem PySem.Spec PyProof.Rows
inductive Wo (t : TT) (σ : St) (H : Hp) (Q : Bool -> Hp -> Prop) : Prop
  | mk (J : Bool -> Hp -> Prop) (_ : t σ H J) (_ : ∀ c H',J c H' -> Q c H') : Wo t σ H Q
theorem Z6 {X : Cx} {e : Expr} {t : TT} (h : PT X e t) : PT X e (Wo t) := by
  intro pins s σ H Q I hw
  obtain ⟨J,q1,q2⟩ := hw
  exact thn (h pins s σ H J I q1) fun c s1 ⟨H1,I1,q⟩ => ⟨H1,I1,q2 _ _ q⟩
section
variable {P : Program} {w : World} {K : PySem.W.Frag} {mg : Str -> Option Value} {base : Heap}
theorem xX {H : Hp} {p : Je} {x : V} (h : Rep K H (jg p) x) : ∃ a c,x = .ref a /\ SqT K H a [.str p.k,.ref c,.int p.m] /\ SqT K H c [.int p.x,.int p.y] := by
  obtain ⟨a,xs,rfl,q,y0,r0,f0,g0,y1,r1,f1,g1,y2,r2,f2,g2,f3⟩ := h
  subst f0 f1 f2
  cases (show r2 = [] from f3)
  cases (show y0 = _ from g0)
  cases (show y2 = _ from g2)
  obtain ⟨c,ys,rfl,q',z0,s0,e0,i0,z1,s1,e1,i1,e2⟩ := g1
  subst e0 e1
  cases (show s1 = [] from e2)
  cases (show z0 = _ from i0)
  cases (show z1 = _ from i1)
  exact ⟨a,c,rfl,q,q'⟩
theorem wB {H : Hp} {p : Zh} {x : V} (h : Rep K H (qK p) x) : ∃ a c,x = .ref a /\ SqT K H a [.str p.k,.ref c] /\ SqT K H c [.int p.x,.int p.y] := by
  obtain ⟨a,xs,rfl,q,y0,r0,f0,g0,y1,r1,f1,g1,f3⟩ := h
  subst f0 f1
  cases (show r1 = [] from f3)
  cases (show y0 = _ from g0)
  obtain ⟨c,ys,rfl,q',z0,s0,e0,i0,z1,s1,e1,i1,e2⟩ := g1
  subst e0 e1
  cases (show s1 = [] from e2)
  cases (show z0 = _ from i0)
  cases (show z1 = _ from i1)
  exact ⟨a,c,rfl,q,q'⟩
theorem ZE {H : Hp} {α : Type} {f : α -> Dat} {as : List α} {xs : List V} (h : Reps K H (as.map f) xs) {i : Nat} {a : α} (hi : as[i]? = some a) : ∃ v,xs[i]? = some v /\ Rep K H (f a) v := by
  have hl := h.len
  rw [List.length_map] at hl
  have hlt : i < xs.length := by have := (List.getElem?_eq_some_iff.mp hi).1;omega
  obtain ⟨d,e,r⟩ := h.get (i := i) (x := xs[i]) (by simp [hlt])
  rw [List.getElem?_map,hi] at e
  cases e
  exact ⟨xs[i],by simp [hlt],r⟩
inductive yz (K : PySem.W.Frag) (vs : List V) (H : Hp) (Q : VK) : Prop
  | mk (b jp : Addr) (J : Job) (ord : List Nat) (most n : Int) (_ : vs = [.ref b,.ref jp,.int most]) (_ : BoxAt H b n) (_ : n < 500000) (_ : Rep K H (jR J) (.ref jp)) (_ : jh J ord) (_ : 0 <= most) (_ : most <= 100) (_ : ∀ (l : Addr) (os : List Nat) (ts : List qv) (tr : List V) H',SameB b H H' -> BoxAt H' b (n + 1000) -> l ≠ b -> H l = none -> H' l = some (.lst tr) -> Reps K H' (ts.map qQ) tr -> os.Perm (List.range J.ps.length) -> ByOrd os J.as -> yt J os ts -> Q (.ref l) H') : yz K vs H Q
def Zr (K : PySem.W.Frag) : Sp := fun vs H Q _ => yz K vs H Q
theorem Jy : zy ["_law_box_here", "_law_job_here", "_law_most", "_law_stock", "_law_found", "_law_picks", "_law_out", "_law_part", "_law_some", "_law_lost", "_law_at"] ["_law_box_here", "_law_job_here", "_law_most"] (zi (zj 27)) := ⟨rfl,rfl,rfl,by decide +kernel,rfl,by decide +kernel,by decide +kernel⟩
def QE (b : _) (jp : _) (most : _) (ls : _) (lf : _) (lo : _) (K : _) (H : _) (lq : _) (os : _) (n : Int) (J : Job) := fun (i : Nat) (σ : St) (H' : Hp) => (WY fun (lp : Addr) (v7 v8 v9 v10 : Option V) (st : List Int) (tr pk : List V) (ou : List Nat) (ts : List qv) (pks : List (Nat × Nat)) => An9 (σ = [some (.ref b),some (.ref jp),some (.int most),some (.ref ls),some (.ref lf),some (.ref lp),some (.ref lo),v7,v8,v9,v10]) (PlS K H b ls lf lp lo lq st tr pk ou os ts pks H' (n + 60 + 10 * i)) (st.length = J.fs.length) ((∀ t ∈ ts,TripOk J t)) ((∀ p ∈ pks,ZG J p)) ((pks.length : Int) < J.hd) ((j4 ts ++ pks.map (·.1)).Sublist (os.take i)) (ts.length + pks.length <= i) (ou.length <= i) : Prop)
def QD (J : Job) (pa : Zh) (H8 : _) := fun (i' : Nat) (zs : List V) (H9 : Hp) => (Ex1 fun (ks : List Nat) => An4 (zs = zH ks) (ks.length <= i') ((∀ k' ∈ ks,∃ fe,J.fs[k']? = some fe /\ fe.k = pa.k)) (Same H8 H9) : Prop)
def QC (b : _) (jp : _) (most : _) (ls : _) (lf : _) (lp : _) (lo : _) (c : Nat) (lm : _) (v10 : _) (H8 : _) (ks : _) := fun (σ' : St) (H' : Hp) => (Ex1 fun (lost : Bool) => An4 (σ' = [some (.ref b),some (.ref jp),some (.int most),some (.ref ls),some (.ref lf),some (.ref lp),some (.ref lo),some (.int (c : Int)),some (.ref lm),some (.bl lost),v10]) (Same H8 H') (H' lm = some (.lst (zH ks))) ((lost = false -> ks ≠ [])) : Prop)
def QB (b : _) (jp : _) (most : _) (ls : _) (lf : _) (lp : _) (lo : _) (c : Nat) (lm : _) (lost : _) (K : _) (H : _) (lq : _) (tr : _) (os : _) (ts : List qv) (n : Int) (i : Nat) (J : Job) := fun (σ' : St) (H' : Hp) => (Ex5 fun (v10 : Option V) (st' : List Int) (pk' : List V) (ou' : List Nat) (pks' : List (Nat × Nat)) => An8 (σ' = [some (.ref b),some (.ref jp),some (.int most),some (.ref ls),some (.ref lf),some (.ref lp),some (.ref lo),some (.int (c : Int)),some (.ref lm),some (.bl lost),v10]) (PlS K H b ls lf lp lo lq st' tr pk' ou' os ts pks' H' (n + 60 + 10 * i + 3)) (st'.length = J.fs.length) ((∀ p ∈ pks',ZG J p)) ((pks'.length : Int) <= J.hd) ((j4 ts ++ pks'.map (·.1)).Sublist (os.take (i + 1))) (ts.length + pks'.length <= i + 1) (ou'.length <= i + 1) : Prop)
theorem XX {f : Addr} {fd : FuncData} (F : Fun K "_law_plan" "_law_plan" (zj 27) f fd) (B : Blt mg) (D_take : Dfn P w K mg base "_law_take" 1 ["_law_box_here", "_law_size"] qM) (D_order : Dfn P w K mg base "_law_order" 2 ["_law_box_here", "_law_job_here"] (wX K)) (D_trip : Dfn P w K mg base "_law_trip" 3 ["_law_box_here", "_law_picks"] (Zq K)) : FnOk P w K mg base CX0 4 f fd ["_law_box_here", "_law_job_here", "_law_most"] (Zr K) := by
  have nd := Jy.nd
  refine F.ok Jy (fun vs H Q E h => ?_) (fun cdv A outer s H vs Q E hr h => ?_)
  · obtain ⟨b,jp,J,ord,most,n,rfl,_⟩ := h
    rfl
  · obtain ⟨b,jp,J,ord,most,n,rfl,B0,hn,rj,jo,mo0,mo1,k⟩ := h
    have hu := hr.units0
    have hbig : 100000 < sizeLine := by rw [sizeLine_eq];decide
    have pl := jo.pl
    have al := jo.al
    have fl := jo.fl
    have hd0 := jo.hd0
    have hd1 := jo.hd1
    obtain ⟨g,fs,ps,as,qj,_,rf,rp,ra⟩ := jA rj
    obtain ⟨fv,qf,rf'⟩ := jb rf
    obtain ⟨pv',qp,rp'⟩ := jb rp
    obtain ⟨av,qa,ra'⟩ := jb ra
    have lfv := rf'.len
    rw [List.length_map] at lfv
    have lp := rp'.len
    rw [List.length_map] at lp
    have la := ra'.len
    rw [List.length_map] at la
    refine ⟨_,(zf (zt (i := 3) nd rfl (Or.inr rfl) (jH [] [] rfl rfl (by kernel_rfl) (jG (zr zL (pv 1) ze (fun _ _ => rfl))) (fun C0 s0 H0 ex0 => qH) (fun C0 s0 H0 ex0 => (zr (qo (K := K) rfl) (pv 0) ze (fun _ _ => rfl)))))
      (zf (jW (zQ (za (zA zc) (za (zA zc) (za (zA zc) zc)))) (jy rfl (zN (zF (i := 4) nd rfl (Or.inl rfl)) (zN (zF (i := 5) nd rfl (Or.inl rfl)) (zN (zF (i := 6) nd rfl (Or.inr rfl)) jc)))))
      (zf (qy PassesOwn.never rfl (qV (zg D_order (hr.mono (by first | decide | exact Nat.le_refl _ | omega)) rfl (za (pv 0) (za (pv 1) zc)))) (zF (i := 7) nd rfl (Or.inr rfl))
      (zf (JH ["_law_stock", "_law_part", "_law_job_here"] [3,7,1] rfl rfl (by kernel_rfl) (JN rfl B.enumerate (za (zr zL (pv 1) ze (fun _ _ => rfl)) zc)) (fun C0 s0 H0 ex0 => (yc (PW.pt (yb (zG qB (zr (qo (K := K) rfl) (pv 1) ze (fun _ _ => rfl)) (zr (qo (K := K) rfl) (zr (qo (K := K) rfl) (zr (qo (K := K) rfl) (pv 4) ze (fun _ _ => rfl)) (pv 3) (fun _ _ => rfl)) ze (fun _ _ => rfl)) (zE _)) (vp (zG wD (zr (vR (K := K) rfl) (pv 2) (pv 0) (fun _ _ => rfl)) ze (zE _))))))) (fun C0 s0 H0 ex0 => (pv 0)) (zF (i := 8) nd rfl (Or.inl rfl)))
        (zf (qU (zt (i := 9) nd rfl (Or.inl rfl) (WE (qm (yO hu) (pv 8) (zA zc) (zE _)) (xt (zo (Jd rfl) rfl B.any XB (za (xu ["_law_part", "_law_out"] [7,6] rfl rfl (by kernel_rfl) (jG (zr zL (pv 1) ze (fun _ _ => rfl))) (fun C0 s0 H0 ex0 => qH) (fun C0 s0 H0 ex0 => (xw (qm qB (pv 1) (pv 2) (zE _)) (xt (qm (xx (K := K) rfl) (pv 0) (pv 3) (by with_unfolding_all rfl)))))) zc))))))
        (zf (qU (qJ (Z6 (PW.pt (jP (qD (pv 9)) (jE (PW.pt (yb (zG wD (pv 2) ze (zE _)) (vp (zG qB (zg D_take (hr.mono (by first | decide | exact Nat.le_refl _ | omega)) rfl (za (pv 0) (za (pv 2) zc))) ze (zE _)))))))))
        (zk (qx (jn PySem.F.plainAttrs_list PySem.F.slot_list_append PySem.F.type_list_append qA (pv 6) (za (pv 7) zc))))
        (zf (zt (i := 10) nd rfl (Or.inl rfl) (zr zJ (pv 8) (zg D_take (hr.mono (by first | decide | exact Nat.le_refl _ | omega)) rfl (za (pv 0) (za (zo zC rfl B.len boot_len (za (pv 8) zc)) zc))) (fun _ _ => rfl)))
          (zf (jW (zp qz (zr zJ (pv 3) (pv 10) (fun _ _ => rfl)) ze) (vN (pv 3) (pv 10) jT))
          (zk (qx (jn PySem.F.plainAttrs_list PySem.F.slot_list_append PySem.F.type_list_append qA (pv 5) (za (zQ (za (pv 7) (za (pv 10) zc))) zc))))))))
        (zk (qJ (Z6 (PW.pt (yb (zG (xF hu) (pv 5) (zA zc) (zE _)) (vp (PW.pt (jP (zG qB (zo zC rfl B.len boot_len (za (pv 5) zc)) (zr zL (pv 1) ze (fun _ _ => rfl)) (zE _)) (jE (zG qB (zg D_take (hr.mono (by first | decide | exact Nat.le_refl _ | omega)) rfl (za (pv 0) (za ze zc))) ze (zE _)))))))))
        (zf (qx (jn PySem.F.plainAttrs_list PySem.F.slot_list_append PySem.F.type_list_append qA (pv 4) (za (zg D_trip (hr.mono (by first | decide | exact Nat.le_refl _ | omega)) rfl (za (pv 0) (za (pv 5) zc))) zc)))
          (zk (zt (i := 5) nd rfl (Or.inl rfl) (zA zc))))
        qk))))))
      (zk (zx (zp qP (pv 4) (zp xV (zA (za (zg D_trip (hr.mono (by first | decide | exact Nat.le_refl _ | omega)) rfl (za (pv 0) (za (pv 5) zc))) zc)) (zM jB rfl B.int jd (za (qm (xF hu) (pv 5) (zA zc) (zE _)) zc))))))))),?_⟩
    refine ⟨_,rfl,jp,_,_,_,rfl,rfl,qj,rfl,fs,rfl,⟨_,qf⟩,j3 (K := K) (a := fs) (xs := fv) (fun i zs H1 => zs = ((J.fs.take i).map (·.m)).map V.int /\ Same H H1) ⟨rfl,Same.refl _⟩ (fun i zs H1 ⟨_,sm⟩ => sm.sqT qf) ?_ ?_⟩
    · rintro i x zs H1 hx ⟨rfl,sm⟩
      obtain ⟨d,e1,r1⟩ := (rf'.same sm).get hx
      rw [List.getElem?_map] at e1
      obtain ⟨p,ep,rfl⟩ := Option.map_eq_some_iff.mp e1
      obtain ⟨a,c,rfl,q,q'⟩ := xX r1
      have hi : i < J.fs.length := (List.getElem?_eq_some_iff.mp ep).1
      refine ⟨rfl,⟨_,rfl,a,_,_,_,rfl,rfl,q,rfl,?_,?_,sm⟩⟩
      · rw [List.length_map,List.length_map,List.length_take];omega
      · rw [qi ep,List.map_append,List.map_append];rfl
    rintro zs H1 ⟨rfl,sm⟩
    have etk : J.fs.take fv.length = J.fs := by rw [lfv,List.take_length]
    rw [etk]
    refine ⟨by rw [List.length_map,List.length_map];omega,fun ls hls => ?_⟩
    have st0l : (J.fs.map (·.m)).length = J.fs.length := List.length_map ..
    generalize J.fs.map (·.m) = st0 at st0l
    have S1 := (SameB.of (b := b) sm).new (o := .lst (st0.map V.int)) hls
    have B1 := (B0.same sm).new (o := .lst (st0.map V.int)) hls
    have LS : upd H1 ls (.lst (st0.map V.int)) ls = some (.lst (st0.map V.int)) := zd
    have NS : H ls = none := (SameB.of (b := b) sm).none hls ((B0.same sm).nne hls)
    have nsb := (B0.same sm).nne hls
    generalize upd H1 ls (.lst (st0.map V.int)) = H2 at S1 B1 LS
    refine ⟨le0,fun lf hlf => ⟨le0,fun lp' hlp => ⟨le0,fun lo hlo => ⟨le3,fun t ht => ?_⟩⟩⟩⟩
    have nfb := B1.nne hlf
    have NF := S1.none hlf nfb
    have S2 := S1.new (o := .lst []) hlf
    have B2 := B1.new (o := .lst []) hlf
    have LS2 := (zb (o := .lst []) hlf) _ _ LS
    have LF2 : upd H2 lf (.lst []) lf = some (.lst []) := zd
    generalize upd H2 lf (.lst []) = H3 at S2 B2 LS2 LF2 hlp hlo ht
    have npb := B2.nne hlp
    have NP := S2.none hlp npb
    have S3 := S2.new (o := .lst []) hlp
    have B3 := B2.new (o := .lst []) hlp
    have LS3 := (zb (o := .lst []) hlp) _ _ LS2
    have LF3 := (zb (o := .lst []) hlp) _ _ LF2
    have LP3 : upd H3 lp' (.lst []) lp' = some (.lst []) := zd
    generalize upd H3 lp' (.lst []) = H4 at S3 B3 LS3 LF3 LP3 hlo ht
    have nob := B3.nne hlo
    have NO := S3.none hlo nob
    have S4 := S3.new (o := .lst []) hlo
    have B4 := B3.new (o := .lst []) hlo
    have LS4 := (zb (o := .lst []) hlo) _ _ LS3
    have LF4 := (zb (o := .lst []) hlo) _ _ LF3
    have LP4 := (zb (o := .lst []) hlo) _ _ LP3
    have LO4 : upd H4 lo (.lst []) lo = some (.lst []) := zd
    have a1 : ls ≠ lf := zn LS hlf
    have a2 : ls ≠ lp' := zn LS2 hlp
    have a3 : ls ≠ lo := zn LS3 hlo
    have a5 : lf ≠ lp' := zn LF2 hlp
    have a6 : lf ≠ lo := zn LF3 hlo
    have a8 : lp' ≠ lo := zn LP3 hlo
    generalize upd H4 lo (.lst []) = H5 at S4 B4 LS4 LF4 LP4 LO4 ht
    have s5 := zb (o := .tup [.ref lf,.ref lp',.ref lo]) ht
    have T5 : upd H5 t (.tup [.ref lf,.ref lp',.ref lo]) t = some (.tup [.ref lf,.ref lp',.ref lo]) := zd
    have S5 := S4.new (o := .tup [.ref lf,.ref lp',.ref lo]) ht
    have B5 := B4.new (o := .tup [.ref lf,.ref lp',.ref lo]) ht
    have LS5 := s5 _ _ LS4
    have LF5 := s5 _ _ LF4
    have LP5 := s5 _ _ LP4
    have LO5 := s5 _ _ LO4
    generalize upd H5 t (.tup [.ref lf,.ref lp',.ref lo]) = H6 at s5 T5 S5 B5 LS5 LF5 LP5 LO5
    refine ⟨t,_,rfl,SqT.of T5,rfl,_,_,rfl,_,_,rfl,_,_,rfl,rfl,?_⟩
    clear S1 S2 S3 S4 B1 B2 B3 B4 LS LS2 LS3 LS4 LF2 LF3 LF4 LP3 LP4 LO4 hls hlf hlp hlo ht s5 T5
    have rj6 := rj.keep (SameT.draw B0 S5) (xH J)
    refine ⟨_,rfl,_,rfl,b,jp,J,ord,n,rfl,B5.mono (by omega),by omega,rj6,jo,fun lq os H7 S7 B7 nqb hqN LQ7 pm ob => ?_⟩
    have osl : os.length = J.ps.length := by have := pm.length_eq;rwa [List.length_range] at this
    have a4 : ls ≠ lq := zn LS5 hqN
    have a7 : lf ≠ lq := zn LF5 hqN
    have a9 : lp' ≠ lq := zn LP5 hqN
    have a10 : lo ≠ lq := zn LO5 hqN
    have g0 : PlS K H b ls lf lp' lo lq st0 [] [] [] os [] [] H7 (n + 60) := ⟨S5.trans S7,B7,⟨nsb,nfb,npb,nob,nqb⟩,⟨a1,a2,a3,a4,a5,a6,a7,a8,a9,a10⟩,⟨NS,NF,NP,NO⟩,S7 _ _ LS5 nsb,S7 _ _ LF5 nfb,S7 _ _ LP5 npb,S7 _ _ LO5 nob,LQ7,rfl,rfl⟩
    clear S5 S7 B5 B7 LS5 LF5 LP5 LO5 LQ7 hqN rj6 sm
    refine ⟨lq,rfl,⟨_,SqL.of g0.hq⟩,xJ (K := K) (a := lq) (xs := zH os) (QE b jp most ls lf lo K H lq os n J)
      ⟨lp',none,none,none,none,st0,[],[],[],[],[],rfl,g0.mono (by omega),st0l,(fun _ h => nomatch h),(fun _ h => nomatch h),(by show ((0 : Nat) : Int) < _;omega),List.Sublist.refl _,Nat.le_refl _,Nat.le_refl _⟩
      (fun i σ H' _ ⟨_,_,_,_,_,_,_,_,_,_,_,_,g,_,_,_,_,_,_,_⟩ => SqL.of g.hq) ?_ ?_⟩
    · rintro i x σ H8 hx ⟨lp,v7,v8,v9,v10,st,tr,pk,ou,ts,pks,rfl,g,stl,tok,pok,pkl,sub,cnt,oul⟩
      obtain ⟨c,ec,rfl⟩ := yU hx
      have hi : i < os.length := (List.getElem?_eq_some_iff.mp ec).1
      have hc : c < J.ps.length := List.mem_range.mp (pm.mem_iff.mp (List.mem_of_getElem? ec))
      obtain ⟨pa,epa⟩ : ∃ pa,J.ps[c]? = some pa := ⟨J.ps[c],by simp [hc]⟩
      have T8 := SameT.draw B0 g.s
      have qj8 := qj.keep T8
      have qf8 := qf.keep T8
      have qp8 := qp.keep T8
      have qa8 := qa.keep T8
      have rf8 := rf'.keep T8 (jk J.fs)
      have rp8 := rp'.keep T8 (qG J.ps)
      have ra8 := ra'.keep T8 (zT J.as)
      obtain ⟨pv0,epv,rpv⟩ := ZE rp8 epa
      obtain ⟨pad,pac,rfl,qpa,_⟩ := wB rpv
      refine ⟨_,rfl,jp,_,_,_,rfl,rfl,qj8,rfl,fs,rfl,⟨_,qf8⟩,Xg (K := K) (a := fs) (xs := fv) (QD J pa H8) ⟨[],rfl,Nat.le_refl _,(fun _ h => nomatch h),Same.refl _⟩ (fun i' zs H9 ⟨_,_,_,_,sm⟩ => sm.sqT qf8) ?_ ?_⟩
      · rintro i' x zs H9 T hx' ⟨ks,rfl,kl,kk,sm⟩ hT
        obtain ⟨d,e1,r1⟩ := (rf8.same sm).get hx'
        rw [List.getElem?_map] at e1
        obtain ⟨fe,efe,rfl⟩ := Option.map_eq_some_iff.mp e1
        have hi' : i' < J.fs.length := (List.getElem?_eq_some_iff.mp efe).1
        have sT := sm.trans (zb (o := .tup [.int (i' : Int),x]) hT)
        obtain ⟨fa,fc,rfl,qfa,_⟩ := xX (r1.same (zb (o := .tup [.int (i' : Int),x]) hT))
        refine ⟨T,_,rfl,SqT.of zd,rfl,_,_,rfl,_,_,rfl,rfl,rfl,?_⟩
        refine ⟨_,rfl,fa,_,_,_,rfl,rfl,qfa,rfl,_,rfl,jp,_,_,_,rfl,rfl,sT.sqT qj8,rfl,_,rfl,ps,_,_,_,rfl,rfl,sT.sqT qp8,qE epv,pad,_,_,_,rfl,rfl,sT.sqT qpa,rfl,rfl,_,rfl,qw (fun c1 => ?_) (fun c1 => ?_)⟩
        · have ek : fe.k = pa.k := by have := of_decide_eq_true c1;exact V.str.inj this
          have hst : i' < st.length := by omega
          refine ⟨_,rfl,_,rfl,ls,_,_,.int st[i'],rfl,rfl,SqL.of (sT _ _ g.hs),qE (by rw [List.getElem?_map,List.getElem?_eq_getElem hst];rfl),_,_,rfl,rfl,_,rfl,qw (fun c2 => ?_) (fun c2 => ?_)⟩
          · refine ⟨_,rfl,by rw [zR];omega,ks ++ [i'],?_,by rw [List.length_append];show _ + 1 <= _;omega,fun k' hk' => ?_,sT⟩
            · unfold zH
              rw [List.map_append]
              rfl
            · rcases List.mem_append.mp hk' with z | z
              · exact kk k' z
              · rw [List.mem_singleton.mp z]
                exact ⟨fe,efe,ek⟩
          · exact ⟨ks,rfl,by omega,kk,sT⟩
        · exact ifF rfl ⟨ks,rfl,by omega,kk,sT⟩
      rintro zs H9 ⟨ks,rfl,kl,kk,sm⟩
      refine ⟨by rw [zR];omega,fun lm hlm => ?_⟩
      have sm1 := sm.trans (zb (o := .lst (zH ks)) hlm)
      have LM : upd H9 lm (.lst (zH ks)) lm = some (.lst (zH ks)) := zd
      have nmb : lm ≠ b := (g.same sm).bx.nne hlm
      generalize upd H9 lm (.lst (zH ks)) = Ha at sm1 LM
      clear sm hlm
      refine ⟨QC b jp most ls lf lp lo c lm v10 H8 ks,?_,?_⟩
      · refine ⟨_,rfl,le0,fun q hq => ⟨lm,q,zH ks,rfl,rfl,SqL.of ((zb hq) _ _ LM),SqL.of zd,_,rfl,qw (fun c1 => ?_) (fun c1 => ?_)⟩⟩
        · exact ⟨true,rfl,sm1.trans (zb hq),(zb hq) _ _ LM,fun z => nomatch z⟩
        · have kne : ks ≠ [] := fun z => c1 (by rw [z];rfl)
          have sm2 := sm1.trans (zb (o := .lst []) hq)
          have LM2 := (zb (o := .lst []) hq) _ _ LM
          generalize upd Ha q (.lst []) = Hb at sm2 LM2
          refine ⟨_,rfl,jp,_,_,_,rfl,rfl,sm2.sqT qj8,rfl,as,rfl,⟨_,sm2.sqT qa8⟩,j3 (K := K) (a := as) (xs := av) (fun i' zs H9 => ∃ bs : List Bool,zs = bs.map V.bl /\ bs.length <= i' /\ Same Hb H9) ⟨[],rfl,Nat.le_refl _,Same.refl _⟩ (fun i' zs H9 ⟨_,_,_,sm⟩ => (sm2.trans sm).sqT qa8) ?_ ?_⟩
          · rintro i' x zs H9 hx' ⟨bs,rfl,bl,sm⟩
            obtain ⟨d,e1,r1⟩ := (ra8.same (sm2.trans sm)).get hx'
            rw [List.getElem?_map] at e1
            obtain ⟨p,ep,rfl⟩ := Option.map_eq_some_iff.mp e1
            obtain ⟨pp,rfl,qpp⟩ := xb r1
            have hi' : i' < J.as.length := (List.getElem?_eq_some_iff.mp ep).1
            refine ⟨pp,_,rfl,qpp,rfl,_,_,rfl,_,_,rfl,rfl,rfl,?_⟩
            refine ⟨_,rfl,_,rfl,rfl,_,rfl,qw (fun c2 => ?_) (fun c2 => ?_)⟩
            · refine ⟨_,rfl,_,rfl,lo,zH ou,rfl,.inl (SqL.of ((sm2.trans sm) _ _ g.ho)),rfl,xf _,by rw [List.length_map];omega,bs ++ [inV (.int (p.1 : Int)) (zH ou)],?_,by rw [List.length_append];show _ + 1 <= _;omega,sm⟩
              rw [List.map_append]
              rfl
            · refine ⟨by rw [List.length_map];omega,bs ++ [false],?_,by rw [List.length_append];show _ + 1 <= _;omega,sm⟩
              rw [List.map_append]
              rfl
          · rintro zs H9 ⟨bs,rfl,bl,sm⟩
            refine ⟨by rw [List.length_map];omega,fun D hD => ⟨D,bs,rfl,SqL.of zd,?_⟩⟩
            have sm3 := (sm2.trans sm).trans (zb (o := .lst (bs.map V.bl)) hD)
            exact ⟨bs.any id,rfl,sm3,(zb (o := .lst (bs.map V.bl)) hD) _ _ (sm _ _ LM2),fun _ => kne⟩
      rintro σ' Hb ⟨lost,rfl,sm2,LM2,kne⟩
      have g2 := g.same sm2
      clear sm1 LM
      have sub1 : (j4 ts ++ pks.map (·.1)).Sublist (os.take (i + 1)) := sub.trans (by rw [qi ec];exact List.sublist_append_left _ _)
      have eO : zH ou ++ [V.int (c : Int)] = zH (ou ++ [c]) := by unfold zH;rw [List.map_append];rfl
      refine ⟨QB b jp most ls lf lp lo c lm lost K H lq tr os ts n i J,?_,?_⟩
      · have outC : ∀ (H' : Hp) (m : Int),PlS K H b ls lf lp lo lq st tr pk ou os ts pks H' m -> m <= n + 60 + 10 * i + 3 -> PlS K H b ls lf lp lo lq st tr pk (ou ++ [c]) os ts pks (upd H' lo (.lst (zH ou ++ [V.int (c : Int)]))) (n + 60 + 10 * i + 3) := fun H' m g' hm => by
          rw [eO]
          exact (g'.mono hm).putO
        have oul2 : (ou ++ [c]).length <= i + 1 := by rw [List.length_append];show _ + 1 <= _;omega
        refine ⟨fun (d : Bool) (H' : Hp) => PlS K H b ls lf lp lo lq st tr pk ou os ts pks H' (n + 60 + 10 * i + 1) /\ H' lm = some (.lst (zH ks)) /\ (d = false -> ks ≠ []),?_,?_⟩
        · refine ⟨_,rfl,_,rfl,qw (fun c1 => ⟨g2.mono (by omega),LM2,(fun z => nomatch z)⟩) (fun c1 => ?_)⟩
          have kne' := kne (by simpa using c1)
          exact ⟨_,rfl,_,_,rfl,rfl,_,rfl,qw (fun c2 => ⟨_,rfl,_,rfl,b,most,_,rfl,g2.bx,by omega,of_decide_eq_true c2,by omega,fun r Hc r0 r1 Bc Sc => ⟨rfl,_,rfl,(g2.draw Sc Bc).mono (by omega),Sc _ _ LM2 nmb,fun _ => kne'⟩⟩) (fun c2 => ⟨g2.mono (by omega),LM2,fun _ => kne'⟩)⟩
        rintro d Hc ⟨g3,LM3,kn⟩
        refine qw (fun c1 => ?_) (fun c1 => ?_)
        · exact ⟨_,rfl,.inl ⟨rfl,_,SqL.of g3.ho⟩,_,rfl,lo,_,_,rfl,rfl,g3.ho,by rw [zR];omega,_,st,pk,ou ++ [c],pks,rfl,outC _ _ g3 (by omega),stl,pok,by omega,sub1,by omega,oul2⟩
        · have kpos : 0 < ks.length := List.length_pos_iff.mpr (kn (by simpa using c1))
          refine ⟨_,rfl,_,rfl,_,rfl,lm,_,rfl,.inl (SqL.of LM3),b,_,_,rfl,g3.bx,by omega,by rw [zR];omega,by rw [zR];omega,fun r' Hd r0' r1' Bd Sd => ?_⟩
          rw [zR] at r1'
          have hr' : r'.toNat < ks.length := by omega
          have er' : atI (zH ks) r' = some (.int ((ks[r'.toNat] : Nat) : Int)) := by
            have er : (zH ks)[r'.toNat]? = some (.int ((ks[r'.toNat] : Nat) : Int)) := by
              unfold zH
              rw [List.getElem?_map,List.getElem?_eq_getElem hr']
              rfl
            have := qE er
            rwa [show ((r'.toNat : Nat) : Int) = r' by omega] at this
          obtain ⟨fe,efe,ekf⟩ := kk _ (List.getElem_mem hr')
          generalize ks[r'.toNat] = kf at er' efe
          have hkf : kf < J.fs.length := (List.getElem?_eq_some_iff.mp efe).1
          have hst : kf < st.length := by omega
          have g5 := g3.draw Sd Bd
          refine ⟨lm,_,_,_,rfl,rfl,SqL.of (Sd _ _ LM3 nmb),er',?_⟩
          refine ⟨_,rfl,_,rfl,ls,_,_,.int st[kf],rfl,rfl,SqL.of g5.hs,qE (by rw [List.getElem?_map,List.getElem?_eq_getElem hst];rfl),_,_,rfl,rfl,_,rfl,_,rfl,ls,_,_,kf,rfl,rfl,g5.hs,Qf (by rw [List.length_map];omega),?_⟩
          have eS : (st.map V.int).set kf (V.int (st[kf] - 1)) = (st.set kf (st[kf] - 1)).map V.int := by rw [List.map_set]
          rw [eS]
          have g6 := g5.putS (st' := st.set kf (st[kf] - 1))
          generalize upd Hd ls (.lst ((st.set kf (st[kf] - 1)).map V.int)) = He at g6
          refine ⟨_,rfl,.inl ⟨rfl,_,SqL.of g6.hp⟩,_,rfl,_,rfl,le2,fun q hq => ?_⟩
          have g7 := g6.new (o := .tup [.int (c : Int),.int (kf : Int)]) hq
          have rq : Rep K (upd He q (.tup [.int (c : Int),.int (kf : Int)])) (qL (c,kf)) (.ref q) := ⟨q,_,rfl,SqT.of zd,_,_,rfl,rfl,_,_,rfl,rfl,rfl⟩
          have pkn : pk.length = pks.length := by have := g.rk.len;rwa [List.length_map] at this
          refine ⟨lp,_,_,rfl,rfl,g7.hp,by omega,_,st.set kf (st[kf] - 1),pk ++ [.ref q],ou,pks ++ [(c,kf)],rfl,(g7.putP rq).mono (by omega),by rw [List.length_set];exact stl,fun p' hp' => ?_,by rw [List.length_append];show ((_ + 1 : Nat) : Int) <= _;omega,?_,by rw [List.length_append];show _ + (_ + 1) <= _;omega,by omega⟩
          · rcases List.mem_append.mp hp' with z | z
            · exact pok p' z
            · rw [List.mem_singleton.mp z]
              exact ⟨pa,fe,epa,efe,ekf⟩
          · rw [List.map_append,<- List.append_assoc,qi ec]
            exact sub.append (List.Sublist.refl _)
      rintro σ' Hc ⟨v10',st',pk',ou',pks',rfl,g4,stl',pok',pkl',sub',cnt',oul'⟩
      have pkn : pk'.length = pks'.length := by have := g4.rk.len;rwa [List.length_map] at this
      have trn : tr.length = ts.length := by have := g4.rt.len;rwa [List.length_map] at this
      have T9 := SameT.draw B0 g4.s
      refine ⟨fun (d : Bool) (H' : Hp) => PlS K H b ls lf lp lo lq st' tr pk' ou' os ts pks' H' (n + 60 + 10 * i + 4) /\ (d = true -> 1 <= pks'.length) /\ (d = false -> (pks'.length : Int) < J.hd),?_,?_⟩
      · refine ⟨_,rfl,le0,fun q hq => ⟨lp,q,_,rfl,rfl,SqL.of (g4.new (o := .lst []) hq).hp,SqL.of zd,_,rfl,qw (fun c1 => ?_) (fun c1 => ?_)⟩⟩
        · have g5 := g4.new (o := .lst []) hq
          have qj5 := (qj.keep T9).keep (SameT.of (zb (o := .lst []) hq))
          generalize upd Hc q (.lst []) = Hd at g5 qj5
          have pne : 1 <= pks'.length := by
            cases pk' with
            | nil => cases c1
            | cons x r => simp at pkn;omega
          refine ⟨_,rfl,lp,_,rfl,.inl (SqL.of g5.hp),_,rfl,jp,_,_,_,rfl,rfl,qj5,rfl,rfl,_,rfl,qw (fun c2 => ⟨g5.mono (by omega),fun _ => pne,fun z => nomatch z⟩) (fun c2 => ⟨_,rfl,b,3,_,rfl,g5.bx,by omega,by decide,by decide,fun r He r0 r1 Be Se => ⟨rfl,_,rfl,(g5.draw Se Be).mono (by omega),fun _ => pne,fun _ => ?_⟩⟩)⟩
          have hne : ¬ (pk'.length : Int) = J.hd := fun z => c2 (by rw [z];simp)
          omega
        · have pe : pks' = [] := by
            cases pks' with
            | nil => rfl
            | cons x r =>
              cases pk' with
              | nil => simp at pkn
              | cons y r' => exact absurd rfl c1
          exact ⟨(g4.new (o := .lst []) hq).mono (by omega),(fun z => nomatch z),fun _ => by rw [pe];show ((0 : Nat) : Int) < _;omega⟩
      rintro d Hd ⟨G,pne,hlt⟩
      refine qw (fun c1 => ?_) (fun c1 => ?_)
      · have pne := pne c1
        refine ⟨_,rfl,.inl ⟨rfl,_,SqL.of G.hf⟩,_,rfl,_,rfl,b,lp,_,pk',pks',rfl,G.bx,by omega,G.nb.2.2.1,G.hp,G.rk,by omega,fun p sh Hg Sg Bg shp rt => ?_⟩
        have G2 := G.draw Sg Bg
        have shl : sh.length = pks'.length := shp.length_eq
        refine ⟨lf,_,_,rfl,rfl,G2.hf,by omega,?_⟩
        have G3 := G2.putF rt
        generalize upd Hg lf (.lst (tr ++ [.ref p])) = Hh at G3
        refine ⟨le0,fun lp2 hlp2 => ⟨lp2,_,_,_,_,st',tr ++ [.ref p],[],ou',ts ++ [⟨sh,pks'.map (·.1)⟩],[],rfl,(G3.newP hlp2).mono (by omega),stl',?_,(fun _ h => nomatch h),(by show ((0 : Nat) : Int) < _;omega),?_,?_,oul'⟩⟩
        · intro t' ht'
          rcases List.mem_append.mp ht' with z | z
          · exact tok t' z
          · rw [List.mem_singleton.mp z]
            exact ⟨by show 1 <= sh.length;omega,by show (sh.length : Int) <= _;omega,fun p' hp' => pok' p' (shp.mem_iff.mp hp'),(shp.map (·.1)).symm⟩
        · rw [va]
          simpa using sub'
        · rw [List.length_append]
          show _ + 1 + 0 <= _
          omega
      · exact ⟨lp,_,_,_,_,st',tr,pk',ou',ts,pks',rfl,G.mono (by omega),stl',tok,pok',hlt (by simpa using c1),sub',cnt',oul'⟩
    · rintro σ H8 ⟨lp,v7,v8,v9,v10,st,tr,pk,ou,ts,pks,rfl,g,stl,tok,pok,pkl,sub,cnt,oul⟩
      rw [zR] at sub cnt oul
      rw [zR] at g
      rw [List.take_length] at sub
      have pkn : pk.length = pks.length := by have := g.rk.len;rwa [List.length_map] at this
      have trn : tr.length = ts.length := by have := g.rt.len;rwa [List.length_map] at this
      refine ⟨_,rfl,_,rfl,_,rfl,b,lp,_,pk,pks,rfl,g.bx,by omega,g.nb.2.2.1,g.hp,g.rk,by omega,fun p sh Hg Sg Bg shp rt => ?_⟩
      have g2 := g.draw Sg Bg
      have shl : sh.length = pks.length := shp.length_eq
      refine ⟨le1,fun l1 hl1 => ?_⟩
      have g3 := g2.new (o := .lst [.ref p]) hl1
      have rt3 := rt.same (zb (o := .lst [.ref p]) hl1)
      have L1 : upd Hg l1 (.lst [.ref p]) l1 = some (.lst [.ref p]) := zd
      generalize upd Hg l1 (.lst [.ref p]) = Hh at g3 rt3 L1
      refine ⟨_,rfl,le0,fun q hq => ⟨lp,q,_,rfl,rfl,SqL.of (g3.new (o := .lst []) hq).hp,SqL.of zd,.inr ⟨_,rfl,l1,_,_,rfl,rfl,(zb hq) _ _ L1,?_,?_,?_,fun l2 hl2 => ?_⟩⟩⟩
      · split <;> decide
      · split <;> decide
      · show 1 * _ <= sizeLine
        split <;> (first | (show 1 * 1 <= _;omega) | (show 1 * 0 <= _;omega))
      have g4 := g3.new (o := .lst []) hq
      have rt4 := rt3.same (zb (o := .lst []) hq)
      generalize upd Hh q (.lst []) = Hi at g4 rt4 hl2
      have fin : ∀ (zs : List V) (us : List qv),Reps K Hi (us.map qQ) zs -> zs.length <= 1 -> us.length + ts.length <= 60 -> (∀ t ∈ us,TripOk J t) -> (j4 (ts ++ us)).Sublist os -> VO (V.ref lf) (V.ref l2) (upd Hi l2 (.lst zs)) Q := by
        intro zs us rz zl ul uo us'
        have g5 := g4.new (o := .lst zs) hl2
        have rz5 := rz.same (zb (o := .lst zs) hl2)
        refine ⟨lf,l2,tr,zs,rfl,rfl,g5.hf,zd,by omega,fun l3 hl3 => ?_⟩
        have n3 := g5.bx.nne hl3
        have g6 := g5.new (o := .lst (tr ++ zs)) hl3
        refine k l3 os (ts ++ us) (tr ++ zs) _ g6.s (g6.bx.mono (by omega)) n3 (g5.s.none hl3 n3) zd ?_ pm ob ⟨fun t ht => ?_,us',by rw [List.length_append];omega⟩
        · rw [List.map_append]
          exact Reps.app g6.rt (rz5.same (zb hl3))
        · rcases List.mem_append.mp ht with z | z
          · exact tok t z
          · exact uo t z
      cases pks with
      | nil =>
        have e : pk = [] := List.length_eq_zero_iff.mp (by rw [pkn];rfl)
        subst e
        exact fin [] [] rfl (Nat.zero_le _) (by show 0 + _ <= _;omega) (fun _ h => nomatch h) (by rw [List.append_nil];simpa using sub)
      | cons x r =>
        have hne : ∃ y r',pk = y :: r' := by
          cases pk with
          | nil => simp at pkn
          | cons y r' => exact ⟨y,r',rfl⟩
        obtain ⟨y,r',rfl⟩ := hne
        refine fin [.ref p] [⟨sh,(x :: r).map (·.1)⟩] ⟨_,_,rfl,rt4,rfl⟩ (Nat.le_refl _) (by simp at cnt;show 1 + _ <= _;omega) (fun t ht => ?_) (by rw [va];exact sub)
        rw [List.mem_singleton.mp ht]
        exact ⟨by show 1 <= sh.length;rw [shl];exact Nat.succ_le_succ (Nat.zero_le _),by show (sh.length : Int) <= _;omega,fun p' hp' => pok p' (shp.mem_iff.mp hp'),(shp.map (·.1)).symm⟩
end
end L2
set_option Elab.async false
set_option linter.all false
set_option maxRecDepth 100000
set_option maxHeartbeats 4000000
namespace L2
open PySem PySem.Spec PyProof.Rows
mutual
def Dat.gd (k : Nat) : Dat -> Bool
  | .int i => decide (i.natAbs <= 10000000000 + k)
  | .str x => x.cps.toList.all fun c => decide (c < 1000000)
  | .lst ds => Dat.gds k ds
  | .tup ds => Dat.gds k ds
  | _ => true
def Dat.gds (k : Nat) : List Dat -> Bool
  | [] => true
  | d :: ds => d.gd k && Dat.gds k ds
end
mutual
theorem Dat.gd_up {k m : Nat} (h : k <= m) : ∀ {d : Dat},d.gd k = true -> d.gd m = true
  | .int i,e => decide_eq_true (by have := of_decide_eq_true (p := i.natAbs <= 10000000000 + k) e;omega)
  | .str _,e => e
  | .lst ds,e => Dat.gds_up h (ds := ds) e
  | .tup ds,e => Dat.gds_up h (ds := ds) e
  | .non,_ => rfl
  | .bl _,_ => rfl
theorem Dat.gds_up {k m : Nat} (h : k <= m) : ∀ {ds : List Dat},Dat.gds k ds = true -> Dat.gds m ds = true
  | [],_ => rfl
  | d :: ds,e => by
    have e' : (d.gd k && Dat.gds k ds) = true := e
    rw [Bool.and_eq_true] at e'
    show (d.gd m && Dat.gds m ds) = true
    rw [Dat.gd_up h e'.1,Dat.gds_up h e'.2];rfl
end
mutual
theorem Dat.gd_shw {k : Nat} (h : k <= 1000) : ∀ {d : Dat},d.gd k = true -> d.shw = true
  | .int i,e => decide_eq_true (by have := of_decide_eq_true (p := i.natAbs <= 10000000000 + k) e;omega)
  | .str _,e => e
  | .lst ds,e => Dat.gds_shw h (ds := ds) e
  | .tup ds,e => Dat.gds_shw h (ds := ds) e
  | .non,_ => rfl
  | .bl _,_ => rfl
theorem Dat.gds_shw {k : Nat} (h : k <= 1000) : ∀ {ds : List Dat},Dat.gds k ds = true -> Dat.shws ds = true
  | [],_ => rfl
  | d :: ds,e => by
    have e' : (d.gd k && Dat.gds k ds) = true := e
    rw [Bool.and_eq_true] at e'
    show (d.shw && Dat.shws ds) = true
    rw [Dat.gd_shw h e'.1,Dat.gds_shw h e'.2];rfl
end
structure Gd (k z D : Nat) (d : Dat) : Prop where
  g : d.gd k = true
  b : d.blk <= z
  p : d.py.depth <= D
theorem Gd.up {k z D k' z' D' : Nat} {d : Dat} (h : Gd k z D d) (h1 : k <= k') (h2 : z <= z') (h3 : D <= D') : Gd k' z' D' d := ⟨Dat.gd_up h1 h.g,Nat.le_trans h.b h2,Nat.le_trans h.p h3⟩
section
variable {P : Program} {w : World} {K : PySem.W.Frag} {mg : Str -> Option Value} {base : Heap}
def DS (K : PySem.W.Frag) (F : Hp) (k z D : Nat) (v : V) : Prop := ∃ d,Rep K F d v /\ Gd k z D d
theorem DS.up {F F' : Hp} {k z D k' z' D' : Nat} {v : V} (h : DS K F k z D v) (s : Same F F') (h1 : k <= k') (h2 : z <= z') (h3 : D <= D') : DS K F' k' z' D' v := let ⟨d,r,g⟩ := h;⟨d,r.same s,g.up h1 h2 h3⟩
theorem ya {F : Hp} {k z D : Nat} : ∀ {xs : List V},(∀ x ∈ xs,DS K F k z D x) -> ∃ ds,Reps K F ds xs /\ Dat.gds k ds = true /\ Dat.blks ds <= (z + 1) * xs.length /\ PyData.depthAll (Dat.pys ds) <= D
  | [],_ => ⟨[],rfl,rfl,Nat.zero_le _,Nat.zero_le _⟩
  | x :: xs,h => by
    obtain ⟨d,r,g⟩ := h x (by simp)
    obtain ⟨ds,r',g',b',p'⟩ := ya (xs := xs) fun y hy => h y (List.mem_cons_of_mem _ hy)
    refine ⟨d :: ds,⟨x,xs,rfl,r,r'⟩,?_,?_,?_⟩
    · show (d.gd k && Dat.gds k ds) = true
      rw [g.g,g'];rfl
    · show d.blk + 1 + Dat.blks ds <= _
      have := g.b
      rw [List.length_cons,Nat.mul_succ]
      omega
    · show max d.py.depth (PyData.depthAll (Dat.pys ds)) <= D
      have := g.p
      omega
theorem DS.lst {F : Hp} {k z D z' : Nat} {a : Addr} {xs : List V} (h : SqL K F a xs) (all : ∀ x ∈ xs,DS K F k z D x) (hz : (z + 1) * xs.length <= z') : DS K F k z' (D + 1) (.ref a) := by
  obtain ⟨ds,r,g,b,p⟩ := ya all
  refine ⟨.lst ds,⟨a,xs,rfl,h,r⟩,g,Nat.le_trans b hz,?_⟩
  show PyData.depth (.list (Dat.pys ds)) <= _
  simp only [PyData.depth]
  omega
theorem DS.tup {F : Hp} {k z D z' : Nat} {a : Addr} {xs : List V} (h : SqT K F a xs) (all : ∀ x ∈ xs,DS K F k z D x) (hz : (z + 1) * xs.length <= z') : DS K F k z' (D + 1) (.ref a) := by
  obtain ⟨ds,r,g,b,p⟩ := ya all
  refine ⟨.tup ds,⟨a,xs,rfl,h,r⟩,g,Nat.le_trans b hz,?_⟩
  show PyData.depth (.tuple (Dat.pys ds)) <= _
  simp only [PyData.depth]
  omega
theorem yr {F : Hp} {k z D : Nat} : ∀ {ds : List Dat} {xs : List V},Reps K F ds xs -> Dat.gds k ds = true -> Dat.blks ds <= z -> PyData.depthAll (Dat.pys ds) <= D -> xs.length <= z /\ ∀ x ∈ xs,DS K F k (z - 1) D x
  | [],_,h,_,_,_ => by rw [show _ = _ from h];exact ⟨Nat.zero_le _,fun x hx => nomatch hx⟩
  | d :: ds,_,h,g,b,p => by
    obtain ⟨v,r,e,h1,h2⟩ := h
    subst e
    have g' : (d.gd k && Dat.gds k ds) = true := g
    rw [Bool.and_eq_true] at g'
    have b' : d.blk + 1 + Dat.blks ds <= z := b
    have p' : max d.py.depth (PyData.depthAll (Dat.pys ds)) <= D := p
    obtain ⟨l,al⟩ := yr (z := z - 1) (k := k) (D := D) h2 g'.2 (by omega) (by omega)
    refine ⟨by rw [List.length_cons];omega,fun x hx => ?_⟩
    rcases List.mem_cons.mp hx with q | q
    · rw [q];exact ⟨d,h1,g'.1,by omega,by omega⟩
    · exact (al x q).up (Same.refl _) (Nat.le_refl _) (by omega) (Nat.le_refl _)
def SqQ (K : PySem.W.Frag) (H : Hp) (t : Bool) (a : Addr) (xs : List V) : Prop := if t = true then SqT K H a xs else SqL K H a xs
theorem SqQ.same {H H' : Hp} {t : Bool} {a : Addr} {xs : List V} (h : SqQ K H t a xs) (s : Same H H') : SqQ K H' t a xs := by
  cases t with
  | true => exact s.sqT h
  | false => exact s.seq h
theorem SqQ.or {H : Hp} {t : Bool} {a : Addr} {xs : List V} (h : SqQ K H t a xs) : SqL K H a xs \/ SqT K H a xs := by
  cases t with
  | true => exact .inr h
  | false => exact .inl h
def tyQ (t : Bool) : String := if t = true then "tuple" else "list"
theorem SqQ.ty {H : Hp} {t : Bool} {a : Addr} {xs : List V} (h : SqQ K H t a xs) : TyN K H (.ref a) (tyQ t) := by
  cases t with
  | true => exact .inr ⟨rfl,xs,h⟩
  | false => exact .inl ⟨rfl,xs,h⟩
theorem Wd {k : Nat} {i : Int} (h : i.natAbs <= 10000000000 + k) (z D : Nat) : Gd k z D (.int i) := ⟨decide_eq_true h,Nat.zero_le _,by show PyData.depth (.int i) <= _;simp [PyData.depth]⟩
theorem DS.non {F : Hp} {k z D : Nat} : DS K F k z D .non := ⟨.non,rfl,rfl,Nat.zero_le _,by show PyData.depth .none <= _;simp [PyData.depth]⟩
theorem DS.bl {F : Hp} {k z D : Nat} (b : Bool) : DS K F k z D (.bl b) := ⟨.bl b,rfl,rfl,Nat.zero_le _,by show PyData.depth (.bool b) <= _;simp [PyData.depth]⟩
theorem DS.int {F : Hp} {k z D : Nat} {i : Int} (h : i.natAbs <= 10000000000 + k) : DS K F k z D (.int i) := ⟨.int i,rfl,Wd h z D⟩
theorem DS.str {F : Hp} {k z D : Nat} {x : Str} (h : x.length <= z) (hc : ∀ c ∈ x.cps.toList,c < 1000000) : DS K F k z D (.str x) := ⟨.str x,rfl,List.all_eq_true.mpr fun c hc' => decide_eq_true (hc c hc'),h,by show PyData.depth (.str x) <= _;simp [PyData.depth]⟩
theorem DS.istr {F : Hp} {k z D : Nat} {i : Int} (h : i.natAbs < 1000000000000) (hz : 13 <= z) : DS K F k z D (.str (toString i)) := by
  refine DS.str (Nat.le_trans (ZD h) hz) fun c hc => ?_
  have e : (Str.ofString (toString i)).cps.toList = (toString i).toList.map Char.toNat := by rw [Str.ofString_eq_toList]
  have hc' : c ∈ (Str.ofString (toString i)).cps.toList := hc
  rw [e] at hc'
  obtain ⟨ch,h1,rfl⟩ := List.mem_map.mp hc'
  have := int_ascii i ch h1
  omega
theorem Xv (xs : List V) (b : Nat) : (qb xs none (some (b : Int))).length <= b := by
  unfold qb
  rw [HT.sIx_nat,HT.sIx_none]
  rw [List.length_take]
  omega
theorem Xu (xs : List V) (a : Nat) : (qb xs (some (a : Int)) none).length <= xs.length - a := by
  unfold qb
  rw [HT.sIx_nat,HT.sIx_none]
  rw [List.length_take,List.length_drop]
  omega
theorem VC (xs : List V) (a b : Nat) : (qb xs (some (a : Int)) (some (b : Int))).length <= b - a /\ (qb xs (some (a : Int)) (some (b : Int))).length <= xs.length - a := by
  unfold qb
  rw [HT.sIx_nat,HT.sIx_nat]
  rw [List.length_take,List.length_drop]
  exact ⟨Nat.le_trans (Nat.min_le_left _ _) (by omega),Nat.le_trans (Nat.min_le_right _ _) (by omega)⟩
end
end L2
set_option Elab.async false
set_option linter.all false
set_option maxRecDepth 100000
set_option maxHeartbeats 4000000
namespace L2
open PySem PySem.Spec PyProof.Rows
structure Ex (H : Hp) (b : Addr) (ex : List Addr) : Prop where
  mem : b ∈ ex
  al : ∀ e ∈ ex,∃ o,H e = some o
theorem Ex.next {H H' : Hp} {b : Addr} {ex : List Addr} {m : Int} (h : Ex H b ex) (s : SameB b H H') (B : BoxAt H' b m) : Ex H' b ex := ⟨h.mem,fun e he => by
  by_cases z : e = b
  · rw [z];exact B.some
  · obtain ⟨o,q⟩ := h.al e he
    exact ⟨o,s e o q z⟩⟩
theorem Ex.same {H H' : Hp} {b : Addr} {ex : List Addr} (h : Ex H b ex) (s : Same H H') : Ex H' b ex := ⟨h.mem,fun e he => let ⟨o,q⟩ := h.al e he;⟨o,s e o q⟩⟩
theorem Ex.out {H : Hp} {b p : Addr} {ex : List Addr} (h : Ex H b ex) (hp : H p = none) : p ∉ ex := fun z => by
  obtain ⟨o,q⟩ := h.al p z
  rw [hp] at q;cases q
theorem Ex.cons {H : Hp} {b m : Addr} {o : HO} {ex : List Addr} (h : Ex H b ex) (hm : H m = some o) : Ex H b (m :: ex) := ⟨List.mem_cons_of_mem _ h.mem,fun e he => (List.mem_cons.mp he).elim (fun z => ⟨o,by rw [z];exact hm⟩) (h.al e)⟩
theorem Ex.put {H : Hp} {b m : Addr} {o : HO} {ex : List Addr} (h : Ex H b ex) : Ex (upd H m o) b ex := ⟨h.mem,fun e he => by
  by_cases z : e = m
  · rw [z];exact ⟨o,zd⟩
  · rw [zq z];exact h.al e he⟩
theorem WX.draw {ex : List Addr} {H H' : Hp} {b : Addr} (h : b ∈ ex) (s : SameB b H H') : Same (WX ex H) (WX ex H') := fun c u e => by
  unfold WX at e ⊢
  split at e
  · cases e
  · rename_i hc
    rw [if_neg hc]
    exact s c u e (fun z => hc (by rw [z];exact h))
section
variable {P : Program} {w : World} {K : PySem.W.Frag} {mg : Str -> Option Value} {base : Heap}
theorem VH {x : Str} {k z D : Nat} {F : Hp} (h : decide (x.length <= 6) = true) (hc : (x.cps.toList.all fun c => decide (c < 1000000)) = true) (hz : 6 <= z) : DS K F k z D (.str x) := DS.str (Nat.le_trans (of_decide_eq_true h) hz) fun c h' => of_decide_eq_true (List.all_eq_true.mp hc c h')
inductive ZL (K : PySem.W.Frag) (vs : List V) (H : Hp) (Q : VK) : Prop
  | mk (b : Addr) (n : Int) (ex : List Addr) (_ : vs = [.ref b]) (_ : BoxAt H b n) (_ : n < 1099511627000) (_ : Ex H b ex) (_ : ∀ v H',SameB b H H' -> BoxAt H' b (n + 1) -> DS K (WX ex H') 0 10 3 v -> Q v H') : ZL K vs H Q
def yA (K : PySem.W.Frag) : Sp := fun vs H Q _ => ZL K vs H Q
theorem Vn : zy ["_law_box_here", "_law_some"] ["_law_box_here"] (zi (zj 30)) := ⟨rfl,rfl,rfl,by decide +kernel,rfl,by decide +kernel,by decide +kernel⟩
theorem VY {f : Addr} {fd : FuncData} (F : Fun K "_law_odd" "_law_odd" (zj 30) f fd) (B : Blt mg) (D_take : Dfn P w K mg base "_law_take" 1 ["_law_box_here", "_law_size"] qM) : FnOk P w K mg base CX0 2 f fd ["_law_box_here"] (yA K) := by
  have nd := Vn.nd
  refine F.ok Vn (fun vs H Q E h => ?_) (fun cdv A outer s H vs Q E hr h => ?_)
  · obtain ⟨b,n,ex,rfl,_⟩ := h
    rfl
  · obtain ⟨b,n,ex,rfl,B0,hn,E0,k⟩ := h
    refine ⟨_,(zf (zt (i := 1) nd rfl (Or.inl rfl) (zA (Yc JQ x9 x9 ze (yN vw ze) ze (zp JS ze ze) jY jY jY (zQ zc) (zA zc) (zQ (za ze zc)) (zA (za ze zc)) (zQ (za ze (za ze zc))) (zA (za (zA zc) zc)) (zQ (za jY (za ze zc))))))
      (zk (zx (zr zJ (pv 1) (zg D_take (hr.mono (by first | decide | exact Nat.le_refl _ | omega)) rfl (za (pv 0) (za ze zc))) (fun _ _ => rfl))))),?_⟩
    refine ⟨_,rfl,_,_,rfl,rfl,⟨by decide,by decide,by decide⟩,le0,fun p1 h1 => ⟨le0,fun p2 h2 => ⟨le1,fun p3 h3 => ⟨le1,fun p4 h4 => ⟨le2,fun p5 h5 => ⟨le0,fun p6 h6 => ⟨le1,fun p7 h7 => ⟨le2,fun p8 h8 => ⟨leN (by show 17 <= 1000;decide),fun l hl => ?_⟩⟩⟩⟩⟩⟩⟩⟩⟩
    have s1 := zb (o := .tup []) h1
    have s2 := zb (o := .lst []) h2
    have s3 := zb (o := .tup [.int 0]) h3
    have s4 := zb (o := .lst [.int 0]) h4
    have s5 := zb (o := .tup [.int 0,.int 1]) h5
    have s6 := zb (o := .lst []) h6
    have s7 := zb (o := .lst [.ref p6]) h7
    have s8 := zb (o := .tup [.str "laid",.int 0]) h8
    have E1 := E0.same s1
    have E2 := E1.same s2
    have E3 := E2.same s3
    have E4 := E3.same s4
    have E5 := E4.same s5
    have E6 := E5.same s6
    have E7 := E6.same s7
    have E8 := E7.same s8
    have sl := zb (o := .lst [.non,.bl true,.bl false,.int 0,.int (-1),.int 1,.int (10 ^ (9 : Int).toNat),.str "",.str "a",.str "0",.ref p1,.ref p2,.ref p3,.ref p4,.ref p5,.ref p7,.ref p8]) hl
    have f1 := (s2.trans (s3.trans (s4.trans (s5.trans (s6.trans (s7.trans (s8.trans sl))))))) p1 _ zd
    have f2 := (s3.trans (s4.trans (s5.trans (s6.trans (s7.trans (s8.trans sl)))))) p2 _ zd
    have f3 := (s4.trans (s5.trans (s6.trans (s7.trans (s8.trans sl))))) p3 _ zd
    have f4 := (s5.trans (s6.trans (s7.trans (s8.trans sl)))) p4 _ zd
    have f5 := (s6.trans (s7.trans (s8.trans sl))) p5 _ zd
    have f6 := (s7.trans (s8.trans sl)) p6 _ zd
    have f7 := (s8.trans sl) p7 _ zd
    have f8 := sl p8 _ zd
    have st := s1.trans (s2.trans (s3.trans (s4.trans (s5.trans (s6.trans (s7.trans (s8.trans sl)))))))
    have n1 := E0.out h1
    have n2 := E1.out h2
    have n3 := E2.out h3
    have n4 := E3.out h4
    have n5 := E4.out h5
    have n6 := E5.out h6
    have n7 := E6.out h7
    have n8 := E7.out h8
    have nl := E8.out hl
    have B8 := B0.same st
    have fl := zd (H := upd (upd (upd (upd (upd (upd (upd (upd H p1 (.tup [])) p2 (.lst [])) p3 (.tup [.int 0])) p4 (.lst [.int 0])) p5 (.tup [.int 0,.int 1])) p6 (.lst [])) p7 (.lst [.ref p6])) p8 (.tup [.str "laid",.int 0])) (a := l) (o := .lst [.non,.bl true,.bl false,.int 0,.int (-1),.int 1,.int (10 ^ (9 : Int).toNat),.str "",.str "a",.str "0",.ref p1,.ref p2,.ref p3,.ref p4,.ref p5,.ref p7,.ref p8])
    clear s1 s2 s3 s4 s5 s6 s7 s8 E1 E2 E3 E4 E5 E6 E7 E8 sl h1 h2 h3 h4 h5 h6 h7 h8 hl B0
    refine ⟨_,rfl,_,rfl,b,17,n,rfl,B8,by omega,by decide,by decide,fun r H1 r0 r1 B1 S1 => ?_⟩
    have up : ∀ p o,p ∉ ex -> _ = some o -> WX ex H1 p = some o := fun p o hp e => WX.at hp (S1 p o e (fun z => hp (by rw [z];exact E0.mem)))
    have g1 := up p1 _ n1 f1
    have g2 := up p2 _ n2 f2
    have g3 := up p3 _ n3 f3
    have g4 := up p4 _ n4 f4
    have g5 := up p5 _ n5 f5
    have g6 := up p6 _ n6 f6
    have g7 := up p7 _ n7 f7
    have g8 := up p8 _ n8 f8
    have gl := S1 l _ fl (fun z => nl (by rw [z];exact E0.mem))
    have all : ∀ x ∈ [V.non,.bl true,.bl false,.int 0,.int (-1),.int 1,.int (10 ^ (9 : Int).toNat),.str "",.str "a",.str "0",.ref p1,.ref p2,.ref p3,.ref p4,.ref p5,.ref p7,.ref p8],DS K (WX ex H1) 0 10 3 x := by
      have i0 : ∀ i : Int,i.natAbs <= 10000000000 -> ∀ D,DS K (WX ex H1) 0 2 D (.int i) := fun i h D => DS.int (by omega)
      have t6 : DS K (WX ex H1) 0 2 1 (.ref p6) := DS.lst (z := 0) (D := 0) (SqL.of g6) fm0 (Nat.zero_le _)
      refine fm DS.non (fm (DS.bl _) (fm (DS.bl _) (fm (DS.int (by decide)) (fm (DS.int (by decide)) (fm (DS.int (by decide)) (fm (DS.int (by decide)) (fm (VH (by decide) (by decide) (by decide)) (fm (VH (by decide) (by decide) (by decide)) (fm (VH (by decide) (by decide) (by decide)) ?_)))))))))
      refine fm ((DS.tup (k := 0) (z := 0) (D := 0) (z' := 0) (SqT.of g1) fm0 (Nat.zero_le _)).up (Same.refl _) (by decide) (by decide) (by decide)) (fm ((DS.lst (k := 0) (z := 0) (D := 0) (z' := 0) (SqL.of g2) fm0 (Nat.zero_le _)).up (Same.refl _) (by decide) (by decide) (by decide)) (fm (DS.tup (z := 2) (D := 2) (SqT.of g3) (fm (i0 0 (by decide) 2) fm0) (by decide)) (fm (DS.lst (z := 2) (D := 2) (SqL.of g4) (fm (i0 0 (by decide) 2) fm0) (by decide)) (fm (DS.tup (z := 2) (D := 2) (SqT.of g5) (fm (i0 0 (by decide) 2) (fm (i0 1 (by decide) 2) fm0)) (by decide)) (fm (DS.lst (z := 2) (D := 2) (SqL.of g7) (fm (t6.up (Same.refl _) (by decide) (by decide) (by decide)) fm0) (by show 3 * 1 <= 10;decide)) (fm ?_ fm0))))))
      refine DS.tup (z := 4) (D := 2) (SqT.of g8) (fm (DS.str (by decide) (fun c hc => of_decide_eq_true (List.all_eq_true.mp (by decide : (("laid" : Str).cps.toList.all fun c => decide (c < 1000000)) = true) c hc))) (fm (DS.int (by decide)) fm0)) (by decide)
    obtain ⟨v,ev,dv⟩ := Vx (α := fun x => DS K (WX ex H1) 0 10 3 x) gl r0 r1 all
    exact ⟨l,_,_,v,rfl,rfl,SqL.of gl,ev,k v H1 ((SameB.of st).trans S1) B1 dv⟩
inductive yB (K : PySem.W.Frag) (vs : List V) (H : Hp) (Q : VK) : Prop
  | mk (b a : Addr) (t : Bool) (xs : List V) (n : Int) (k z D : Nat) (ex : List Addr) (_ : vs = [.ref b,.ref a]) (_ : BoxAt H b n) (_ : n < 1099511000000) (_ : Ex H b ex) (_ : SqQ K (WX ex H) t a xs) (_ : xs.length <= z) (_ : (∀ x ∈ xs,DS K (WX ex H) k z D x)) (_ : 20 <= z) (_ : z <= 1000) (_ : 3 <= D) (_ : ∀ v H',SameB b H H' -> BoxAt H' b (n + 3) -> DS K (WX ex H') k ((z + 1) * (z + 1)) (D + 1) v -> Q v H') : yB K vs H Q
def Zs (K : PySem.W.Frag) : Sp := fun vs H Q _ => yB K vs H Q
theorem Jz : zy ["_law_box_here", "_law_thing", "_law_draw", "_law_at", "_law_some"] ["_law_box_here", "_law_thing"] (zi (zj 31)) := ⟨rfl,rfl,rfl,by decide +kernel,rfl,by decide +kernel,by decide +kernel⟩
inductive WS (K : PySem.W.Frag) (b a : Addr) (H : Hp) (n way q : Int) (ex : List Addr) (k' z D : Nat) (σ : St) (H' : Hp) : Prop
  | mk (p : Addr) (ys : List V) (_ : σ = [some (.ref b),some (.ref a),some (.int way),some (.int q),some (.ref p)]) (_ : SameB b H H') (_ : BoxAt H' b (n + 3)) (_ : p ∉ ex) (_ : H' p = some (.lst ys)) (_ : ys.length <= z + 1) (_ : ∀ y ∈ ys,DS K (WX ex H') k' z D y) : WS K b a H n way q ex k' z D σ H'
theorem XY {f : Addr} {fd : FuncData} (F : Fun K "_law_other_row" "_law_other_row" (zj 31) f fd) (B : Blt mg) (D_take : Dfn P w K mg base "_law_take" 1 ["_law_box_here", "_law_size"] qM) (D_odd : Dfn P w K mg base "_law_odd" 2 ["_law_box_here"] (yA K)) : FnOk P w K mg base CX0 3 f fd ["_law_box_here", "_law_thing"] (Zs K) := by
  have nd := Jz.nd
  refine F.ok Jz (fun vs H Q E h => ?_) (fun cdv A outer s H vs Q E hr h => ?_)
  · obtain ⟨b,a,t,xs,n,k,z,D,ex,rfl,_⟩ := h
    rfl
  · obtain ⟨b,a,t,xs,n,k',z,D,ex,rfl,B0,hn,E0,hq,hxl,all,hz0,hz1,hD,k⟩ := h
    have hbig : 100000 < sizeLine := by rw [sizeLine_eq];decide
    have e62 : (2 : Int) ^ 62 = 4611686018427387904 := by decide
    have sq : ∀ H',SameB b H H' -> SqQ K H' t a xs := fun H' s => hq.same ((WX.draw E0.mem s).trans WX.le)
    have old : ∀ H',SameB b H H' -> ∀ y ∈ xs,DS K (WX ex H') k' z D y := fun H' s y hy => (all y hy).up (WX.draw E0.mem s) (Nat.le_refl _) (Nat.le_refl _) (Nat.le_refl _)
    have fits : ∀ {m : Nat},m <= z + 1 -> (z + 1) * m <= (z + 1) * (z + 1) := fun h => Nat.mul_le_mul (Nat.le_refl _) h
    refine ⟨_,(zf (xr (i := 2) (j := 3) rfl nd rfl rfl (by decide) rfl rfl (za (zg D_take (hr.mono (by first | decide | exact Nat.le_refl _ | omega)) rfl (za (pv 0) (za ze zc))) (za (zg D_take (hr.mono (by first | decide | exact Nat.le_refl _ | omega)) rfl (za (pv 0) (za (zp zI (zo zC rfl B.len boot_len (za (pv 1) zc)) ze) zc))) zc)) (by rfl))
      (zf (zt (i := 4) nd rfl (Or.inl rfl) (zM jN rfl B.list zU (za (pv 1) zc)))
      (zf (qU (qJ (zG qB (pv 2) ze (zE _))
      (zk (zt (i := 4) nd rfl (Or.inl rfl) (zp qP (qh qC (pv 4) qS (qe (pv 3))) (qh qC (pv 4) (qe (zp zI (pv 3) ze)) qS))))
      (zk (qJ (zG qB (pv 2) ze (zE _))
        (zk (zt (i := 4) nd rfl (Or.inl rfl) (zp qP (zp qP (qh qC (pv 4) qS (qe (pv 3))) (qh qC (pv 4) (qe (pv 3)) (qe (zp zI (pv 3) ze)))) (qh qC (pv 4) (qe (pv 3)) qS))))
        (zk (qJ (zG qB (pv 2) ze (zE _))
          (zk (qx (jn PySem.F.plainAttrs_list PySem.F.slot_list_insert PySem.F.type_list_insert wF (pv 4) (za (pv 3) (za (zg D_odd (hr.mono (by first | decide | exact Nat.le_refl _ | omega)) rfl (za (pv 0) zc)) zc)))))
          (zk (qJ (zG qB (pv 2) ze (zE _))
            (zk (zt (i := 4) nd rfl (Or.inl rfl) (zp qP (zp qP (qh qC (pv 4) qS (qe (pv 3))) (Q0 (qh qC (pv 4) (qe (pv 3)) (qe (zp zI (pv 3) ze))) (qe (yN vw ze)))) (qh qC (pv 4) (qe (zp zI (pv 3) ze)) qS))))
            (zk (qJ (zG qB (pv 2) ze (zE _))
              (zk (qx (VT PySem.F.plainAttrs_list PySem.F.slot_list_reverse PySem.F.type_list_reverse ZA (pv 4))))
              (zk (zx (qN (qD (zo z6 rfl B.isinstance boot_isinstance (za (pv 1) (za (zO (v := .ty "list") rfl B.list zU rfl) zc)))) (zM zY rfl B.tuple zX (za (pv 1) zc)) (pv 4))))))))))))))
      (zk (zx (qN (qD (zo z6 rfl B.isinstance boot_isinstance (za (pv 1) (za (zO (v := .ty "list") rfl B.list zU rfl) zc)))) (pv 4) (zM zY rfl B.tuple zX (za (pv 4) zc)))))))),?_⟩
    refine ⟨_,rfl,b,6,n,rfl,B0,by omega,by decide,by decide,fun way H1 w0 w1 B1 S1 => ⟨_,rfl,_,rfl,a,xs,rfl,(sq _ S1).or,_,_,rfl,rfl,b,_,n + 1,rfl,B1,by omega,by omega,by omega,fun q H2 q0 q1 B2 S2 => ⟨_,_,rfl,?_⟩⟩⟩
    have S2' := S1.trans S2
    obtain ⟨q,rfl⟩ : ∃ q' : Nat,q = (q' : Int) := ⟨q.toNat,by omega⟩
    refine ⟨_,rfl,a,xs,rfl,(sq _ S2').or,fun m hm => ?_⟩
    have E2 := E0.next S2' B2
    have mH : H m = none := S2'.none hm (B2.nne hm)
    have mb := B2.nne hm
    have mx := E2.out hm
    have S3 := S2'.new (o := .lst xs) hm
    have B3 := B2.new (o := .lst xs) hm
    have E3 := E2.same (zb (o := .lst xs) hm)
    have f3 : upd H2 m (.lst xs) m = some (.lst xs) := zd
    generalize upd H2 m (.lst xs) = H3 at S3 B3 E3 f3
    clear S1 S2 B1 B2 E2 hm
    refine ⟨WS K b a H n way q ex k' z D,?_,?_⟩
    · have mem : ∀ {lo hi : Option Int} {y : V},y ∈ qb xs lo hi -> y ∈ xs := fun h => y4 h
      refine ⟨_,rfl,rfl,_,rfl,qw (fun c0 => ?_) (fun c0 => ⟨_,rfl,rfl,_,rfl,qw (fun c1 => ?_) (fun c1 => ⟨_,rfl,rfl,_,rfl,qw (fun c2 => ?_) (fun c2 => ⟨_,rfl,rfl,_,rfl,qw (fun c3 => ?_) (fun c3 => ⟨_,rfl,rfl,_,rfl,qw (fun c4 => ?_) (fun c4 => ?_)⟩)⟩)⟩)⟩)⟩
      · refine ⟨_,rfl,_,rfl,_,rfl,m,xs,rfl,SqL.of f3,fun p1 h1 => ?_⟩
        refine ⟨_,rfl,_,rfl,_,_,rfl,rfl,_,rfl,m,xs,rfl,SqL.of ((zb h1) _ _ f3),fun p2 h2 => ?_⟩
        have l1 := Xv xs q
        have l2 : (qb xs (some ((q : Int) + 1)) none).length <= xs.length - (q + 1) := Xu xs (q + 1)
        refine ⟨p1,p2,_,_,rfl,rfl,(zb h2) _ _ zd,zd,by omega,fun p3 h3 => ?_⟩
        refine ⟨p3,_,rfl,((S3.new h1).new h2).new h3,(((B3.new h1).new h2).new h3).mono (by omega),((E3.same (zb h1)).same (zb h2)).out h3,zd,by rw [List.length_append];omega,fun y hy => old _ (((S3.new h1).new h2).new h3) y ?_⟩
        rcases List.mem_append.mp hy with z | z <;> exact mem z
      · refine ⟨_,rfl,_,rfl,_,rfl,m,xs,rfl,SqL.of f3,fun p1 h1 => ?_⟩
        refine ⟨_,rfl,_,rfl,_,rfl,_,rfl,_,_,rfl,rfl,_,rfl,m,xs,rfl,SqL.of ((zb h1) _ _ f3),fun p2 h2 => ?_⟩
        have l1 := Xv xs q
        have l2 : (qb xs (some (q : Int)) (some ((q : Int) + 1))).length <= (q + 1) - q := (VC xs q (q + 1)).1
        have l3 := Xu xs q
        refine ⟨p1,p2,_,_,rfl,rfl,(zb h2) _ _ zd,zd,by omega,fun p3 h3 => ?_⟩
        refine ⟨_,rfl,_,rfl,_,rfl,m,xs,rfl,SqL.of ((((zb h1).trans (zb h2)).trans (zb h3)) _ _ f3),fun p4 h4 => ?_⟩
        refine ⟨p3,p4,_,_,rfl,rfl,(zb h4) _ _ zd,zd,by rw [List.length_append];omega,fun p5 h5 => ?_⟩
        refine ⟨p5,_,rfl,((((S3.new h1).new h2).new h3).new h4).new h5,(((((B3.new h1).new h2).new h3).new h4).new h5).mono (by omega),((((E3.same (zb h1)).same (zb h2)).same (zb h3)).same (zb h4)).out h5,zd,by rw [List.length_append,List.length_append];omega,fun y hy => old _ (((((S3.new h1).new h2).new h3).new h4).new h5) y ?_⟩
        rcases List.mem_append.mp hy with z | z
        · rcases List.mem_append.mp z with z | z <;> exact mem z
        · exact mem z
      · refine ⟨_,rfl,.inl ⟨rfl,_,SqL.of f3⟩,_,rfl,_,rfl,b,n + 1 + 1,m :: ex,rfl,B3,by omega,E3.cons f3,fun v H4 S4 B4 dv => ?_⟩
        have f4 := S4 m _ f3 mb
        refine ⟨m,xs,q,v,rfl,rfl,f4,q0,by rw [e62];omega,by omega,?_⟩
        have S5 := (S3.trans S4).put (o := .lst (xs.take (q : Int).toNat ++ v :: xs.drop (q : Int).toNat)) mH
        refine ⟨m,_,rfl,S5,(B4.other mb).mono (by omega),mx,zd,?_,fun y hy => ?_⟩
        · simp only [List.length_append,List.length_take,List.length_cons,List.length_drop]
          omega
        · rcases List.mem_append.mp hy with z | z
          · exact old _ S5 y (List.mem_of_mem_take z)
          · rcases List.mem_cons.mp z with z | z
            · rw [z]
              exact dv.up ((WX.put List.mem_cons_self).trans WX.cons) (Nat.zero_le _) (by omega) hD
            · exact old _ S5 y (List.mem_of_mem_drop z)
      · refine ⟨_,rfl,_,rfl,_,rfl,m,xs,rfl,SqL.of f3,fun p1 h1 => ?_⟩
        refine ⟨_,rfl,_,rfl,_,rfl,_,rfl,_,_,rfl,rfl,_,rfl,m,xs,rfl,SqL.of ((zb h1) _ _ f3),fun p2 h2 => ?_⟩
        have l1 := Xv xs q
        have l2 : (qb xs (some (q : Int)) (some ((q : Int) + 2))).length <= (q + 2) - q /\ (qb xs (some (q : Int)) (some ((q : Int) + 2))).length <= xs.length - q := VC xs q (q + 2)
        have l3 : (qb xs (some ((q : Int) + 2)) none).length <= xs.length - (q + 2) := Xu xs (q + 2)
        refine ⟨_,rfl,_,rfl,p2,_,rfl,(by decide),SqL.of zd,fun zs p3 zm zl h3 => ?_⟩
        refine ⟨p1,p3,_,_,rfl,rfl,((zb h2).trans (zb h3)) _ _ zd,zd,by omega,fun p4 h4 => ?_⟩
        refine ⟨_,rfl,_,rfl,_,_,rfl,rfl,_,rfl,m,xs,rfl,SqL.of (((((zb h1).trans (zb h2)).trans (zb h3)).trans (zb h4)) _ _ f3),fun p5 h5 => ?_⟩
        refine ⟨p4,p5,_,_,rfl,rfl,(zb h5) _ _ zd,zd,by rw [List.length_append];omega,fun p6 h6 => ?_⟩
        refine ⟨p6,_,rfl,(((((S3.new h1).new h2).new h3).new h4).new h5).new h6,((((((B3.new h1).new h2).new h3).new h4).new h5).new h6).mono (by omega),(((((E3.same (zb h1)).same (zb h2)).same (zb h3)).same (zb h4)).same (zb h5)).out h6,zd,by rw [List.length_append,List.length_append];omega,fun y hy => old _ ((((((S3.new h1).new h2).new h3).new h4).new h5).new h6) y ?_⟩
        rcases List.mem_append.mp hy with z | z
        · rcases List.mem_append.mp z with z | z
          · exact mem z
          · exact mem (zm y z)
        · exact mem z
      · refine ⟨_,rfl,.inl ⟨rfl,_,SqL.of f3⟩,m,xs,rfl,rfl,f3,?_⟩
        have S4 := S3.put (o := .lst xs.reverse) mH
        exact ⟨m,_,rfl,S4,(B3.other mb).mono (by omega),mx,zd,by rw [List.length_reverse];omega,fun y hy => old _ S4 y (List.mem_reverse.mp hy)⟩
      · refine ⟨_,rfl,_,tyQ t, "list",rfl,(sq _ S3).ty,(by decide),_,rfl,qw (fun d => ⟨_,rfl,a,xs,rfl,?_⟩) (fun d => ⟨_,rfl,?_⟩)⟩
        · cases t with
          | false => exact .inl ⟨sq _ S3,fun p hp => k _ _ (S3.new hp) ((B3.new hp).mono (by omega)) (DS.tup (SqT.of (WX.at (E3.out hp) zd)) (old _ (S3.new hp)) (fits (by omega)))⟩
          | true => exact .inr ⟨sq _ S3,k _ H3 S3 (B3.mono (by omega)) (DS.tup (hq.same (WX.draw E0.mem S3)) (old _ S3) (fits (by omega)))⟩
        · exact k _ H3 S3 (B3.mono (by omega)) (DS.lst (SqL.of (WX.at mx f3)) (old _ S3) (fits (by omega)))
    · rintro σ' H4 ⟨p,ys,rfl,S4,B4,px,f4,yl,yd⟩
      refine ⟨_,rfl,_,tyQ t, "list",rfl,(sq _ S4).ty,(by decide),_,rfl,qw (fun d => ⟨_,rfl,?_⟩) (fun d => ⟨_,rfl,p,ys,rfl,.inl ⟨SqL.of f4,fun p' hp => ?_⟩⟩)⟩
      · exact k _ H4 S4 B4 (DS.lst (SqL.of (WX.at px f4)) yd (fits yl))
      · have E4 := E0.next S4 B4
        exact k _ _ (S4.new hp) (B4.new hp) (DS.tup (SqT.of (WX.at (E4.out hp) zd)) (fun y hy => (yd y hy).up (WX.new hp) (Nat.le_refl _) (Nat.le_refl _) (Nat.le_refl _)) (fits yl))
end
end L2
set_option Elab.async false
set_option linter.all false
set_option maxRecDepth 100000
set_option maxHeartbeats 4000000
namespace L2
open PySem PySem.Spec PyProof.Rows
def Xk : V -> Bool
  | .int _ => true
  | _ => false
theorem Wc {n : Nat} {i : Int} (h : 0 <= i) (h' : i < n) : ixN n i = some i.toNat := by
  unfold ixN
  rw [if_pos h,if_pos h']
section
variable {P : Program} {w : World} {K : PySem.W.Frag} {mg : Str -> Option Value} {base : Heap}
theorem DS.split2 {F : Hp} {k z D : Nat} {v : V} (h : DS K F k z D v) : v = .non \/ (∃ c,v = .bl c) \/ (∃ i : Int,v = .int i /\ i.natAbs <= 10000000000 + k) \/ (∃ x : Str,v = .str x) \/ ∃ (a : Addr) (t : Bool) (xs : List V) (ds : List Dat),v = .ref a /\ SqQ K F t a xs /\ Reps K F ds xs /\ Dat.gds k ds = true /\ Dat.blks ds <= z /\ PyData.depthAll (Dat.pys ds) + 1 <= D := by
  obtain ⟨d,r,g,b,p⟩ := h
  cases d with
  | non => exact .inl r
  | bl c => exact .inr (.inl ⟨c,r⟩)
  | int i => exact .inr (.inr (.inl ⟨i,r,of_decide_eq_true g⟩))
  | str x => exact .inr (.inr (.inr (.inl ⟨x,r⟩)))
  | lst ds =>
    obtain ⟨a,xs,e,q,rs⟩ := r
    exact .inr (.inr (.inr (.inr ⟨a,false,xs,ds,e,q,rs,g,b,p⟩)))
  | tup ds =>
    obtain ⟨a,xs,e,q,rs⟩ := r
    exact .inr (.inr (.inr (.inr ⟨a,true,xs,ds,e,q,rs,g,b,p⟩)))
inductive wx (K : PySem.W.Frag) (vs : List V) (H : Hp) (Q : VK) : Prop
  | mk (v k z D : _) (_ : vs = [v]) (_ : DS K H k z D v) (_ : Q (.bl (Xk v)) H) : wx K vs H Q
def jD (K : PySem.W.Frag) : Sp := fun vs H Q _ => wx K vs H Q
theorem Z0 : zy ["thing"] ["thing"] (zi (zj 1)) := ⟨rfl,rfl,rfl,by decide +kernel,rfl,by decide +kernel,by decide +kernel⟩
theorem J4 {f : Addr} {fd : FuncData} (F : Fun K "is_number" "is_number" (zj 1) f fd) (B : Blt mg) : FnOk P w K mg base CX0 1 f fd ["thing"] (jD K) := by
  have nd := Z0.nd
  refine F.ok Z0 (fun vs H Q E h => ?_) (fun cdv A outer s H vs Q E hr h => ?_)
  · obtain ⟨v,k,z,D,rfl,_⟩ := h
    rfl
  · obtain ⟨v,k',z,D,rfl,dv,k⟩ := h
    refine ⟨_,(zk (zx (xw (zo z6 rfl B.isinstance boot_isinstance (za (pv 0) (za (zO (v := .ty "int") rfl B.int jd rfl) zc))) (xt (JO (zo z6 rfl B.isinstance boot_isinstance (za (pv 0) (za (zO (v := .ty "bool") rfl B.bool xm rfl) zc)))))))),?_⟩
    rcases dv.split2 with rfl | ⟨c,rfl⟩ | ⟨i,rfl,h⟩ | ⟨x,rfl⟩ | ⟨a,t,xs,ds,rfl,hq,_⟩
    · exact ⟨_,rfl,_, "NoneType", "int",rfl,rfl,(by decide),_,rfl,ifF (by decide) k⟩
    · exact ⟨_,rfl,_, "bool", "int",rfl,rfl,(by decide),_,rfl,ifT (by decide) ⟨_,rfl,_, "bool", "bool",rfl,rfl,(by decide),_,rfl,k⟩⟩
    · exact ⟨_,rfl,_, "int", "int",rfl,rfl,(by decide),_,rfl,ifT (by decide) ⟨_,rfl,_, "int", "bool",rfl,rfl,(by decide),_,rfl,k⟩⟩
    · exact ⟨_,rfl,_, "str", "int",rfl,rfl,(by decide),_,rfl,ifF (by decide) k⟩
    · exact ⟨_,rfl,_,tyQ t, "int",rfl,hq.ty,(by decide),_,rfl,ifF (by cases t <;> decide) k⟩
theorem yJ : zy ["_law_thing"] ["_law_thing"] (zi (zj 29)) := ⟨rfl,rfl,rfl,by decide +kernel,rfl,by decide +kernel,by decide +kernel⟩
theorem Q4 {f : Addr} {fd : FuncData} (F : Fun K "_law_is_number" "_law_is_number" (zj 29) f fd) (B : Blt mg) : FnOk P w K mg base CX0 1 f fd ["_law_thing"] (jD K) := by
  have nd := yJ.nd
  refine F.ok yJ (fun vs H Q E h => ?_) (fun cdv A outer s H vs Q E hr h => ?_)
  · obtain ⟨v,k,z,D,rfl,_⟩ := h
    rfl
  · obtain ⟨v,k',z,D,rfl,dv,k⟩ := h
    refine ⟨_,(zk (zx (xw (zo z6 rfl B.isinstance boot_isinstance (za (pv 0) (za (zO (v := .ty "int") rfl B.int jd rfl) zc))) (xt (JO (zo z6 rfl B.isinstance boot_isinstance (za (pv 0) (za (zO (v := .ty "bool") rfl B.bool xm rfl) zc)))))))),?_⟩
    rcases dv.split2 with rfl | ⟨c,rfl⟩ | ⟨i,rfl,h⟩ | ⟨x,rfl⟩ | ⟨a,t,xs,ds,rfl,hq,_⟩
    · exact ⟨_,rfl,_, "NoneType", "int",rfl,rfl,(by decide),_,rfl,ifF (by decide) k⟩
    · exact ⟨_,rfl,_, "bool", "int",rfl,rfl,(by decide),_,rfl,ifT (by decide) ⟨_,rfl,_, "bool", "bool",rfl,rfl,(by decide),_,rfl,k⟩⟩
    · exact ⟨_,rfl,_, "int", "int",rfl,rfl,(by decide),_,rfl,ifT (by decide) ⟨_,rfl,_, "int", "bool",rfl,rfl,(by decide),_,rfl,k⟩⟩
    · exact ⟨_,rfl,_, "str", "int",rfl,rfl,(by decide),_,rfl,ifF (by decide) k⟩
    · exact ⟨_,rfl,_,tyQ t, "int",rfl,hq.ty,(by decide),_,rfl,ifF (by cases t <;> decide) k⟩
inductive yE (K : PySem.W.Frag) (vs : List V) (H : Hp) (Q : VK) : Prop
  | mk (b : Addr) (v : V) (n : Int) (k z D : Nat) (ex : List Addr) (_ : vs = [.ref b,v]) (_ : BoxAt H b n) (_ : n < 1099510900000) (_ : Ex H b ex) (_ : DS K (WX ex H) k z D v) (_ : 20 <= z) (_ : z <= 1000) (_ : k <= 100) (_ : ∀ v' H',SameB b H H' -> BoxAt H' b (n + 4) -> DS K (WX ex H') (k + 1) ((z + 1) * (z + 1)) (D + 4) v' -> Q v' H') : yE K vs H Q
def wZ (K : PySem.W.Frag) : Sp := fun vs H Q _ => yE K vs H Q
theorem JB : zy ["_law_box_here", "_law_thing"] ["_law_box_here", "_law_thing"] (zi (zj 33)) := ⟨rfl,rfl,rfl,by decide +kernel,rfl,by decide +kernel,by decide +kernel⟩
theorem VI {z m : Nat} (h : 20 <= z) (hm : m <= 20) : m <= (z + 1) * (z + 1) := Nat.le_trans (by omega : m <= (z + 1) * 1) (Nat.mul_le_mul (Nat.le_refl _) (by omega))
theorem X2 {f : Addr} {fd : FuncData} (F : Fun K "_law_instead" "_law_instead" (zj 33) f fd) (B : Blt mg) (D_take : Dfn P w K mg base "_law_take" 1 ["_law_box_here", "_law_size"] qM) (D_odd : Dfn P w K mg base "_law_odd" 2 ["_law_box_here"] (yA K)) (D_other_row : Dfn P w K mg base "_law_other_row" 3 ["_law_box_here", "_law_thing"] (Zs K)) (D_is_number : Dfn P w K mg base "_law_is_number" 1 ["_law_thing"] (jD K)) : FnOk P w K mg base CX0 4 f fd ["_law_box_here", "_law_thing"] (wZ K) := by
  have nd := JB.nd
  refine F.ok JB (fun vs H Q E h => ?_) (fun cdv A outer s H vs Q E hr h => ?_)
  · obtain ⟨b,v,n,k,z,D,ex,rfl,_⟩ := h
    rfl
  · obtain ⟨b,v,n,k',z,D,ex,rfl,B0,hn,E0,dv,hz0,hz1,hk,k⟩ := h
    have hbig : 100000 < sizeLine := by rw [sizeLine_eq];decide
    refine ⟨_,(zf (qJ (PW.pt (yb (qD (zo xj rfl B.isinstance boot_isinstance (za (pv 1) (za (zQ (za (zO (v := .ty "list") rfl B.list zU rfl) (za (zO (v := .ty "tuple") rfl B.tuple zX rfl) zc))) zc)))) (vp (zG wD (zg D_take (hr.mono (by first | decide | exact Nat.le_refl _ | omega)) rfl (za (pv 0) (za ze zc))) ze (zE _)))))
      (zk (zx (zg D_other_row (hr.mono (by first | decide | exact Nat.le_refl _ | omega)) rfl (za (pv 0) (za (pv 1) zc)))))
      qk)
      (zf (qJ (qD (zg D_is_number (hr.mono (by first | decide | exact Nat.le_refl _ | omega)) rfl (za (pv 1) zc)))
      (zk (zx (zr zJ (zA (pa6 (zp zI (pv 1) ze) (zp qz (pv 1) ze) (zp qz ze (pv 1)) (qm qB (pv 1) ze (zE _)) (zM yp rfl B.str xM (za (pv 1) zc)) (zg D_odd (hr.mono (by first | decide | exact Nat.le_refl _ | omega)) rfl (za (pv 0) zc)))) (zg D_take (hr.mono (by first | decide | exact Nat.le_refl _ | omega)) rfl (za (pv 0) (za ze zc))) (fun _ _ => rfl))))
      qk)
      (zk (zx (zg D_odd (hr.mono (by first | decide | exact Nat.le_refl _ | omega)) rfl (za (pv 0) zc)))))),?_⟩
    have odd : ∀ H1 (m : Int),SameB b H H1 -> BoxAt H1 b m -> m <= n + 1 -> yA K [.ref b] H1 Q E := fun H1 m S1 B1 hm1 =>
      ⟨b,m,ex,rfl,B1,by omega,E0.next S1 B1,fun v' H' S' B' dv' => k v' H' (S1.trans S') (B'.mono (by omega)) (dv'.up (Same.refl _) (Nat.zero_le _) (VI hz0 (by decide)) (by omega))⟩
    have S0 := SameB.refl b H
    rcases dv.split2 with rfl | ⟨c,rfl⟩ | ⟨i,rfl,h⟩ | ⟨x,rfl⟩ | ⟨a,t,xs,ds,rfl,hq,rs,gs,bs,psd⟩
    · refine ⟨_,rfl,qX,fun p hp => ⟨_, "NoneType",p,["list", "tuple"],rfl,rfl,zd,(by decide),_,rfl,ifF (by decide) (ifF rfl ?_)⟩⟩
      exact ⟨_,rfl,_,k',z,D,rfl,DS.non,_,rfl,ifF rfl ⟨_,rfl,odd _ n (S0.new hp) (B0.new hp) (by omega)⟩⟩
    · refine ⟨_,rfl,qX,fun p hp => ⟨_, "bool",p,["list", "tuple"],rfl,rfl,zd,(by decide),_,rfl,ifF (by decide) (ifF rfl ?_)⟩⟩
      exact ⟨_,rfl,_,k',z,D,rfl,DS.bl c,_,rfl,ifF rfl ⟨_,rfl,odd _ n (S0.new hp) (B0.new hp) (by omega)⟩⟩
    · refine ⟨_,rfl,qX,fun p hp => ⟨_, "int",p,["list", "tuple"],rfl,rfl,zd,(by decide),_,rfl,ifF (by decide) (ifF rfl ?_)⟩⟩
      refine ⟨_,rfl,_,k',z,D,rfl,DS.int h,_,rfl,ifT rfl ?_⟩
      have hs : i.natAbs < 1000000000000 := by omega
      refine ⟨_,rfl,_,_,rfl,rfl,_,rfl,_,_,rfl,rfl,_,rfl,_,_,rfl,rfl,_,rfl,rfl,_,rfl,i,rfl,yg hs,?_⟩
      refine ⟨_,rfl,b,n,ex,rfl,B0.new hp,by omega,E0.same (zb hp),fun v' H1 S1 B1 dv1 => ⟨leN (by show 6 <= 1000;decide),fun l hl => ?_⟩⟩
      refine ⟨_,rfl,b,6,_,rfl,B1.new hl,by omega,by decide,by decide,fun r H2 r0 r1 B2 S2 => ?_⟩
      have nl := B1.nne hl
      have gl := S2 l _ zd nl
      have S3 := (((S0.new (o := .tup [V.ty "list",V.ty "tuple"]) hp).trans S1).new (o := .lst [.int (i + 1),.int (i - 1),.int (0 - i),.bl (decide (V.int i = V.int 1)),.str (toString i),v']) hl).trans S2
      have w2 := (WX.new (ex := ex) (H := H1) (o := .lst [.int (i + 1),.int (i - 1),.int (0 - i),.bl (decide (V.int i = V.int 1)),.str (toString i),v']) hl).trans (WX.draw E0.mem S2)
      obtain ⟨u,eu,du⟩ := Vx (α := fun x => DS K (WX ex H2) (k' + 1) ((z + 1) * (z + 1)) (D + 4) x) gl r0 r1 (fm (DS.int (by omega)) (fm (DS.int (by omega)) (fm (DS.int (by omega)) (fm (DS.bl _) (fm (DS.istr hs (VI hz0 (by decide))) (fm (dv1.up w2 (Nat.zero_le _) (VI hz0 (by decide)) (by omega)) fm0))))))
      exact ⟨l,_,_,u,rfl,rfl,SqL.of gl,eu,k u H2 S3 (B2.mono (by omega)) du⟩
    · refine ⟨_,rfl,qX,fun p hp => ⟨_, "str",p,["list", "tuple"],rfl,rfl,zd,(by decide),_,rfl,ifF (by decide) (ifF rfl ?_)⟩⟩
      exact ⟨_,rfl,_,k',z,D,rfl,(dv.up ((WX.new hp).trans WX.le) (Nat.le_refl _) (Nat.le_refl _) (Nat.le_refl _)),_,rfl,ifF rfl ⟨_,rfl,odd _ n (S0.new hp) (B0.new hp) (by omega)⟩⟩
    · have sq : ∀ H',SameB b H H' -> SqQ K H' t a xs := fun H' s => hq.same ((WX.draw E0.mem s).trans WX.le)
      obtain ⟨lx,al⟩ := yr (z := z) (D := D) rs gs bs (by omega)
      have ny : (["list", "tuple"].any fun C => Zo (tyQ t) C) = true := by cases t <;> decide
      refine ⟨_,rfl,qX,fun p hp => ⟨_,tyQ t,p,["list", "tuple"],rfl,(sq _ (S0.new hp)).ty,zd,(by decide),_,rfl,ifT ny ?_⟩⟩
      have S1 := S0.new (o := .tup [V.ty "list",V.ty "tuple"]) hp
      have B1 := B0.new (o := .tup [V.ty "list",V.ty "tuple"]) hp
      generalize upd H p (.tup [V.ty "list",V.ty "tuple"]) = H1 at S1 B1
      refine ⟨_,rfl,b,8,n,rfl,B1,by omega,by decide,by decide,fun r H2 r0 r1 B2 S2 => ⟨_,_,rfl,rfl,_,rfl,qw (fun c => ?_) (fun c => ?_)⟩⟩
      · have S2' := S1.trans S2
        refine ⟨_,rfl,_,rfl,b,a,t,xs,n + 1,k',z,D + 3,ex,rfl,B2,by omega,E0.next S2' B2,hq.same (WX.draw E0.mem S2'),lx,fun x hx => (al x hx).up (WX.draw E0.mem S2') (Nat.le_refl _) (by omega) (by omega),hz0,hz1,by omega,fun v' H' S' B' dv' => k v' H' (S2'.trans S') (B'.mono (by omega)) (dv'.up (Same.refl _) (by omega) (Nat.le_refl _) (by omega))⟩
      · have S2' := S1.trans S2
        refine ⟨_,rfl,_,k',z,D,rfl,dv.up ((WX.draw E0.mem S2').trans WX.le) (Nat.le_refl _) (Nat.le_refl _) (Nat.le_refl _),_,rfl,ifF rfl ⟨_,rfl,odd _ _ S2' B2 (by omega)⟩⟩
end
end L2
set_option Elab.async false
set_option linter.all false
set_option maxRecDepth 100000
set_option maxHeartbeats 4000000
namespace L2
open PySem PySem.Spec PyProof.Rows
theorem Qi {k : Nat} : ∀ {ds : List Dat} {i : Nat} {d : Dat},Dat.gds k ds = true -> d.gd k = true -> Dat.gds k (ds.set i d) = true
  | [],_,_,h,_ => h
  | a :: ds,0,d,h,h' => by
    have e : (a.gd k && Dat.gds k ds) = true := h
    rw [Bool.and_eq_true] at e
    show (d.gd k && Dat.gds k ds) = true
    rw [h',e.2];rfl
  | a :: ds,i + 1,d,h,h' => by
    have e : (a.gd k && Dat.gds k ds) = true := h
    rw [Bool.and_eq_true] at e
    show (a.gd k && Dat.gds k (ds.set i d)) = true
    rw [e.1,Qi e.2 h'];rfl
theorem Zd : ∀ {ds : List Dat} {i : Nat} {d : Dat},Dat.blks (ds.set i d) <= Dat.blks ds + d.blk
  | [],_,_ => Nat.zero_le _
  | a :: ds,0,d => by
    show d.blk + 1 + Dat.blks ds <= a.blk + 1 + Dat.blks ds + d.blk
    omega
  | a :: ds,i + 1,d => by
    show a.blk + 1 + Dat.blks (ds.set i d) <= a.blk + 1 + Dat.blks ds + d.blk
    have := Zd (ds := ds) (i := i) (d := d)
    omega
theorem y3 : ∀ {ds : List Dat} {i : Nat} {d : Dat},PyData.depthAll (Dat.pys (ds.set i d)) <= max (PyData.depthAll (Dat.pys ds)) d.py.depth
  | [],_,_ => Nat.zero_le _
  | a :: ds,0,d => Nat.max_le.mpr ⟨Nat.le_max_right _ _,Nat.le_trans (Nat.le_max_right _ _) (Nat.le_max_left _ _)⟩
  | a :: ds,i + 1,d => Nat.max_le.mpr ⟨Nat.le_trans (Nat.le_max_left _ _) (Nat.le_max_left _ _),Nat.le_trans (y3 (ds := ds) (i := i) (d := d)) (Nat.max_le.mpr ⟨Nat.le_trans (Nat.le_max_right _ _) (Nat.le_max_left _ _),Nat.le_max_right _ _⟩)⟩
section
variable {P : Program} {w : World} {K : PySem.W.Frag} {mg : Str -> Option Value} {base : Heap}
theorem Reps.set {H : Hp} : ∀ {ds : List Dat} {xs : List V} {i : Nat} {d : Dat} {v : V},Reps K H ds xs -> Rep K H d v -> Reps K H (ds.set i d) (xs.set i v)
  | [],_,_,_,_,h,_ => by rw [show _ = _ from h];exact rfl
  | a :: ds,_,0,d,v,h,h' => by
    obtain ⟨x,r,e,_,h2⟩ := h
    subst e
    exact ⟨v,r,rfl,h',h2⟩
  | a :: ds,_,i + 1,d,v,h,h' => by
    obtain ⟨x,r,e,h1,h2⟩ := h
    subst e
    exact ⟨x,r.set i v,rfl,h1,Reps.set h2 h'⟩
def vo (K : PySem.W.Frag) : Nat -> Sp
  | 0 => fun _ _ _ _ => False
  | j + 1 => fun vs H Q _ => ∃ (b : Addr) (v : V) (n : Int) (k z D : Nat) (ex : List Addr),vs = [.ref b,v] /\ BoxAt H b n /\ n + 10 * (j + 1) < 1099510000000 /\ Ex H b ex /\ DS K (WX ex H) k z D v /\ 20 <= z /\ z <= 1000 /\ k <= 100 /\ D <= j /\ j <= 20 /\
    ∀ v' H',SameB b H H' -> BoxAt H' b (n + 8 * (j + 1)) -> DS K (WX ex H') (k + 1) ((z + 1) * (z + 1) + (j + 1) * (z + 2)) (D + 4) v' -> Q v' H'
theorem ZU : zy ["_law_box_here", "_law_thing", "_law_at", "_law_some"] ["_law_box_here", "_law_thing"] (zi (zj 32)) := ⟨rfl,rfl,rfl,by decide +kernel,rfl,by decide +kernel,by decide +kernel⟩
def QA (b : _) (a : _) (H : _) (n : _) (xs : List V) := fun (σ' : St) (H' : Hp) => (Ex1 fun (q : Int) => An5 (σ' = [some (.ref b),some (.ref a),some (.int q),none]) (SameB b H H') (BoxAt H' b (n + 3)) (0 <= q) (q < xs.length) : Prop)
theorem yP {f : Addr} {fd : FuncData} (F : Fun K "_law_spoilt" "_law_spoilt" (zj 32) f fd) (B : Blt mg) (hm : mg "_law_spoilt" = some (.ref f)) (hb : Binds K fd ["_law_box_here", "_law_thing"] [])
    (D_take : Dfn P w K mg base "_law_take" 1 ["_law_box_here", "_law_size"] qM) (D_instead : Dfn P w K mg base "_law_instead" 4 ["_law_box_here", "_law_thing"] (wZ K)) :
    ∀ j : Nat,FnOk P w K mg base CX0 (j + 5) f fd ["_law_box_here", "_law_thing"] (vo K j)
  | 0 => ⟨fun _ _ _ _ h => h.elim,fun _ _ _ _ _ _ _ _ _ _ _ _ _ h => h.elim⟩
  | j + 1 => by
    have D_spoilt : Dfn P w K mg base "_law_spoilt" (j + 5) ["_law_box_here", "_law_thing"] (vo K j) := ⟨f,fd,yP F B hm hb D_take D_instead j,hm,F.kp,hb⟩
    have nd := ZU.nd
    refine F.ok ZU (fun vs H Q E h => ?_) (fun cdv A outer s H vs Q E hr h => ?_)
    · obtain ⟨b,v,n,k,z,D,ex,rfl,_⟩ := h
      rfl
    · obtain ⟨b,v,n,k',z,D,ex,rfl,B0,hn,E0,dv,hz0,hz1,hk,hD,hj,k⟩ := h
      have hbig : 100000 < sizeLine := by rw [sizeLine_eq];decide
      refine ⟨_,(zf (qJ (PW.pt (jP (jF (qD (zo xj rfl B.isinstance boot_isinstance (za (pv 1) (za (zQ (za (zO (v := .ty "list") rfl B.list zU rfl) (za (zO (v := .ty "tuple") rfl B.tuple zX rfl) zc))) zc))))) (jP (zG qB (zo zC rfl B.len boot_len (za (pv 1) zc)) ze (zE _)) (jE (zG qB (zg D_take (hr.mono (by first | decide | exact Nat.le_refl _ | omega)) rfl (za (pv 0) (za ze zc))) ze (zE _))))))
      (zk (zx (zg D_instead (hr.mono (by first | decide | exact Nat.le_refl _ | omega)) rfl (za (pv 0) (za (pv 1) zc)))))
      qk)
      (zf (qU (zt (i := 2) nd rfl (Or.inl rfl) (qN (zG qB (zg D_take (hr.mono (by first | decide | exact Nat.le_refl _ | omega)) rfl (za (pv 0) (za ze zc))) ze (zE _)) (zp qz (zo zC rfl B.len boot_len (za (pv 1) zc)) ze) (zg D_take (hr.mono (by first | decide | exact Nat.le_refl _ | omega)) rfl (za (pv 0) (za (zo zC rfl B.len boot_len (za (pv 1) zc)) zc))))))
      (zf (zt (i := 3) nd rfl (Or.inl rfl) (zM jN rfl B.list zU (za (pv 1) zc)))
      (zf (jW (zg D_spoilt (hr.mono (by first | decide | exact Nat.le_refl _ | omega)) rfl (za (pv 0) (za (zr Wb (pv 1) (pv 2) (fun _ _ => rfl)) zc))) (vN (pv 3) (pv 2) jT))
      (zk (zx (qN (qD (zo z6 rfl B.isinstance boot_isinstance (za (pv 1) (za (zO (v := .ty "list") rfl B.list zU rfl) zc)))) (pv 3) (zM zY rfl B.tuple zX (za (pv 3) zc))))))))),?_⟩
      have S0 := SameB.refl b H
      have inst : ∀ H1 (m : Int),SameB b H H1 -> BoxAt H1 b m -> m <= n + 1 -> wZ K [.ref b,v] H1 Q E := fun H1 m S1 B1 hm1 =>
        ⟨b,v,m,k',z,D,ex,rfl,B1,by omega,E0.next S1 B1,dv.up (WX.draw E0.mem S1) (Nat.le_refl _) (Nat.le_refl _) (Nat.le_refl _),hz0,hz1,hk,fun v' H' S' B' dv' => k v' H' (S1.trans S') (B'.mono (by omega)) (dv'.up (Same.refl _) (Nat.le_refl _) (Nat.le_add_right _ _) (Nat.le_refl _))⟩
      rcases dv.split2 with rfl | ⟨c,rfl⟩ | ⟨i,rfl,h⟩ | ⟨x,rfl⟩ | ⟨a,t,xs,ds,rfl,hq,rs,gs,bs,psd⟩
      · exact ⟨_,rfl,qX,fun p hp => ⟨_, "NoneType",p,["list", "tuple"],rfl,rfl,zd,(by decide),_,rfl,ifT (by decide) (ifT rfl ⟨_,rfl,_,rfl,inst _ n (S0.new hp) (B0.new hp) (by omega)⟩)⟩⟩
      · exact ⟨_,rfl,qX,fun p hp => ⟨_, "bool",p,["list", "tuple"],rfl,rfl,zd,(by decide),_,rfl,ifT (by decide) (ifT rfl ⟨_,rfl,_,rfl,inst _ n (S0.new hp) (B0.new hp) (by omega)⟩)⟩⟩
      · exact ⟨_,rfl,qX,fun p hp => ⟨_, "int",p,["list", "tuple"],rfl,rfl,zd,(by decide),_,rfl,ifT (by decide) (ifT rfl ⟨_,rfl,_,rfl,inst _ n (S0.new hp) (B0.new hp) (by omega)⟩)⟩⟩
      · exact ⟨_,rfl,qX,fun p hp => ⟨_, "str",p,["list", "tuple"],rfl,rfl,zd,(by decide),_,rfl,ifT (by decide) (ifT rfl ⟨_,rfl,_,rfl,inst _ n (S0.new hp) (B0.new hp) (by omega)⟩)⟩⟩
      have sq : ∀ H',SameB b H H' -> SqQ K H' t a xs := fun H' s => hq.same ((WX.draw E0.mem s).trans WX.le)
      obtain ⟨lx,al⟩ := yr (z := z) (D := D - 1) rs gs bs (by omega)
      have ny : (!(["list", "tuple"].any fun C => Zo (tyQ t) C)) = false := by cases t <;> decide
      refine ⟨_,rfl,qX,fun p hp => ⟨_,tyQ t,p,["list", "tuple"],rfl,(sq _ (S0.new hp)).ty,zd,(by decide),_,rfl,ifF ny ?_⟩⟩
      have S1 := S0.new (o := .tup [V.ty "list",V.ty "tuple"]) hp
      have B1 := B0.new (o := .tup [V.ty "list",V.ty "tuple"]) hp
      generalize upd H p (.tup [V.ty "list",V.ty "tuple"]) = H1 at S1 B1
      refine ⟨_,rfl,a,xs,rfl,(sq _ S1).or,rfl,_,rfl,qw (fun c2 => ifT rfl ⟨_,rfl,_,rfl,inst H1 n S1 B1 (by omega)⟩) (fun c2 => ⟨_,rfl,b,4,n,rfl,B1,by omega,by decide,by decide,fun r H2 r0 r1 B2 S2 => ⟨rfl,_,rfl,qw (fun c3 => ⟨_,rfl,_,rfl,inst H2 _ (S1.trans S2) B2 (by omega)⟩) (fun c3 => ?_)⟩⟩)⟩
      have S2' := S1.trans S2
      have x0 : xs.length ≠ 0 := fun z => c2 (by rw [z];exact decide_eq_true rfl)
      clear S1 S2 B1
      refine ⟨QA b a H n xs,?_,?_⟩
      · refine ⟨_,rfl,b,3,n + 1,rfl,B2,by omega,by decide,by decide,fun r2 H3 r20 r21 B3 S3 => ⟨rfl,_,rfl,qw (fun e => ?_) (fun e => ?_)⟩⟩
        · exact ⟨_,rfl,a,xs,rfl,(sq _ (S2'.trans S3)).or,_,_,rfl,rfl,_,rfl,S2'.trans S3,B3.mono (by omega),by omega,by omega⟩
        · exact ⟨_,rfl,_,rfl,a,xs,rfl,(sq _ (S2'.trans S3)).or,b,_,n + 1 + 1,rfl,B3,by omega,by omega,by omega,fun q H4 q0 q1 B4 S4 => ⟨q,rfl,(S2'.trans S3).trans S4,B4.mono (by omega),q0,q1⟩⟩
      rintro σ' H3 ⟨q,rfl,S3,B3,q0,q1⟩
      clear S2' B2
      refine ⟨_,rfl,a,xs,rfl,(sq _ S3).or,fun m hm => ?_⟩
      have E3 := E0.next S3 B3
      have mH : H m = none := S3.none hm (B3.nne hm)
      have mb := B3.nne hm
      have mx := E3.out hm
      have S4 := S3.new (o := .lst xs) hm
      have B4 := B3.new (o := .lst xs) hm
      have E4 := E3.same (zb (o := .lst xs) hm)
      have w4 := (WX.draw E0.mem S3).trans (WX.fresh hm (.lst xs))
      have f4 : upd H3 m (.lst xs) m = some (.lst xs) := zd
      generalize upd H3 m (.lst xs) = H4 at S4 B4 E4 f4 w4
      obtain ⟨x,ex1,ex2⟩ := xZ (xs := xs) q0 q1
      have dx := (al x (List.mem_of_getElem? ex2)).up w4 (Nat.le_refl _) (by omega : z - 1 <= z) (Nat.le_refl _)
      obtain ⟨j',rfl⟩ : ∃ j',j = j' + 1 := ⟨j - 1,by omega⟩
      have ty := fun H' s => (sq H' s).ty
      have D1 : 1 <= D := by omega
      cases t
      all_goals
        refine ⟨_,rfl,_,rfl,_,rfl,?_⟩
        first
          | refine .inl ⟨a,xs,_,x,rfl,rfl,sq _ S4,ex1,?_⟩
          | refine .inr (.inl ⟨a,xs,_,x,rfl,rfl,sq _ S4,ex1,?_⟩)
        refine ⟨b,x,n + 3,k',z,D - 1,m :: ex,rfl,B4,by omega,E4.cons f4,dx,hz0,hz1,hk,by omega,by omega,fun v' H5 S5 B5 dv5 => ?_⟩
        have f5 := S5 m _ f4 mb
        refine ⟨_,rfl,_,rfl,m,xs,q,q.toNat,rfl,rfl,f5,Wc q0 q1,?_⟩
        have S6 := (S4.trans S5).put (o := .lst (xs.set q.toNat v')) mH
        have B6 := B5.other (o := .lst (xs.set q.toNat v')) mb
        have f6 : upd H5 m (.lst (xs.set q.toNat v')) m = some (.lst (xs.set q.toNat v')) := zd
        have dv6 := dv5.up ((WX.put (H := H5) (o := .lst (xs.set q.toNat v')) List.mem_cons_self).trans WX.cons) (Nat.le_refl _) (Nat.le_refl _) (Nat.le_refl _)
        generalize upd H5 m (.lst (xs.set q.toNat v')) = H6 at S6 B6 f6 dv6
        have E6 := E0.next S6 B6
        obtain ⟨d',rd,gd⟩ := dv6
        have rs6 := Reps.set (i := q.toNat) (rs.same (WX.draw E0.mem S6)) rd
        have g6 := Qi (i := q.toNat) (d := d') (Dat.gds_up (by omega : k' <= k' + 1) gs) gd.g
        have b6 := Zd (ds := ds) (i := q.toNat) (d := d')
        have p6 := y3 (ds := ds) (i := q.toNat) (d := d')
        have gb := gd.b
        have gp := gd.p
        have em : (j' + 1 + 1) * (z + 2) = (j' + 1) * (z + 2) + (z + 2) := Nat.succ_mul _ _
        have hb6 : Dat.blks (ds.set q.toNat d') <= (z + 1) * (z + 1) + (j' + 1 + 1) * (z + 2) := by
          rw [em]
          omega
        have hp6 : PyData.depthAll (Dat.pys (ds.set q.toNat d')) + 1 <= D + 4 := by omega
        refine ⟨_,rfl,_,_, "list",rfl,ty _ S6,(by decide),_,rfl,qw (fun e => ⟨_,rfl,?_⟩) (fun e => ⟨_,rfl,m,_,rfl,.inl ⟨SqL.of f6,fun p' hp' => ?_⟩⟩)⟩
        · exact k _ H6 S6 (B6.mono (by omega)) ⟨.lst (ds.set q.toNat d'),⟨m,_,rfl,SqL.of (WX.at mx f6),rs6⟩,g6,hb6,hp6⟩
        · exact k _ _ (S6.new hp') ((B6.new hp').mono (by omega)) ⟨.tup (ds.set q.toNat d'),⟨p',_,rfl,SqT.of (WX.at (E6.out hp') zd),rs6.same (WX.new hp')⟩,g6,hb6,hp6⟩
end
end L2
set_option Elab.async false
set_option linter.all false
set_option maxRecDepth 100000
set_option maxHeartbeats 4000000
namespace L2
open PySem PySem.Spec PyProof.Rows
def qZ : List Int -> List Bool
  | p :: q :: r => decide (jz (p - q) <= 1) :: qZ (q :: r)
  | _ => []
theorem xS : ∀ l : List Int,(qZ l).length = l.length - 1
  | [] => rfl
  | [_] => rfl
  | p :: q :: r => by
    have := xS (q :: r)
    show (qZ (q :: r)).length + 1 = _
    rw [this];simp
theorem xT : ∀ {l : List Int} {i : Nat} {p q : Int},l[i]? = some p -> l[i + 1]? = some q -> (qZ l)[i]? = some (decide (jz (p - q) <= 1))
  | [],_,_,_,h,_ => by simp at h
  | [_],i,_,_,_,h => by simp at h
  | a :: b :: r,0,p,q,h1,h2 => by simp at h1 h2;subst h1;subst h2;rfl
  | a :: b :: r,i + 1,p,q,h1,h2 => xT (l := b :: r) (i := i) (by simpa using h1) (by simpa using h2)
def z7 : Dat -> Bool
  | .int _ => true
  | _ => false
def wT : Dat -> Bool
  | .lst ds => !ds.isEmpty && (ds.all z7 && (qZ (ds.map fun d => match d with | .int i => i | _ => 0)).all id)
  | _ => false
theorem ZF : ∀ {ds : List Dat},ds.all z7 = true -> ∃ ns : List Int,ds = ns.map Dat.int
  | [],_ => ⟨[],rfl⟩
  | d :: ds,h => by
    have h' : (z7 d && ds.all z7) = true := by simpa using h
    rw [Bool.and_eq_true] at h'
    obtain ⟨ns,rfl⟩ := ZF h'.2
    cases d with
    | int i => exact ⟨i :: ns,rfl⟩
    | _ => cases h'.1
theorem x5 {ns : List Int} (h : ns ≠ []) : wT (.lst (ns.map Dat.int)) = (qZ ns).all id := by
  have e1 : (ns.map Dat.int).isEmpty = false := by
    cases ns with
    | nil => exact absurd rfl h
    | cons a r => rfl
  have e2 : (ns.map Dat.int).all z7 = true := by
    rw [List.all_map]
    exact List.all_eq_true.mpr fun _ _ => rfl
  have e3 : (ns.map Dat.int).map (fun d => match d with | .int i => i | _ => 0) = ns := by
    rw [List.map_map]
    exact List.map_id _
  show (!(ns.map Dat.int).isEmpty && ((ns.map Dat.int).all z7 && (qZ ((ns.map Dat.int).map fun d => match d with | .int i => i | _ => 0)).all id)) = _
  rw [e1,e2,e3]
  rfl
theorem vy {ds : List Dat} (h : ds.all z7 = false) : wT (.lst ds) = false := by
  show (!ds.isEmpty && (ds.all z7 && _)) = false
  rw [h]
  simp
section
variable {P : Program} {w : World} {K : PySem.W.Frag} {mg : Str -> Option Value} {base : Heap}
theorem xW {H : Hp} : ∀ {ns : List Int} {xs : List V},Reps K H (ns.map Dat.int) xs -> xs = ns.map V.int
  | [],_,h => h
  | n :: ns,_,h => by
    obtain ⟨v,r,e,h1,h2⟩ := h
    subst e
    rw [xW h2,show v = _ from h1]
    rfl
theorem J7 {H : Hp} {d : Dat} {x : V} (h : Rep K H d x) : Xk x = z7 d := by
  cases d with
  | lst ds => obtain ⟨a,xs,rfl,_⟩ := h;rfl
  | tup ds => obtain ⟨a,xs,rfl,_⟩ := h;rfl
  | _ => rw [show x = _ from h];rfl
theorem xh (xs : List V) : qb xs (some 1) none = xs.drop 1 := by
  unfold qb
  rw [show (some (1 : Int)) = some ((1 : Nat) : Int) from rfl,HT.sIx_nat,HT.sIx_none]
  cases xs with
  | nil => rfl
  | cons x r =>
    have : min 1 (x :: r).length = 1 := by simp only [List.length_cons];omega
    rw [this]
    simp
inductive ZQ (K : PySem.W.Frag) (vs : List V) (H : Hp) (Q : VK) : Prop
  | mk (v : V) (d : Dat) (k z D : Nat) (_ : vs = [v]) (_ : Rep K H d v) (_ : Gd k z D d) (_ : z <= 1000000) (_ : ∀ H',Same H H' -> Q (.bl (wT d)) H') : ZQ K vs H Q
def ww (K : PySem.W.Frag) : Sp := fun vs H Q _ => ZQ K vs H Q
theorem in3 (z : Int) : inV (.int z) [.int (-1),.int 0,.int 1] = decide (jz z <= 1) := by
  show ((-1 == z) || ((0 == z) || ((1 == z) || false))) = _
  rw [Bool.eq_iff_iff]
  unfold jz
  simp only [Bool.or_eq_true,beq_iff_eq,decide_eq_true_iff,Bool.false_eq_true,or_false]
  split <;> omega
theorem Gd.lst_len {k z D : Nat} {H : Hp} {ds : List Dat} {xs : List V} (g : Gd k z D (.lst ds)) (r : Reps K H ds xs) : xs.length <= z /\ ∀ x ∈ xs,DS K H k (z - 1) D x := by
  have p : PyData.depthAll (Dat.pys ds) + 1 <= D := g.p
  exact yr r g.g g.b (by omega)
theorem Vs : zy ["thing"] ["thing"] (zi (zj 8)) := ⟨rfl,rfl,rfl,by decide +kernel,rfl,by decide +kernel,by decide +kernel⟩
theorem V3 {f : Addr} {fd : FuncData} (F : Fun K "is_track" "is_track" (zj 8) f fd) (B : Blt mg) (Dis_number : Dfn P w K mg base "is_number" 1 ["thing"] (jD K)) : FnOk P w K mg base CX0 2 f fd ["thing"] (ww K) := by
  have nd := Vs.nd
  refine F.ok Vs (fun vs H Q E h => ?_) (fun cdv A outer s H vs Q E hr h => ?_)
  · obtain ⟨v,d,k,z,D,rfl,_⟩ := h
    rfl
  · obtain ⟨v,d,k',z,D,rfl,rd,gd,hz,k⟩ := h
    have hu := hr.units0
    have hbig : 1000000 < sizeLine := by rw [sizeLine_eq];decide
    refine ⟨_,(zf (qJ (PW.pt (jP (jF (qD (zo z6 rfl B.isinstance boot_isinstance (za (pv 0) (za (zO (v := .ty "list") rfl B.list zU rfl) zc))))) (jP (zG qB (zo zC rfl B.len boot_len (za (pv 0) zc)) ze (zE _)) (jE (jF (qD (zo (jl rfl) rfl B.all boot_all (za (jH [] [] rfl rfl (by kernel_rfl) (qV (pv 0)) (fun C0 s0 H0 ex0 => qH) (fun C0 s0 H0 ex0 => (zg Dis_number (hr.mono (by first | decide | exact Nat.le_refl _ | omega)) rfl (za (pv 0) zc)))) zc))))))))
      (zk (zx x9))
      qk)
      (zk (zx (zo (jl rfl) rfl B.all boot_all (za (xu [] [] rfl rfl (by kernel_rfl) (vM rfl B.zip (za (pv 0) (za (qh qC (pv 0) (qe ze) qS) zc))) (fun C0 s0 H0 ex0 => qH) (fun C0 s0 H0 ex0 => (qm WG (zo jr rfl B.abs jt (za (zp qz (pv 0) (pv 1)) zc)) ze (zE _)))) zc))))),?_⟩
    cases d with
    | non =>
      cases (show v = _ from rd)
      exact ⟨_,rfl,_, "NoneType", "list",rfl,rfl,(by decide),_,rfl,ifT (by decide) (ifT rfl (k _ (Same.refl _)))⟩
    | bl c =>
      cases (show v = _ from rd)
      exact ⟨_,rfl,_, "bool", "list",rfl,rfl,(by decide),_,rfl,ifT (by decide) (ifT rfl (k _ (Same.refl _)))⟩
    | int i =>
      cases (show v = _ from rd)
      exact ⟨_,rfl,_, "int", "list",rfl,rfl,(by decide),_,rfl,ifT (by decide) (ifT rfl (k _ (Same.refl _)))⟩
    | str x =>
      cases (show v = _ from rd)
      exact ⟨_,rfl,_, "str", "list",rfl,rfl,(by decide),_,rfl,ifT (by decide) (ifT rfl (k _ (Same.refl _)))⟩
    | tup ds =>
      obtain ⟨a,xs,rfl,hq,rs⟩ := rd
      exact ⟨_,rfl,_, "tuple", "list",rfl,.inr ⟨rfl,xs,hq⟩,(by decide),_,rfl,ifT (by decide) (ifT rfl (k _ (Same.refl _)))⟩
    | lst ds =>
      obtain ⟨a,xs,rfl,hq,rs⟩ := rd
      obtain ⟨lx,al⟩ := gd.lst_len rs
      have lds := rs.len
      refine ⟨_,rfl,_, "list", "list",rfl,.inl ⟨rfl,xs,hq⟩,(by decide),_,rfl,ifF (by decide) ?_⟩
      refine ⟨_,rfl,a,xs,rfl,.inl hq,rfl,_,rfl,qw (fun c => ?_) (fun c => ?_)⟩
      · have e : ds = [] := by
          have h1 : V.int (xs.length : Int) = V.int 0 := of_decide_eq_true c
          have h2 : (xs.length : Int) = 0 := V.int.inj h1
          exact List.length_eq_zero_iff.mp (by omega)
        subst e
        exact ifT rfl (k _ (Same.refl _))
      have s0 := Same.refl H
      generalize hH0 : H = H0 at s0
      rw [<- hH0] at s0 ⊢
      subst hH0
      have ne : ds ≠ [] := fun z => by
        subst z
        have : xs = [] := rs
        subst this
        exact c rfl
      have hqH := s0.seq hq
      refine ⟨_,rfl,a,rfl,⟨_,hqH⟩,xG (K := K) (a := a) (xs := xs) (fun i zs H1 => zs = ((ds.take i).map z7).map V.bl /\ Same H H1) ⟨rfl,Same.refl _⟩ (fun i zs H1 ⟨_,s1⟩ => s1.seq hqH) ?_ ?_⟩
      · rintro i x zs H1 hx ⟨rfl,s1⟩
        obtain ⟨d,ed,rd⟩ := ((rs.same s0).same s1).get hx
        have hi : i < ds.length := (List.getElem?_eq_some_iff.mp ed).1
        refine ⟨rfl,⟨_,rfl,x,k',z - 1,D,rfl,(al x (List.mem_of_getElem? hx)).up (s0.trans s1) (Nat.le_refl _) (Nat.le_refl _) (Nat.le_refl _),?_,?_,s1⟩⟩
        · rw [List.length_map,List.length_map,List.length_take];omega
        · rw [qi ed,List.map_append,List.map_append,J7 rd];rfl
      rintro zs H1 ⟨rfl,s1⟩
      have etk : ds.take xs.length = ds := by rw [lds,List.take_length]
      rw [etk]
      refine ⟨by rw [List.length_map,List.length_map];omega,fun D1 hD1 => ⟨D1,ds.map z7,rfl,SqL.of zd,_,rfl,?_⟩⟩
      have s2 := (s0.trans s1).trans (zb (o := .lst ((ds.map z7).map V.bl)) hD1)
      generalize upd H1 D1 (.lst ((ds.map z7).map V.bl)) = H2 at s2
      have eall : (ds.map z7).all id = ds.all z7 := by rw [List.all_map];rfl
      rw [eall]
      refine qw (fun c1 => ?_) (fun c1 => ?_)
      · have e : ds.all z7 = false := by simpa using c1
        have := k H2 s2
        rw [vy e] at this
        exact this
      have e : ds.all z7 = true := by simpa using c1
      obtain ⟨ns,rfl⟩ := ZF e
      have nne : ns ≠ [] := fun z => ne (by rw [z];rfl)
      rw [x5 nne] at k
      have exs := xW rs
      subst exs
      have ha2 := s2.seq hq
      rw [List.length_map] at lx
      refine ⟨_,rfl,_,rfl,1,rfl,a,_,rfl,ha2,fun t ht => ?_⟩
      have s3 := s2.trans (zb (o := .lst (qb (ns.map V.int) (some 1) none)) ht)
      have ht3 : upd H2 t (.lst (qb (ns.map V.int) (some 1) none)) t = some (.lst ((ns.map V.int).drop 1)) := by rw [zd,xh]
      generalize upd H2 t (.lst (qb (ns.map V.int) (some 1) none)) = H3 at s3 ht3
      have ha3 := s3.seq hq
      refine ⟨true,true,a,t,rfl,⟨_,ha3⟩,⟨_,SqL.of ht3⟩,?_⟩
      have sl := xS ns
      refine yh (K := K) (k1 := true) (k2 := true) (xs := ns.map V.int) (ys := (ns.map V.int).drop 1) (fun i zs H4 => zs = ((qZ ns).take i).map V.bl /\ Same H3 H4) ⟨rfl,Same.refl _⟩ (fun i zs H4 ⟨_,sm⟩ => ⟨sm.seq ha3,sm.seq (SqL.of ht3)⟩) ?_ ?_
      · rintro i x y zs H4 T e1 e2 ⟨rfl,sm⟩ hT
        have e2' : (ns.map V.int)[i + 1]? = some y := by rw [List.getElem?_drop] at e2;rw [Nat.add_comm];exact e2
        rw [List.getElem?_map] at e1 e2'
        obtain ⟨z1,ez1,rfl⟩ := Option.map_eq_some_iff.mp e1
        obtain ⟨z2,ez2,rfl⟩ := Option.map_eq_some_iff.mp e2'
        have hi : i + 1 < ns.length := (List.getElem?_eq_some_iff.mp ez2).1
        refine ⟨T,_,rfl,SqT.of zd,rfl,_,_,rfl,_,_,rfl,rfl,rfl,?_⟩
        refine ⟨_,rfl,_,rfl,_,_,rfl,rfl,_,rfl,_,_,rfl,rfl,?_,?_,sm.trans (zb hT)⟩
        · rw [List.length_map,List.length_take];omega
        · rw [qi (xT ez1 ez2),List.map_append];rfl
      · rintro zs H4 ⟨rfl,sm⟩
        have hm : min (ns.map V.int).length ((ns.map V.int).drop 1).length = (qZ ns).length := by rw [sl,List.length_drop,List.length_map];omega
        rw [hm,List.take_length]
        refine ⟨by rw [List.length_map];omega,fun D2 hD2 => ⟨D2,qZ ns,rfl,SqL.of zd,k _ ((s3.trans sm).trans (zb hD2))⟩⟩
theorem Vt : zy ["_law_thing"] ["_law_thing"] (zi (zj 37)) := ⟨rfl,rfl,rfl,by decide +kernel,rfl,by decide +kernel,by decide +kernel⟩
theorem V4 {f : Addr} {fd : FuncData} (F : Fun K "_law_is_line" "_law_is_line" (zj 37) f fd) (B : Blt mg) (D_is_number : Dfn P w K mg base "_law_is_number" 1 ["_law_thing"] (jD K)) : FnOk P w K mg base CX0 2 f fd ["_law_thing"] (ww K) := by
  have nd := Vt.nd
  refine F.ok Vt (fun vs H Q E h => ?_) (fun cdv A outer s H vs Q E hr h => ?_)
  · obtain ⟨v,d,k,z,D,rfl,_⟩ := h
    rfl
  · obtain ⟨v,d,k',z,D,rfl,rd,gd,hz,k⟩ := h
    have hu := hr.units0
    have hbig : 1000000 < sizeLine := by rw [sizeLine_eq];decide
    refine ⟨_,(zf (qJ (PW.pt (jP (jF (qD (zo z6 rfl B.isinstance boot_isinstance (za (pv 0) (za (zO (v := .ty "list") rfl B.list zU rfl) zc))))) (jP (zG (yO hu) (pv 0) (zA zc) (zE _)) (jE (jF (qD (zo (jl rfl) rfl B.all boot_all (za (jH [] [] rfl rfl (by kernel_rfl) (qV (pv 0)) (fun C0 s0 H0 ex0 => qH) (fun C0 s0 H0 ex0 => (zg D_is_number (hr.mono (by first | decide | exact Nat.le_refl _ | omega)) rfl (za (pv 0) zc)))) zc))))))))
      (zk (zx x9))
      qk)
      (zk (zx (zo (jl rfl) rfl B.all boot_all (za (xu [] [] rfl rfl (by kernel_rfl) (vM rfl B.zip (za (pv 0) (za (qh qC (pv 0) (qe ze) qS) zc))) (fun C0 s0 H0 ex0 => qH) (fun C0 s0 H0 ex0 => (qm (xx (K := K) rfl) (zp qz (pv 0) (pv 1)) (zQ (za (yN vw ze) (za ze (za ze zc)))) (by with_unfolding_all rfl)))) zc))))),?_⟩
    cases d with
    | non =>
      cases (show v = _ from rd)
      exact ⟨_,rfl,_, "NoneType", "list",rfl,rfl,(by decide),_,rfl,ifT (by decide) (ifT rfl (k _ (Same.refl _)))⟩
    | bl c =>
      cases (show v = _ from rd)
      exact ⟨_,rfl,_, "bool", "list",rfl,rfl,(by decide),_,rfl,ifT (by decide) (ifT rfl (k _ (Same.refl _)))⟩
    | int i =>
      cases (show v = _ from rd)
      exact ⟨_,rfl,_, "int", "list",rfl,rfl,(by decide),_,rfl,ifT (by decide) (ifT rfl (k _ (Same.refl _)))⟩
    | str x =>
      cases (show v = _ from rd)
      exact ⟨_,rfl,_, "str", "list",rfl,rfl,(by decide),_,rfl,ifT (by decide) (ifT rfl (k _ (Same.refl _)))⟩
    | tup ds =>
      obtain ⟨a,xs,rfl,hq,rs⟩ := rd
      exact ⟨_,rfl,_, "tuple", "list",rfl,.inr ⟨rfl,xs,hq⟩,(by decide),_,rfl,ifT (by decide) (ifT rfl (k _ (Same.refl _)))⟩
    | lst ds =>
      obtain ⟨a,xs,rfl,hq,rs⟩ := rd
      obtain ⟨lx,al⟩ := gd.lst_len rs
      have lds := rs.len
      refine ⟨_,rfl,_, "list", "list",rfl,.inl ⟨rfl,xs,hq⟩,(by decide),_,rfl,ifF (by decide) ?_⟩
      refine ⟨_,rfl,le0,fun q0 hq0 => ⟨a,q0,xs,rfl,rfl,(zb hq0).seq hq,SqL.of zd,_,rfl,qw (fun c => ?_) (fun c => ?_)⟩⟩
      · have e : ds = [] := by
          cases ds with
          | nil => rfl
          | cons d ds =>
            cases xs with
            | nil => simp at lds
            | cons y ys => cases c
        subst e
        exact ifT rfl (k _ (zb hq0))
      have s0 := zb (o := .lst []) hq0
      generalize upd H q0 (.lst []) = H0 at s0
      have ne : ds ≠ [] := fun z => by
        subst z
        have : xs = [] := rs
        subst this
        exact c rfl
      have hqH := s0.seq hq
      refine ⟨_,rfl,a,rfl,⟨_,hqH⟩,xG (K := K) (a := a) (xs := xs) (fun i zs H1 => zs = ((ds.take i).map z7).map V.bl /\ Same H0 H1) ⟨rfl,Same.refl _⟩ (fun i zs H1 ⟨_,s1⟩ => s1.seq hqH) ?_ ?_⟩
      · rintro i x zs H1 hx ⟨rfl,s1⟩
        obtain ⟨d,ed,rd⟩ := ((rs.same s0).same s1).get hx
        have hi : i < ds.length := (List.getElem?_eq_some_iff.mp ed).1
        refine ⟨rfl,⟨_,rfl,x,k',z - 1,D,rfl,(al x (List.mem_of_getElem? hx)).up (s0.trans s1) (Nat.le_refl _) (Nat.le_refl _) (Nat.le_refl _),?_,?_,s1⟩⟩
        · rw [List.length_map,List.length_map,List.length_take];omega
        · rw [qi ed,List.map_append,List.map_append,J7 rd];rfl
      rintro zs H1 ⟨rfl,s1⟩
      have etk : ds.take xs.length = ds := by rw [lds,List.take_length]
      rw [etk]
      refine ⟨by rw [List.length_map,List.length_map];omega,fun D1 hD1 => ⟨D1,ds.map z7,rfl,SqL.of zd,_,rfl,?_⟩⟩
      have s2 := (s0.trans s1).trans (zb (o := .lst ((ds.map z7).map V.bl)) hD1)
      generalize upd H1 D1 (.lst ((ds.map z7).map V.bl)) = H2 at s2
      have eall : (ds.map z7).all id = ds.all z7 := by rw [List.all_map];rfl
      rw [eall]
      refine qw (fun c1 => ?_) (fun c1 => ?_)
      · have e : ds.all z7 = false := by simpa using c1
        have := k H2 s2
        rw [vy e] at this
        exact this
      have e : ds.all z7 = true := by simpa using c1
      obtain ⟨ns,rfl⟩ := ZF e
      have nne : ns ≠ [] := fun z => ne (by rw [z];rfl)
      rw [x5 nne] at k
      have exs := xW rs
      subst exs
      have ha2 := s2.seq hq
      rw [List.length_map] at lx
      refine ⟨_,rfl,_,rfl,1,rfl,a,_,rfl,ha2,fun t ht => ?_⟩
      have s3 := s2.trans (zb (o := .lst (qb (ns.map V.int) (some 1) none)) ht)
      have ht3 : upd H2 t (.lst (qb (ns.map V.int) (some 1) none)) t = some (.lst ((ns.map V.int).drop 1)) := by rw [zd,xh]
      generalize upd H2 t (.lst (qb (ns.map V.int) (some 1) none)) = H3 at s3 ht3
      have ha3 := s3.seq hq
      refine ⟨true,true,a,t,rfl,⟨_,ha3⟩,⟨_,SqL.of ht3⟩,?_⟩
      have sl := xS ns
      refine yh (K := K) (k1 := true) (k2 := true) (xs := ns.map V.int) (ys := (ns.map V.int).drop 1) (fun i zs H4 => zs = ((qZ ns).take i).map V.bl /\ Same H3 H4) ⟨rfl,Same.refl _⟩ (fun i zs H4 ⟨_,sm⟩ => ⟨sm.seq ha3,sm.seq (SqL.of ht3)⟩) ?_ ?_
      · rintro i x y zs H4 T e1 e2 ⟨rfl,sm⟩ hT
        have e2' : (ns.map V.int)[i + 1]? = some y := by rw [List.getElem?_drop] at e2;rw [Nat.add_comm];exact e2
        rw [List.getElem?_map] at e1 e2'
        obtain ⟨z1,ez1,rfl⟩ := Option.map_eq_some_iff.mp e1
        obtain ⟨z2,ez2,rfl⟩ := Option.map_eq_some_iff.mp e2'
        have hi : i + 1 < ns.length := (List.getElem?_eq_some_iff.mp ez2).1
        refine ⟨T,_,rfl,SqT.of zd,rfl,_,_,rfl,_,_,rfl,rfl,rfl,?_⟩
        refine ⟨_,rfl,_,rfl,_,_,rfl,rfl,_,rfl,le3,fun q hq' => ⟨q,_,rfl,.inr (SqT.of zd),rfl,rfl,?_,?_,(sm.trans (zb hT)).trans (zb hq')⟩⟩
        · rw [List.length_map,List.length_take];omega
        · rw [qi (xT ez1 ez2),List.map_append,<- in3];rfl
      · rintro zs H4 ⟨rfl,sm⟩
        have hm : min (ns.map V.int).length ((ns.map V.int).drop 1).length = (qZ ns).length := by rw [sl,List.length_drop,List.length_map];omega
        rw [hm,List.take_length]
        refine ⟨by rw [List.length_map];omega,fun D2 hD2 => ⟨D2,qZ ns,rfl,SqL.of zd,k _ ((s3.trans sm).trans (zb hD2))⟩⟩
inductive yD (vs : List V) (H : Hp) (Q : VK) : Prop
  | mk (b : Addr) (m s n : Int) (_ : vs = [.ref b,.int m,.int s]) (_ : BoxAt H b n) (_ : n < 1000000) (_ : 1 <= m) (_ : m <= 400) (_ : -5000 <= s) (_ : s <= 5000) (_ : ∀ (l : Addr) (ns : List Int) H',SameB b H H' -> BoxAt H' b (n + 1000) -> l ≠ b -> H l = none -> H' l = some (.lst (ns.map V.int)) -> (ns.length : Int) = m -> (∀ z ∈ ns,-6000 <= z /\ z <= 6000) -> Q (.ref l) H') : yD  vs H Q
def Zu : Sp := fun vs H Q _ => yD  vs H Q
theorem JA : zy ["_law_box_here", "_law_many", "_law_begin", "_law_found", "_law_step", "_law_k"] ["_law_box_here", "_law_many", "_law_begin"] (zi (zj 34)) := ⟨rfl,rfl,rfl,by decide +kernel,rfl,by decide +kernel,by decide +kernel⟩
def Qz (b : _) (m : _) (st : _) (l : _) (H : _) (n : _) := fun (i : Nat) (σ : St) (H4 : Hp) => (Ex4 fun (step z : Int) (ms : List Int) (v5 : Option V) => An8 (σ = [some (.ref b),some (.int m),some (.int st),some (.ref l),some (.int step),v5]) (-1 <= step) (step <= 1) (SameB b H H4) (BoxAt H4 b (n + 1 + 2 * i)) (H4 l = some (.lst ((ms ++ [z]).map V.int))) (ms.length = i) (∀ y ∈ ms ++ [z],-5000 - (i : Int) <= y /\ y <= 5000 + (i : Int)) : Prop)
def Qy (b : _) (m : _) (st : _) (l : _) (i : Nat) (H : _) (n : _) (ms : List Int) (z : _) := fun (σ' : St) (H' : Hp) => (Ex1 fun (step' : Int) => An6 (σ' = [some (.ref b),some (.int m),some (.int st),some (.ref l),some (.int step'),some (.int (0 + (i : Int)))]) (-1 <= step') (step' <= 1) (SameB b H H') (BoxAt H' b (n + 1 + 2 * i + 2)) (H' l = some (.lst ((ms ++ [z]).map V.int))) : Prop)
theorem X1 {f : Addr} {fd : FuncData} (F : Fun K "_law_line" "_law_line" (zj 34) f fd) (B : Blt mg) (D_take : Dfn P w K mg base "_law_take" 1 ["_law_box_here", "_law_size"] qM) : FnOk P w K mg base CX0 2 f fd ["_law_box_here", "_law_many", "_law_begin"] Zu := by
  have nd := JA.nd
  refine F.ok JA (fun vs H Q E h => ?_) (fun cdv A outer s H vs Q E hr h => ?_)
  · obtain ⟨b,m,s',n,rfl,_⟩ := h
    rfl
  · obtain ⟨b,m,st,n,rfl,B0,hn,m0,m1,s0,s1,k⟩ := h
    have hbig : 100000 < sizeLine := by rw [sizeLine_eq];decide
    have e62 : (2 : Int) ^ 62 = 4611686018427387904 := by decide
    refine ⟨_,(zf (xr (i := 3) (j := 4) rfl nd rfl rfl (by decide) rfl rfl (za (zA (za (pv 2) zc)) (za (zp qz (zg D_take (hr.mono (by first | decide | exact Nat.le_refl _ | omega)) rfl (za (pv 0) (za ze zc))) ze) zc)) (by rfl))
      (zf (qy PassesOwn.never rfl (zV rfl B.range (za (zp qz (pv 1) ze) zc)) (zF (i := 5) nd rfl (Or.inl rfl))
      (zf (qU (qJ (zG qB (zg D_take (hr.mono (by first | decide | exact Nat.le_refl _ | omega)) rfl (za (pv 0) (za ze zc))) ze (zE _))
        (zk (zt (i := 4) nd rfl (Or.inl rfl) (zp qz (zg D_take (hr.mono (by first | decide | exact Nat.le_refl _ | omega)) rfl (za (pv 0) (za ze zc))) ze)))
        qk))
        (zk (qx (jn PySem.F.plainAttrs_list PySem.F.slot_list_append PySem.F.type_list_append qA (pv 3) (za (zp zI (zr zJ (pv 3) (yN vw ze) (fun _ _ => rfl)) (pv 4)) zc))))))
      (zk (zx (pv 3))))),?_⟩
    refine ⟨_,rfl,le1,fun l hl => ⟨_,rfl,b,3,n,rfl,B0.new hl,by omega,by decide,by decide,fun r H1 r0 r1 B1 S1 => ⟨_,_,rfl,rfl,_,_,rfl,?_⟩⟩⟩
    have nlb := B0.nne hl
    have L1 := S1 l _ zd nlb
    have S1' := ((SameB.refl b H).new (o := .lst [.int st]) hl).trans S1
    refine ⟨_,rfl,_,_,rfl,rfl,_,rfl,(by rw [e62];omega),(by rw [e62];omega),?_⟩
    refine qq (Qz b m st l H n)
      ⟨_,st,[],_,rfl,by omega,by omega,S1',B1.mono (by omega),L1,rfl,fun y hy => by rw [List.mem_singleton.mp hy];omega⟩ ?_ ?_
    · rintro i σ H4 hi ⟨step,z,ms,v5,rfl,t0,t1,S4,B4,L4,ml,bd⟩
      refine ⟨Qy b m st l i H n ms z,?_,?_⟩
      · refine ⟨_,rfl,b,4,_,rfl,B4,by omega,by decide,by decide,fun r2 H5 a0 a1 B5 S5 => ⟨rfl,_,rfl,qw (fun c => ?_) (fun c => ?_)⟩⟩
        · exact ⟨_,rfl,b,3,_,rfl,B5,by omega,by decide,by decide,fun r3 H6 c0 c1 B6 S6 => ⟨_,_,rfl,rfl,_,rfl,by omega,by omega,(S4.trans S5).trans S6,B6.mono (by omega),S6 l _ (S5 l _ L4 nlb) nlb⟩⟩
        · exact ⟨step,rfl,t0,t1,S4.trans S5,B5.mono (by omega),S5 l _ L4 nlb⟩
      rintro σ' H6 ⟨step',rfl,u0,u1,S6,B6,L6⟩
      have eL : (ms ++ [z]).map V.int = ms.map V.int ++ [V.int z] := by rw [List.map_append];rfl
      have bz := bd z (by simp)
      refine ⟨_,rfl,.inl ⟨rfl,_,SqL.of L6⟩,_,rfl,_,rfl,l,_,_,.int z,rfl,rfl,SqL.of L6,by rw [eL];exact Zf _ _,_,rfl,_,_,rfl,rfl,l,_,_,rfl,rfl,L6,by rw [List.length_map,List.length_append,ml];show i + 1 < sizeLine;omega,?_⟩
      refine ⟨step',z + step',ms ++ [z],_,rfl,u0,u1,S6.put hl,(B6.other nlb).mono (by omega),by rw [zd,List.map_append (l₁ := ms ++ [z])];rfl,by rw [List.length_append,ml];rfl,fun y hy => ?_⟩
      rcases List.mem_append.mp hy with q | q
      · have := bd y q
        omega
      · rw [List.mem_singleton.mp q]
        omega
    · rintro σ H4 ⟨step,z,ms,v5,rfl,t0,t1,S4,B4,L4,ml,bd⟩
      refine ⟨_,rfl,k l (ms ++ [z]) H4 S4 (B4.mono (by omega)) nlb hl L4 (by rw [List.length_append,ml];show (((m - 1).toNat + 1 : Nat) : Int) = m;omega) fun y hy => ?_⟩
      have := bd y hy
      omega
end
end L2
set_option Elab.async false
set_option linter.all false
set_option maxRecDepth 100000
set_option maxHeartbeats 4000000
namespace L2
open PySem PySem.Spec PyProof.Rows
section
variable {P : Program} {w : World} {K : PySem.W.Frag} {mg : Str -> Option Value} {base : Heap}
def Pl (K : PySem.W.Frag) (H : Hp) (v : V) (x y : Int) : Prop := ∃ a,v = .ref a /\ SqT K H a [.int x,.int y]
def vt (x1 y1 x2 y2 : Int) : Int := if jz (y1 - y2) > jz (x1 - x2) then jz (y1 - y2) else jz (x1 - x2)
inductive ZJ (K : PySem.W.Frag) (vs : List V) (H : Hp) (Q : VK) : Prop
  | mk (u v x1 y1 x2 y2 : _) (_ : vs = [u,v]) (_ : Pl K H u x1 y1) (_ : Pl K H v x2 y2) (_ : Q (.int (vt x1 y1 x2 y2)) H) : ZJ K vs H Q
def wo (K : PySem.W.Frag) : Sp := fun vs H Q _ => ZJ K vs H Q
theorem Wx : zy ["one", "other"] ["one", "other"] (zi (zj 2)) := ⟨rfl,rfl,rfl,by decide +kernel,rfl,by decide +kernel,by decide +kernel⟩
theorem VV {f : Addr} {fd : FuncData} (F : Fun K "way_between" "way_between" (zj 2) f fd) (B : Blt mg) : FnOk P w K mg base CX0 1 f fd ["one", "other"] (wo K) := by
  refine F.ok Wx (fun vs H Q E h => ?_) (fun cdv A outer s H vs Q E hr h => ?_)
  · obtain ⟨u,v,x1,y1,x2,y2,rfl,_⟩ := h
    rfl
  · obtain ⟨u,v,x1,y1,x2,y2,rfl,⟨a,rfl,ha⟩,⟨b,rfl,hb⟩,k⟩ := h
    refine ⟨_,(zk (zx (zo (xi rfl) rfl B.max xN (za (zo jr rfl B.abs jt (za (zp qz (zr zL (pv 0) ze (fun _ _ => rfl)) (zr zL (pv 1) ze (fun _ _ => rfl))) zc)) (za (zo jr rfl B.abs jt (za (zp qz (zr zL (pv 0) ze (fun _ _ => rfl)) (zr zL (pv 1) ze (fun _ _ => rfl))) zc)) zc))))),?_⟩
    refine ⟨_,rfl,a,_,_,_,rfl,rfl,ha,rfl,_,rfl,b,_,_,_,rfl,rfl,hb,rfl,_,_,rfl,rfl,_,rfl,_,rfl,a,_,_,_,rfl,rfl,ha,rfl,_,rfl,b,_,_,_,rfl,rfl,hb,rfl,_,_,rfl,rfl,_,rfl,_,_,rfl,k⟩
theorem XC (a : Int) : 0 <= jz a := by unfold jz;split <;> omega
theorem Jh (x1 y1 x2 y2 : Int) : 0 <= vt x1 y1 x2 y2 := by
  unfold vt
  have := XC (y1 - y2)
  have := XC (x1 - x2)
  split <;> assumption
theorem Ji (x1 y1 x2 y2 t : Int) : vt x1 y1 x2 y2 <= t ↔ jz (x1 - x2) <= t /\ jz (y1 - y2) <= t := by
  unfold vt
  split <;> omega
theorem Zi {x1 y1 x2 y2 : Int} (a : 0 <= x1) (b : x1 <= 1000) (c : 0 <= y1) (d : y1 <= 1000) (a' : 0 <= x2) (b' : x2 <= 1000) (c' : 0 <= y2) (d' : y2 <= 1000) : vt x1 y1 x2 y2 <= 1000 := by
  rw [Ji]
  unfold jz
  constructor <;> split <;> omega
theorem Pl.same {H H' : Hp} {v : V} {x y : Int} (h : Pl K H v x y) (s : Same H H') : Pl K H' v x y := let ⟨a,e,q⟩ := h;⟨a,e,s.sqT q⟩
def PlAll (K : PySem.W.Frag) (H : Hp) : List (Int × Int) -> List V -> Prop
  | [],vs => vs = []
  | p :: ps,vs => ∃ v r,vs = v :: r /\ Pl K H v p.1 p.2 /\ PlAll K H ps r
def inB (p : Int × Int) : Prop := 0 <= p.1 /\ p.1 <= 1000 /\ 0 <= p.2 /\ p.2 <= 1000
theorem PlAll.same {H H' : Hp} (s : Same H H') : ∀ {ps : List (Int × Int)} {vs : List V},PlAll K H ps vs -> PlAll K H' ps vs
  | [],_,h => h
  | _ :: _,_,h => let ⟨v,r,e,p,q⟩ := h;⟨v,r,e,p.same s,PlAll.same s q⟩
theorem PlAll.len {H : Hp} : ∀ {ps : List (Int × Int)} {vs : List V},PlAll K H ps vs -> vs.length = ps.length
  | [],_,h => by rw [show _ = _ from h];rfl
  | _ :: _,_,h => by
    obtain ⟨v,r,e,_,q⟩ := h
    rw [e,List.length_cons,List.length_cons,PlAll.len q]
theorem PlAll.get {H : Hp} : ∀ {ps : List (Int × Int)} {vs : List V} {i : Nat} {v : V},PlAll K H ps vs -> vs[i]? = some v -> ∃ p,ps[i]? = some p /\ Pl K H v p.1 p.2
  | [],_,_,_,h,e => by rw [show _ = _ from h] at e;simp at e
  | p :: ps,_,i,v,h,e => by
    obtain ⟨y,r,e1,e2,e3⟩ := h
    subst e1
    cases i with
    | zero => simp at e;subst e;exact ⟨p,rfl,e2⟩
    | succ i =>
      obtain ⟨d',q1,q2⟩ := PlAll.get (i := i) e3 (by simpa using e)
      exact ⟨d',by simpa using q1,q2⟩
theorem PlAll.get' {H : Hp} {ps : List (Int × Int)} {vs : List V} {i : Nat} {p : Int × Int} (h : PlAll K H ps vs) (e : ps[i]? = some p) : ∃ v,vs[i]? = some v /\ Pl K H v p.1 p.2 := by
  have hi : i < vs.length := by rw [h.len];exact (List.getElem?_eq_some_iff.mp e).1
  obtain ⟨p',q1,q2⟩ := h.get (i := i) (v := vs[i]) (by simp [hi])
  rw [e] at q1;cases q1
  exact ⟨vs[i],by simp [hi],q2⟩
def qR (a g t : Int) : Int := if a < g then (if g < a + t then g else a + t) else (if g > a - t then g else a - t)
inductive yC (vs : List V) (H : Hp) (Q : VK) : Prop
  | mk (a g t : Int) (_ : vs = [.int a,.int g,.int t]) (_ : Q (.int (qR a g t)) H) : yC  vs H Q
def Zt : Sp := fun vs H Q _ => yC  vs H Q
theorem VJ : zy ["start", "goal", "ticks"] ["start", "goal", "ticks"] (zi (zj 3)) := ⟨rfl,rfl,rfl,by decide +kernel,rfl,by decide +kernel,by decide +kernel⟩
theorem XZ {f : Addr} {fd : FuncData} (F : Fun K "nearer_by" "nearer_by" (zj 3) f fd) (B : Blt mg) : FnOk P w K mg base CX0 1 f fd ["start", "goal", "ticks"] Zt := by
  refine F.ok VJ (fun vs H Q E h => ?_) (fun cdv A outer s H vs Q E hr h => ?_)
  · obtain ⟨a,g,t,rfl,_⟩ := h
    rfl
  · obtain ⟨a,g,t,rfl,k⟩ := h
    refine ⟨_,(zf (qJ (zG Z8 (pv 0) (pv 1) (zE _))
      (zk (zx (zo (wM rfl) rfl B.min Zb (za (zp zI (pv 0) (pv 2)) (za (pv 1) zc)))))
      qk)
      (zk (zx (zo (xi rfl) rfl B.max xN (za (zp qz (pv 0) (pv 2)) (za (pv 1) zc)))))),?_⟩
    refine ⟨_,rfl,_,rfl,_,_,rfl,rfl,_,rfl,?_⟩
    refine qw (fun c => ?_) (fun c => ?_)
    · have c' : a < g := of_decide_eq_true c
      refine ⟨_,rfl,_,rfl,_,_,rfl,rfl,_,rfl,_,_,rfl,?_⟩
      unfold qR at k
      rw [if_pos c'] at k
      exact k
    · have c' : ¬ a < g := fun z => c (decide_eq_true z)
      refine ⟨_,rfl,_,rfl,_,_,rfl,rfl,_,rfl,_,_,rfl,?_⟩
      unfold qR at k
      rw [if_neg c'] at k
      exact k
inductive wz (K : PySem.W.Frag) (vs : List V) (H : Hp) (Q : VK) : Prop
  | mk (u v x1 y1 x2 y2 t : _) (_ : vs = [u,v,.int t]) (_ : Pl K H u x1 y1) (_ : Pl K H v x2 y2) (_ : ∀ p H',H p = none -> H' = upd H p (.tup [.int (qR x1 x2 t),.int (qR y1 y2 t)]) -> Q (.ref p) H') : wz K vs H Q
def w8 (K : PySem.W.Frag) : Sp := fun vs H Q _ => wz K vs H Q
theorem XH : zy ["one", "other", "ticks"] ["one", "other", "ticks"] (zi (zj 4)) := ⟨rfl,rfl,rfl,by decide +kernel,rfl,by decide +kernel,by decide +kernel⟩
theorem J6 {f : Addr} {fd : FuncData} (F : Fun K "going_to" "going_to" (zj 4) f fd) (B : Blt mg) (Dnearer_by : Dfn P w K mg base "nearer_by" 1 ["start", "goal", "ticks"] Zt) : FnOk P w K mg base CX0 2 f fd ["one", "other", "ticks"] (w8 K) := by
  refine F.ok XH (fun vs H Q E h => ?_) (fun cdv A outer s H vs Q E hr h => ?_)
  · obtain ⟨u,v,x1,y1,x2,y2,t,rfl,_⟩ := h
    rfl
  · obtain ⟨u,v,x1,y1,x2,y2,t,rfl,⟨a,rfl,ha⟩,⟨b,rfl,hb⟩,k⟩ := h
    refine ⟨_,(zk (zx (zQ (za (zg Dnearer_by (hr.mono (by first | decide | exact Nat.le_refl _ | omega)) rfl (za (zr zL (pv 0) ze (fun _ _ => rfl)) (za (zr zL (pv 1) ze (fun _ _ => rfl)) (za (pv 2) zc)))) (za (zg Dnearer_by (hr.mono (by first | decide | exact Nat.le_refl _ | omega)) rfl (za (zr zL (pv 0) ze (fun _ _ => rfl)) (za (zr zL (pv 1) ze (fun _ _ => rfl)) (za (pv 2) zc)))) zc))))),?_⟩
    refine ⟨_,rfl,a,_,_,_,rfl,rfl,ha,rfl,_,rfl,b,_,_,_,rfl,rfl,hb,rfl,_,rfl,_,_,_,rfl,_,rfl,a,_,_,_,rfl,rfl,ha,rfl,_,rfl,b,_,_,_,rfl,rfl,hb,rfl,_,rfl,_,_,_,rfl,(by rw [sizeLine_eq];exact (by decide : 2 <= 16777216)),fun p hp => k p _ hp rfl⟩
theorem VL : zy ["_law_one", "_law_other"] ["_law_one", "_law_other"] (zi (zj 28)) := ⟨rfl,rfl,rfl,by decide +kernel,rfl,by decide +kernel,by decide +kernel⟩
theorem X0 {f : Addr} {fd : FuncData} (F : Fun K "_law_way" "_law_way" (zj 28) f fd) (B : Blt mg) : FnOk P w K mg base CX0 1 f fd ["_law_one", "_law_other"] (wo K) := by
  refine F.ok VL (fun vs H Q E h => ?_) (fun cdv A outer s H vs Q E hr h => ?_)
  · obtain ⟨u,v,x1,y1,x2,y2,rfl,_⟩ := h
    rfl
  · obtain ⟨u,v,x1,y1,x2,y2,rfl,⟨a,rfl,ha⟩,⟨b,rfl,hb⟩,k⟩ := h
    refine ⟨_,(zk (zx (zo (xi rfl) rfl B.max xN (za (zo jr rfl B.abs jt (za (zp qz (zr zL (pv 0) ze (fun _ _ => rfl)) (zr zL (pv 1) ze (fun _ _ => rfl))) zc)) (za (zo jr rfl B.abs jt (za (zp qz (zr zL (pv 0) ze (fun _ _ => rfl)) (zr zL (pv 1) ze (fun _ _ => rfl))) zc)) zc))))),?_⟩
    refine ⟨_,rfl,a,_,_,_,rfl,rfl,ha,rfl,_,rfl,b,_,_,_,rfl,rfl,hb,rfl,_,_,rfl,rfl,_,rfl,_,rfl,a,_,_,_,rfl,rfl,ha,rfl,_,rfl,b,_,_,_,rfl,rfl,hb,rfl,_,_,rfl,rfl,_,rfl,_,_,rfl,k⟩
end
theorem WL (a g : Int) : qR a g 0 = a := by
  unfold qR
  by_cases h : a < g
  · rw [if_pos h,if_neg (by omega)];omega
  · rw [if_neg h]
    by_cases h2 : g > a - 0
    · omega
    · rw [if_neg h2];omega
def Jo (a g : Int) : Int := a + (if a < g then 1 else 0) - (if g < a then 1 else 0)
theorem Q6 (a g t : Int) (h : 0 <= t) : Jo (qR a g t) g = qR a g (t + 1) := by
  unfold Jo qR
  repeat' split
  all_goals omega
theorem Xa (a g w : Int) (h : jz (a - g) <= w) : qR a g w = g := by
  unfold jz at h
  unfold qR
  split at h <;> (repeat' split) <;> omega
def vh (p q : Int × Int) (n : Nat) : List Int := (List.range n).map fun t : Nat => qR p.1 q.1 ((t : Int) + 1)
theorem wA (p q : Int × Int) (n : Nat) : vh p q (n + 1) = vh p q n ++ [qR p.1 q.1 ((n : Int) + 1)] := by
  unfold vh
  rw [List.range_succ,List.map_append]
  rfl
theorem jU (p q : Int × Int) (n : Nat) : (vh p q n).length = n := by unfold vh;rw [List.length_map,List.length_range]
def Zx (k : Nat) (p q : Int × Int) : List Int := vh p q (vt p.1 p.2 q.1 q.2).toNat ++ List.replicate k q.1
def Js (k : Nat) : List (Int × Int) -> List (List Int)
  | p :: q :: r => Zx k p q :: Js k (q :: r)
  | _ => []
theorem yH (k : Nat) : ∀ {ps : List (Int × Int)} {i : Nat} {p q : Int × Int},ps[i]? = some p -> ps[i + 1]? = some q -> (Js k ps)[i]? = some (Zx k p q)
  | [],_,_,_,h,_ => by simp at h
  | [_],i,_,_,_,h => by simp at h
  | a :: b :: r,0,p,q,h1,h2 => by simp at h1 h2;subst h1;subst h2;rfl
  | a :: b :: r,i + 1,p,q,h1,h2 => yH k (ps := b :: r) (i := i) (by simpa using h1) (by simpa using h2)
theorem Jt (k : Nat) (p q : Int × Int) : (Zx k p q).length = (vt p.1 p.2 q.1 q.2).toNat + k := by
  unfold Zx
  rw [List.length_append,jU,List.length_replicate]
def Xm (ps : List (Int × Int)) : Int := (ps.headD (0,0)).1
def qT (k : Nat) (ps : List (Int × Int)) (i : Nat) : List Int := List.replicate (1 + k) (Xm ps) ++ ((Js k ps).take i).flatten
theorem vx (k : Nat) {ps : List (Int × Int)} {i : Nat} {p q : Int × Int} (h1 : ps[i]? = some p) (h2 : ps[i + 1]? = some q) : qT k ps (i + 1) = qT k ps i ++ Zx k p q := by
  unfold qT
  rw [qi (yH k h1 h2),List.flatten_append,List.append_assoc]
  simp
theorem vn (k : Nat) {ps : List (Int × Int)} (hb : ∀ p ∈ ps,inB p) : ∀ i : Nat,i <= ps.length - 1 -> (qT k ps i).length <= 1 + k + i * (1000 + k)
  | 0,_ => by unfold qT;simp
  | i + 1,hi => by
    have ih := vn k hb i (by omega)
    have h1 : i < ps.length := by omega
    have h2 : i + 1 < ps.length := by omega
    have e1 : ps[i]? = some ps[i] := by simp [h1]
    have e2 : ps[i + 1]? = some ps[i + 1] := by simp [h2]
    rw [vx k e1 e2,List.length_append,Jt]
    have b1 := hb _ (List.mem_of_getElem? e1)
    have b2 := hb _ (List.mem_of_getElem? e2)
    have := Zi b1.1 b1.2.1 b1.2.2.1 b1.2.2.2 b2.1 b2.2.1 b2.2.2.1 b2.2.2.2
    have e3 : (i + 1) * (1000 + k) = i * (1000 + k) + (1000 + k) := by rw [Nat.succ_mul]
    omega
theorem xC {α : Type} (n : Nat) (v : α) : (List.replicate n [v]).flatten = List.replicate n v := by
  induction n with
  | zero => rfl
  | succ n ih => rw [List.replicate_succ,List.flatten_cons,ih];rfl
theorem vI {H H1 : Hp} {t : Addr} {o : HO} (s : Same H H1) (h : H t = none) : Same H (upd H1 t o) := fun c u e => by
  rw [zq (zn e h)]
  exact s c u e
section
variable {P : Program} {w : World} {K : PySem.W.Frag} {mg : Str -> Option Value} {base : Heap}
inductive ZK (K : PySem.W.Frag) (vs : List V) (H : Hp) (Q : VK) : Prop
  | mk (a : Addr) (k : Nat) (us : List V) (ps : List (Int × Int)) (_ : vs = [.ref a,.int k]) (_ : k <= 20) (_ : SqL K H a us) (_ : PlAll K H ps us) (_ : (∀ p ∈ ps,inB p)) (_ : ps ≠ []) (_ : ps.length <= 700) (_ : ∀ t H',H t = none -> Same H H' -> H' t = some (.lst ((qT k ps (ps.length - 1)).map V.int)) -> Q (.ref t) H') : ZK K vs H Q
def vA (K : PySem.W.Frag) : Sp := fun vs H Q _ => ZK K vs H Q
theorem Vl : zy ["places", "work", "track", "one", "other", "tick"] ["places", "work"] (zi (zj 9)) := ⟨rfl,rfl,rfl,by decide +kernel,rfl,by decide +kernel,by decide +kernel⟩
theorem Same.none {H H1 : Hp} {t : Addr} (s : Same H H1) (h : H1 t = none) : H t = none := by
  cases e : H t with
  | none => rfl
  | some o => rw [s _ _ e] at h;cases h
theorem Qh {H : Hp} {ps : List (Int × Int)} {us : List V} (hp : PlAll K H ps us) (hne : ps ≠ []) : ∃ v p,us[0]? = some v /\ ps[0]? = some p /\ Xm ps = p.1 /\ Pl K H v p.1 p.2 := by
  cases ps with
  | nil => exact absurd rfl hne
  | cons p r =>
    obtain ⟨v,e1,e2⟩ := hp.get' (i := 0) (p := p) rfl
    exact ⟨v,p,e1,rfl,rfl,e2⟩
theorem VW {f : Addr} {fd : FuncData} (F : Fun K "track_by" "track_by" (zj 9) f fd) (B : Blt mg) (Dway_between : Dfn P w K mg base "way_between" 1 ["one", "other"] (wo K)) (Dgoing_to : Dfn P w K mg base "going_to" 2 ["one", "other", "ticks"] (w8 K)) : FnOk P w K mg base CX0 3 f fd ["places", "work"] (vA K) := by
  have nd := Vl.nd
  refine F.ok Vl (fun vs H Q E h => ?_) (fun cdv A outer s H vs Q E hr h => ?_)
  · obtain ⟨a,k,us,ps,rfl,_⟩ := h
    rfl
  · obtain ⟨a,k,us,ps,rfl,hk,hx,hp,hb,hne,hl,kQ⟩ := h
    have hbig : 1000000 < sizeLine := by rw [sizeLine_eq];decide
    have e62 : (2 : Int) ^ 62 = 4611686018427387904 := by decide
    have e63 : (2 : Int) ^ 63 = 9223372036854775808 := by decide
    have hul : us.length = ps.length := hp.len
    obtain ⟨v0,p0,ev0,ep0,eh,pl0⟩ := Qh hp hne
    obtain ⟨a0,rfl,h0⟩ := id pl0
    refine ⟨_,(zf (zt (i := 2) nd rfl (Or.inl rfl) (zp xV (zA (za (zr zL (zr zJ (pv 0) ze (fun _ _ => rfl)) ze (fun _ _ => rfl)) zc)) (zp zI ze (pv 1))))
      (zf (qy PassesOwn.never rfl (vM rfl B.zip (za (pv 0) (za (qh qC (pv 0) (qe ze) qS) zc))) (jy rfl (zN (zF (i := 3) nd rfl (Or.inl rfl)) (zN (zF (i := 4) nd rfl (Or.inl rfl)) jc)))
      (zf (qy PassesOwn.never rfl (zV rfl B.range (za (zg Dway_between (hr.mono (by first | decide | exact Nat.le_refl _ | omega)) rfl (za (pv 3) (za (pv 4) zc))) zc)) (zF (i := 5) nd rfl (Or.inl rfl))
        (zk (qx (jn PySem.F.plainAttrs_list PySem.F.slot_list_append PySem.F.type_list_append qA (pv 2) (za (zr zL (zg Dgoing_to (hr.mono (by first | decide | exact Nat.le_refl _ | omega)) rfl (za (pv 3) (za (pv 4) (za (zp zI (pv 5) ze) zc)))) ze (fun _ _ => rfl)) zc)))))
        (zk (qx (jn PySem.F.plainAttrs_list PySem.F.slot_list_extend PySem.F.type_list_extend Q7 (pv 2) (za (zp xV (zA (za (zr zL (pv 4) ze (fun _ _ => rfl)) zc)) (pv 1)) zc))))))
      (zk (zx (pv 2))))),?_⟩
    refine ⟨_,rfl,a,us,0,_,rfl,rfl,hx,qE (j := 0) ev0,a0,_,_,_,rfl,rfl,h0,rfl,le1,fun l1 hl1 => ?_⟩
    refine ⟨_,rfl,_,_,rfl,rfl,l1,1 + (k : Int),_,rfl,rfl,zd,by omega,by omega,?_,fun t ht => ?_⟩
    · show 1 * (1 + (k : Int)).toNat <= sizeLine
      omega
    have eR : (List.replicate (1 + (k : Int)).toNat [V.int p0.1]).flatten = (qT k ps 0).map V.int := by
      rw [xC]
      unfold qT
      rw [eh,show (1 + (k : Int)).toNat = 1 + k by omega]
      simp
    rw [eR]
    have s1 : Same H (upd H l1 (.lst [.int p0.1])) := zb hl1
    have htN : H t = none := s1.none ht
    have s2 := s1.trans (zb (o := .lst ((qT k ps 0).map V.int)) ht)
    have ht2 : upd (upd H l1 (.lst [.int p0.1])) t (.lst ((qT k ps 0).map V.int)) t = some (.lst ((qT k ps 0).map V.int)) := zd
    generalize upd (upd H l1 (.lst [.int p0.1])) t (.lst ((qT k ps 0).map V.int)) = H2 at s2 ht2
    clear s1 ht hl1
    refine ⟨_,rfl,_,rfl,1,rfl,a,us,rfl,s2.seq hx,fun z hz => ?_⟩
    have s3 := s2.trans (zb (o := .lst (qb us (some 1) none)) hz)
    have ht3 := (zb (o := .lst (qb us (some 1) none)) hz) _ _ ht2
    have hz3 : upd H2 z (.lst (qb us (some 1) none)) z = some (.lst (us.drop 1)) := by rw [zd,xh]
    have nzt : z ≠ t := (zn ht2 hz).symm
    generalize upd H2 z (.lst (qb us (some 1) none)) = H3 at s3 ht3 hz3
    clear s2 ht2 hz
    refine ⟨true,true,a,z,rfl,⟨us,s3.seq hx⟩,⟨_,SqL.of hz3⟩,?_⟩
    refine Qj (K := K) (k1 := true) (k2 := true) (xs := us) (ys := us.drop 1) (fun i σ H' => Ex3 fun (v3 v4 v5 : Option V) => An4 (σ = [some (.ref a),some (.int k),some (.ref t),v3,v4,v5]) (Same H H') (H' t = some (.lst ((qT k ps i).map V.int))) (H' z = some (.lst (us.drop 1))))
      ⟨_,_,_,rfl,s3,ht3,hz3⟩ (fun i σ H' ⟨_,_,_,_,g,_,h⟩ => ⟨g.seq hx,SqL.of h⟩) ?_ ?_
    · rintro i x y σ H' T e1 e2 ⟨v3,v4,v5,rfl,g,ht',hz'⟩ hT
      have e2' : us[i + 1]? = some y := by rw [List.getElem?_drop] at e2;rw [Nat.add_comm];exact e2
      have hi1 : i + 1 < us.length := (List.getElem?_eq_some_iff.mp e2').1
      refine ⟨T,_,rfl,SqT.of zd,rfl,_,_,rfl,_,_,rfl,rfl,?_⟩
      have g1 := g.trans (zb (o := .tup [x,y]) hT)
      have ht1 := (zb (o := .tup [x,y]) hT) _ _ ht'
      have hz1 := (zb (o := .tup [x,y]) hT) _ _ hz'
      generalize upd H' T (.tup [x,y]) = Ha at g1 ht1 hz1
      clear g ht' hz' hT
      obtain ⟨p,q1,pp⟩ := hp.get e1
      obtain ⟨q,q2,pq⟩ := hp.get e2'
      have b1 := hb _ (List.mem_of_getElem? q1)
      have b2 := hb _ (List.mem_of_getElem? q2)
      have wb := Zi b1.1 b1.2.1 b1.2.2.1 b1.2.2.2 b2.1 b2.2.1 b2.2.2.1 b2.2.2.2
      have wn := Jh p.1 p.2 q.1 q.2
      have tl := vn k hb i (by omega)
      have im : i * (1000 + k) <= 700 * 1020 := Nat.mul_le_mul (by omega) (by omega)
      refine ⟨_,rfl,_,rfl,x,y,p.1,p.2,q.1,q.2,rfl,pp.same g1,pq.same g1,_,rfl,by omega,by omega,?_⟩
      refine qq (fun j σ H' => Ex1 fun (v5 : Option V) => An4 (σ = [some (.ref a),some (.int k),some (.ref t),some x,some y,v5]) (Same H H') (H' t = some (.lst ((qT k ps i ++ vh p q j).map V.int))) (H' z = some (.lst (us.drop 1))))
        ⟨_,rfl,g1,by rw [show vh p q 0 = [] from rfl,List.append_nil];exact ht1,hz1⟩ ?_ ?_
      · rintro j σ Hb hj ⟨v5,rfl,gb,htb,hzb⟩
        rw [Int.zero_add]
        refine ⟨_,rfl,.inl ⟨rfl,_,SqL.of htb⟩,_,rfl,_,rfl,_,rfl,_,_,rfl,rfl,x,y,p.1,p.2,q.1,q.2,_,rfl,pp.same gb,pq.same gb,fun c Hc hc eHc => ?_⟩
        subst eHc
        refine ⟨c,_,_,_,rfl,rfl,SqT.of zd,rfl,t,_,_,rfl,rfl,(zb hc) _ _ htb,?_,?_⟩
        · rw [List.length_map,List.length_append,jU];omega
        · refine ⟨_,rfl,vI (gb.trans (zb hc)) htN,?_,?_⟩
          · rw [zd,wA,<- List.append_assoc,List.map_append (l₁ := qT k ps i ++ vh p q j)]
            rfl
          · rw [zq nzt]
            exact (zb hc) _ _ hzb
      · rintro σ Hb ⟨v5,rfl,gb,htb,hzb⟩
        obtain ⟨qa,rfl,hqa⟩ := id (pq.same gb)
        refine ⟨_,rfl,.inl ⟨rfl,_,SqL.of htb⟩,_,rfl,qa,_,_,_,rfl,rfl,hqa,rfl,le1,fun l4 hl4 => ?_⟩
        refine ⟨_,rfl,l4,(k : Int),_,rfl,rfl,zd,by omega,by omega,?_,fun l5 hl5 => ?_⟩
        · show 1 * (k : Int).toNat <= sizeLine
          omega
        have eR2 : (List.replicate (k : Int).toNat [V.int q.1]).flatten = (List.replicate k q.1).map V.int := by
          rw [xC,show (k : Int).toNat = k by omega]
          simp
        rw [eR2]
        have sc := (zb (o := .lst [.int q.1]) hl4).trans (zb (o := .lst ((List.replicate k q.1).map V.int)) hl5)
        have h5 : upd (upd Hb l4 (.lst [.int q.1])) l5 (.lst ((List.replicate k q.1).map V.int)) l5 = some (.lst ((List.replicate k q.1).map V.int)) := zd
        generalize upd (upd Hb l4 (.lst [.int q.1])) l5 (.lst ((List.replicate k q.1).map V.int)) = Hc at sc h5
        refine ⟨t,l5,_,_,rfl,rfl,sc _ _ htb,h5,?_,?_⟩
        · rw [List.length_map,List.length_append,jU,List.length_map,List.length_replicate];omega
        · refine ⟨_,_,_,rfl,vI (gb.trans sc) htN,?_,?_⟩
          · rw [zd,vx k q1 q2,<- List.map_append,List.append_assoc]
            unfold Zx
            rfl
          · rw [zq nzt]
            exact sc _ _ hzb
    · rintro σ H' ⟨v3,v4,v5,rfl,g,ht',hz'⟩
      have em : min us.length (us.drop 1).length = ps.length - 1 := by rw [List.length_drop];omega
      rw [em] at ht'
      exact ⟨_,rfl,kQ t H' htN g ht'⟩
end
section
variable {P : Program} {w : World} {K : PySem.W.Frag} {mg : Str -> Option Value} {base : Heap}
theorem ZT : zy ["_law_places_here", "_law_work", "_law_found", "_law_one", "_law_other", "_law_at", "_law_tick"] ["_law_places_here", "_law_work"] (zi (zj 35)) := ⟨rfl,rfl,rfl,by decide +kernel,rfl,by decide +kernel,by decide +kernel⟩
theorem JV {f : Addr} {fd : FuncData} (F : Fun K "_law_steps" "_law_steps" (zj 35) f fd) (B : Blt mg) (D_way : Dfn P w K mg base "_law_way" 1 ["_law_one", "_law_other"] (wo K)) : FnOk P w K mg base CX0 2 f fd ["_law_places_here", "_law_work"] (vA K) := by
  have nd := ZT.nd
  refine F.ok ZT (fun vs H Q E h => ?_) (fun cdv A outer s H vs Q E hr h => ?_)
  · obtain ⟨a,k,us,ps,rfl,_⟩ := h
    rfl
  · obtain ⟨a,k,us,ps,rfl,hk,hx,hp,hb,hne,hl,kQ⟩ := h
    have hbig : 1000000 < sizeLine := by rw [sizeLine_eq];decide
    have e62 : (2 : Int) ^ 62 = 4611686018427387904 := by decide
    have e63 : (2 : Int) ^ 63 = 9223372036854775808 := by decide
    have hul : us.length = ps.length := hp.len
    obtain ⟨v0,p0,ev0,ep0,eh,pl0⟩ := Qh hp hne
    obtain ⟨a0,rfl,h0⟩ := id pl0
    refine ⟨_,(zf (zt (i := 2) nd rfl (Or.inl rfl) (zp xV (zA (za (zr zL (zr zJ (pv 0) ze (fun _ _ => rfl)) ze (fun _ _ => rfl)) zc)) (zp zI (pv 1) ze)))
      (zf (qy PassesOwn.never rfl (vM rfl B.zip (za (pv 0) (za (qh qC (pv 0) (qe ze) qS) zc))) (jy rfl (zN (zF (i := 3) nd rfl (Or.inl rfl)) (zN (zF (i := 4) nd rfl (Or.inl rfl)) jc)))
      (zf (zt (i := 5) nd rfl (Or.inl rfl) (zr zL (pv 3) ze (fun _ _ => rfl)))
        (zf (qy PassesOwn.never rfl (zV rfl B.range (za (zg D_way (hr.mono (by first | decide | exact Nat.le_refl _ | omega)) rfl (za (pv 3) (za (pv 4) zc))) zc)) (zF (i := 6) nd rfl (Or.inl rfl))
        (zf (zt (i := 5) nd rfl (Or.inl rfl) (zp qz (zp zI (pv 5) (zM jB rfl B.int jd (za (qm Z8 (pv 5) (zr zL (pv 4) ze (fun _ _ => rfl)) (zE _)) zc))) (zM jB rfl B.int jd (za (qm wD (pv 5) (zr zL (pv 4) ze (fun _ _ => rfl)) (zE _)) zc))))
          (zk (qx (jn PySem.F.plainAttrs_list PySem.F.slot_list_append PySem.F.type_list_append qA (pv 2) (za (pv 5) zc))))))
        (zk (zt (i := 2) nd rfl (Or.inl rfl) (zp qP (pv 2) (zp xV (zA (za (pv 5) zc)) (pv 1))))))))
      (zk (zx (pv 2))))),?_⟩
    refine ⟨_,rfl,a,us,0,_,rfl,rfl,hx,qE (j := 0) ev0,a0,_,_,_,rfl,rfl,h0,rfl,le1,fun l1 hl1 => ?_⟩
    refine ⟨_,rfl,_,_,rfl,rfl,l1,(k : Int) + 1,_,rfl,rfl,zd,by omega,by omega,?_,fun t ht => ?_⟩
    · show 1 * ((k : Int) + 1).toNat <= sizeLine
      omega
    have eR : (List.replicate ((k : Int) + 1).toNat [V.int p0.1]).flatten = (qT k ps 0).map V.int := by
      rw [xC]
      unfold qT
      rw [eh,show ((k : Int) + 1).toNat = 1 + k by omega]
      simp
    rw [eR]
    have s1 : Same H (upd H l1 (.lst [.int p0.1])) := zb hl1
    have htN : H t = none := s1.none ht
    have s2 := s1.trans (zb (o := .lst ((qT k ps 0).map V.int)) ht)
    have ht2 : upd (upd H l1 (.lst [.int p0.1])) t (.lst ((qT k ps 0).map V.int)) t = some (.lst ((qT k ps 0).map V.int)) := zd
    generalize upd (upd H l1 (.lst [.int p0.1])) t (.lst ((qT k ps 0).map V.int)) = H2 at s2 ht2
    clear s1 ht hl1
    refine ⟨_,rfl,_,rfl,1,rfl,a,us,rfl,s2.seq hx,fun z hz => ?_⟩
    have s3 := s2.trans (zb (o := .lst (qb us (some 1) none)) hz)
    have ht3 := (zb (o := .lst (qb us (some 1) none)) hz) _ _ ht2
    have hz3 : upd H2 z (.lst (qb us (some 1) none)) z = some (.lst (us.drop 1)) := by rw [zd,xh]
    have nzt : z ≠ t := (zn ht2 hz).symm
    generalize upd H2 z (.lst (qb us (some 1) none)) = H3 at s3 ht3 hz3
    clear s2 ht2 hz
    refine ⟨true,true,a,z,rfl,⟨us,s3.seq hx⟩,⟨_,SqL.of hz3⟩,?_⟩
    refine Qj (K := K) (k1 := true) (k2 := true) (xs := us) (ys := us.drop 1) (fun i σ H' => Ex5 fun (t : Addr) (v3 v4 v5 v6 : Option V) => An6 (σ = [some (.ref a),some (.int k),some (.ref t),v3,v4,v5,v6]) (H t = none) (z ≠ t) (Same H H') (H' t = some (.lst ((qT k ps i).map V.int))) (H' z = some (.lst (us.drop 1))))
      ⟨_,_,_,_,_,rfl,htN,nzt,s3,ht3,hz3⟩ (fun i σ H' ⟨_,_,_,_,_,_,_,_,g,_,h⟩ => ⟨g.seq hx,SqL.of h⟩) ?_ ?_
    · clear htN nzt ht3
      rintro i x y σ H' T e1 e2 ⟨t,v3,v4,v5,v6,rfl,htN,nzt,g,ht',hz'⟩ hT
      have e2' : us[i + 1]? = some y := by rw [List.getElem?_drop] at e2;rw [Nat.add_comm];exact e2
      have hi1 : i + 1 < us.length := (List.getElem?_eq_some_iff.mp e2').1
      refine ⟨T,_,rfl,SqT.of zd,rfl,_,_,rfl,_,_,rfl,rfl,?_⟩
      have g1 := g.trans (zb (o := .tup [x,y]) hT)
      have ht1 := (zb (o := .tup [x,y]) hT) _ _ ht'
      have hz1 := (zb (o := .tup [x,y]) hT) _ _ hz'
      generalize upd H' T (.tup [x,y]) = Ha at g1 ht1 hz1
      clear g ht' hz' hT
      obtain ⟨p,q1,pp⟩ := hp.get e1
      obtain ⟨q,q2,pq⟩ := hp.get e2'
      have b1 := hb _ (List.mem_of_getElem? q1)
      have b2 := hb _ (List.mem_of_getElem? q2)
      have wb := Zi b1.1 b1.2.1 b1.2.2.1 b1.2.2.2 b2.1 b2.2.1 b2.2.2.1 b2.2.2.2
      have wn := Jh p.1 p.2 q.1 q.2
      have wl := ((Ji p.1 p.2 q.1 q.2 _).mp (Int.le_refl _)).1
      have tl := vn k hb i (by omega)
      have im : i * (1000 + k) <= 700 * 1020 := Nat.mul_le_mul (by omega) (by omega)
      obtain ⟨pa,rfl,hpa⟩ := id (pp.same g1)
      refine ⟨_,rfl,pa,_,_,_,rfl,rfl,hpa,rfl,?_⟩
      refine ⟨_,rfl,_,rfl,.ref pa,y,p.1,p.2,q.1,q.2,rfl,pp.same g1,pq.same g1,_,rfl,by omega,by omega,?_⟩
      refine qq (fun j σ H' => Ex1 fun (v6 : Option V) => An4 (σ = [some (.ref a),some (.int k),some (.ref t),some (.ref pa),some y,some (.int (qR p.1 q.1 j)),v6]) (Same H H') (H' t = some (.lst ((qT k ps i ++ vh p q j).map V.int))) (H' z = some (.lst (us.drop 1))))
        ⟨_,by rw [show ((0 : Nat) : Int) = 0 from rfl,WL];rfl,g1,by rw [show vh p q 0 = [] from rfl,List.append_nil];exact ht1,hz1⟩ ?_ ?_
      · rintro j σ Hb hj ⟨v6,rfl,gb,htb,hzb⟩
        obtain ⟨qa,rfl,hqa⟩ := id (pq.same gb)
        refine ⟨_,rfl,_,rfl,_,rfl,qa,_,_,_,rfl,rfl,hqa,rfl,_,_,rfl,rfl,.inr ⟨_,rfl,_,_,rfl,rfl,?_⟩⟩
        refine ⟨_,rfl,_,rfl,qa,_,_,_,rfl,rfl,hqa,rfl,_,_,rfl,rfl,.inr ⟨_,rfl,_,_,rfl,rfl,?_⟩⟩
        have es : qR p.1 q.1 (j : Int) + (if decide (qR p.1 q.1 (j : Int) < q.1) = true then 1 else 0) - (if decide (q.1 < qR p.1 q.1 (j : Int)) = true then 1 else 0) = qR p.1 q.1 ((j + 1 : Nat) : Int) := by
          have := Q6 p.1 q.1 (j : Int) (by omega)
          unfold Jo at this
          simpa using this
        refine ⟨_,rfl,.inl ⟨rfl,_,SqL.of htb⟩,_,rfl,t,_,.int (qR p.1 q.1 ((j + 1 : Nat) : Int)),rfl,?_,htb,?_,?_⟩
        · exact congrArg (fun z => [V.int z]) es
        · rw [List.length_map,List.length_append,jU];omega
        · refine ⟨some (.int (0 + (j : Int))),?_,vI gb htN,?_,?_⟩
          · exact congrArg (fun z => [some (V.ref a),some (V.int k),some (V.ref t),some (V.ref pa),some (V.ref qa),some (V.int z),some (V.int (0 + (j : Int)))]) es
          · rw [zd,wA,<- List.append_assoc,List.map_append (l₁ := qT k ps i ++ vh p q j)]
            rfl
          · rw [zq nzt]
            exact hzb
      · rintro σ Hb ⟨v6,rfl,gb,htb,hzb⟩
        have ee : qR p.1 q.1 (((vt p.1 p.2 q.1 q.2).toNat : Nat) : Int) = q.1 := by
          rw [show (((vt p.1 p.2 q.1 q.2).toNat : Nat) : Int) = vt p.1 p.2 q.1 q.2 by omega]
          exact Xa _ _ _ wl
        rw [ee]
        refine ⟨_,rfl,_,rfl,le1,fun l4 hl4 => ?_⟩
        refine ⟨_,rfl,l4,(k : Int),_,rfl,rfl,zd,by omega,by omega,?_,fun l5 hl5 => ?_⟩
        · show 1 * (k : Int).toNat <= sizeLine
          omega
        have eR2 : (List.replicate (k : Int).toNat [V.int q.1]).flatten = (List.replicate k q.1).map V.int := by
          rw [xC,show (k : Int).toNat = k by omega]
          simp
        rw [eR2]
        have sc := (zb (o := .lst [.int q.1]) hl4).trans (zb (o := .lst ((List.replicate k q.1).map V.int)) hl5)
        have h5 : upd (upd Hb l4 (.lst [.int q.1])) l5 (.lst ((List.replicate k q.1).map V.int)) l5 = some (.lst ((List.replicate k q.1).map V.int)) := zd
        generalize upd (upd Hb l4 (.lst [.int q.1])) l5 (.lst ((List.replicate k q.1).map V.int)) = Hc at sc h5
        refine ⟨t,l5,_,_,rfl,rfl,sc _ _ htb,h5,?_,fun l6 hl6 => ?_⟩
        · rw [List.length_map,List.length_append,jU,List.length_map,List.length_replicate];omega
        · refine ⟨l6,_,_,_,_,rfl,(gb.trans sc).none hl6,zn (sc _ _ hzb) hl6,(gb.trans sc).trans (zb hl6),?_,(zb hl6) _ _ (sc _ _ hzb)⟩
          rw [zd,vx k q1 q2,<- List.map_append,List.append_assoc]
          unfold Zx
          rfl
    · rintro σ H' ⟨t,v3,v4,v5,v6,rfl,htN,nzt,g,ht',hz'⟩
      have em : min us.length (us.drop 1).length = ps.length - 1 := by rw [List.length_drop];omega
      rw [em] at ht'
      exact ⟨_,rfl,kQ t H' htN g ht'⟩
end
end L2
set_option Elab.async false
set_option linter.all false
set_option maxRecDepth 100000
set_option maxHeartbeats 4000000
namespace L2
open PySem PySem.Spec PyProof.Rows
def plD (p : Int × Int) : Dat := .tup [.int p.1,.int p.2]
def fpl (J : Job) (f : Nat) : Int × Int := match J.fs[f]? with
  | some fe => (fe.x,fe.y)
  | none => (0,0)
def ppl (J : Job) (p : Nat) : Int × Int := match J.ps[p]? with
  | some pa => (pa.x,pa.y)
  | none => (0,0)
def xI (J : Job) : Int × Int := (J.gx,J.gy)
def jx (J : Job) (t : qv) : List (Int × Int) := [xI J] ++ t.pk.map (fun p => fpl J p.2) ++ t.ly.map (ppl J) ++ [xI J]
structure vb (J : Job) (t : qv) : Prop where
  f : ∀ p ∈ t.pk,p.2 < J.fs.length
  p : ∀ k ∈ t.ly,k < J.ps.length
  l1 : t.pk.length <= 4
  l2 : t.ly.length <= 4
theorem TripOk.bd {J : Job} {t : qv} (h : TripOk J t) (hd : J.hd <= 4) : vb J t := by
  have l := h.ly.length_eq
  rw [List.length_map] at l
  have p2 := h.p2
  refine ⟨fun p hp => ?_,fun k hk => ?_,by omega,by omega⟩
  · obtain ⟨pa,fe,_,e,_⟩ := h.ok p hp
    exact (List.getElem?_eq_some_iff.mp e).1
  · obtain ⟨p,hp,rfl⟩ := List.mem_map.mp (h.ly.mem_iff.mp hk)
    obtain ⟨pa,fe,e,_,_⟩ := h.ok p hp
    exact (List.getElem?_eq_some_iff.mp e).1
theorem wm {J : Job} {t : qv} (h : vb J t) : (jx J t).length <= 10 := by
  unfold jx
  have := h.l1
  have := h.l2
  simp only [List.length_append,List.length_map,List.length_singleton]
  omega
theorem Wg {J : Job} {ord : List Nat} (jo : jh J ord) (f : Nat) : inB (fpl J f) := by
  unfold fpl
  cases e : J.fs[f]? with
  | none => exact ⟨by decide,by decide,by decide,by decide⟩
  | some fe =>
    have := (jo.fa fe (List.mem_of_getElem? e)).2.1
    exact this
theorem VQ {J : Job} {ord : List Nat} (jo : jh J ord) (f : Nat) : inB (ppl J f) := by
  unfold ppl
  cases e : J.ps[f]? with
  | none => exact ⟨by decide,by decide,by decide,by decide⟩
  | some pa =>
    have := (jo.pa pa (List.mem_of_getElem? e)).2.1
    exact this
theorem Jn {J : Job} {ord : List Nat} (jo : jh J ord) (t : qv) : ∀ p ∈ jx J t,inB p := by
  intro p hp
  unfold jx at hp
  have hg : inB (xI J) := jo.gate
  rcases List.mem_append.mp hp with hp | hp
  · rcases List.mem_append.mp hp with hp | hp
    · rcases List.mem_append.mp hp with hp | hp
      · rw [List.mem_singleton.mp hp];exact hg
      · obtain ⟨x,_,rfl⟩ := List.mem_map.mp hp
        exact Wg jo _
    · obtain ⟨x,_,rfl⟩ := List.mem_map.mp hp
      exact VQ jo _
  · rw [List.mem_singleton.mp hp];exact hg
section
variable {P : Program} {w : World} {K : PySem.W.Frag} {mg : Str -> Option Value} {base : Heap}
theorem XN {H : Hp} {p : Int × Int} {x : V} (h : Rep K H (plD p) x) : ∃ a,x = .ref a /\ SqT K H a [.int p.1,.int p.2] := by
  obtain ⟨pa,xs,rfl,qp',y0,r0,f0,g0,y1,r1',f1,g1,f2⟩ := h
  subst f0 f1
  cases (show r1' = [] from f2)
  cases (show y0 = _ from g0)
  cases (show y1 = _ from g1)
  exact ⟨pa,rfl,qp'⟩
theorem JL {H : Hp} {a : Addr} {x y : Int} (h : SqT K H a [.int x,.int y]) : Rep K H (plD (x,y)) (.ref a) := ⟨a,_,rfl,h,_,_,rfl,rfl,_,_,rfl,rfl,rfl⟩
theorem wf {H : Hp} {t : qv} {tp : Addr} (h : Rep K H (qQ t) (.ref tp)) : ∃ a c xs ys,SqT K H tp [.ref a,.ref c] /\ SqT K H a xs /\ Reps K H (t.pk.map qL) xs /\ SqT K H c ys /\ Reps K H (t.ly.map vi) ys := by
  obtain ⟨a,zs,e,q,y0,r0,f0,g0,y1,r1,f1,g1,f2⟩ := h
  cases e
  subst f0 f1
  cases (show r1 = [] from f2)
  obtain ⟨a,xs,rfl,qa,ra⟩ := g0
  obtain ⟨c,ys,rfl,qc,rc⟩ := g1
  exact ⟨a,c,xs,ys,q,qa,ra,qc,rc⟩
theorem Xc {H : Hp} {l : List Nat} {ys : List V} (h : Reps K H (l.map vi) ys) {i : Nat} {x : V} (hx : ys[i]? = some x) : ∃ k,l[i]? = some k /\ x = .int (k : Int) := by
  obtain ⟨d,e,r⟩ := h.get hx
  rw [List.getElem?_map] at e
  obtain ⟨k,ek,rfl⟩ := Option.map_eq_some_iff.mp e
  exact ⟨k,ek,r⟩
end
section
variable {P : Program} {w : World} {K : PySem.W.Frag} {mg : Str -> Option Value} {base : Heap}
theorem Xo {H : Hp} {J : Job} {fs : Addr} {fv : List V} (rf : Reps K H (J.fs.map jg) fv) {f : Nat} (hf : f < J.fs.length) : ∃ a c,fv[f]? = some (.ref a) /\ (∃ x z,SqT K H a [x,.ref c,z]) /\ Rep K H (plD (fpl J f)) (.ref c) := by
  have e : J.fs[f]? = some J.fs[f] := by simp [hf]
  obtain ⟨v,ev,rv⟩ := ZE rf e
  obtain ⟨a,c,rfl,q1,q2⟩ := xX rv
  refine ⟨a,c,ev,⟨_,_,q1⟩,?_⟩
  have : fpl J f = (J.fs[f].x,J.fs[f].y) := by unfold fpl;rw [e]
  rw [this]
  exact JL q2
theorem JK {H : Hp} {J : Job} {ps : Addr} {pv : List V} (rp : Reps K H (J.ps.map qK) pv) {f : Nat} (hf : f < J.ps.length) : ∃ a c,pv[f]? = some (.ref a) /\ (∃ x,SqT K H a [x,.ref c]) /\ Rep K H (plD (ppl J f)) (.ref c) := by
  have e : J.ps[f]? = some J.ps[f] := by simp [hf]
  obtain ⟨v,ev,rv⟩ := ZE rp e
  obtain ⟨a,c,rfl,q1,q2⟩ := wB rv
  refine ⟨a,c,ev,⟨_,q1⟩,?_⟩
  have : ppl J f = (J.ps[f].x,J.ps[f].y) := by unfold ppl;rw [e]
  rw [this]
  exact JL q2
inductive wp (K : PySem.W.Frag) (vs : List V) (H : Hp) (Q : VK) : Prop
  | mk (jp tp : Addr) (J : Job) (t : qv) (_ : vs = [.ref jp,.ref tp]) (_ : Rep K H (jR J) (.ref jp)) (_ : Rep K H (qQ t) (.ref tp)) (_ : vb J t) (_ : ∀ (l : Addr) (us : List V) H',H l = none -> Same H H' -> H' l = some (.lst us) -> Reps K H' ((jx J t).map plD) us -> Q (.ref l) H') : wp K vs H Q
def wU (K : PySem.W.Frag) : Sp := fun vs H Q _ => wp K vs H Q
theorem ZS : zy ["job", "trip", "picks", "lays", "feeders", "parts"] ["job", "trip"] (zi (zj 6)) := ⟨rfl,rfl,rfl,by decide +kernel,rfl,by decide +kernel,by decide +kernel⟩
theorem JU {f : Addr} {fd : FuncData} (F : Fun K "stops_of" "stops_of" (zj 6) f fd) (B : Blt mg) : FnOk P w K mg base CX0 1 f fd ["job", "trip"] (wU K) := by
  have nd := ZS.nd
  refine F.ok ZS (fun vs H Q E h => ?_) (fun cdv A outer s H vs Q E hr h => ?_)
  · obtain ⟨jp,tp,J,t,rfl,_⟩ := h
    rfl
  · obtain ⟨jp,tp,J,t,rfl,rj,rt,tb,k⟩ := h
    have hbig : 100000 < sizeLine := by rw [sizeLine_eq];decide
    have l1 := tb.l1
    have l2 := tb.l2
    obtain ⟨g,fs,ps,as,qj,rg,rf,rp,_⟩ := jA rj
    obtain ⟨fv,qf,rf'⟩ := jb rf
    obtain ⟨pv',qp,rp'⟩ := jb rp
    obtain ⟨ta,tc,xs,ys,qt,qa,ra,qc,rc⟩ := wf rt
    have lxs := ra.len
    rw [List.length_map] at lxs
    have lys := rc.len
    rw [List.length_map] at lys
    refine ⟨_,(zf (jW (pv 1) (jy rfl (zN (zF (i := 2) nd rfl (Or.inl rfl)) (zN (zF (i := 3) nd rfl (Or.inl rfl)) jc))))
      (zf (JH ["job"] [0] rfl rfl (by kernel_rfl) (jG (pv 2)) (fun C0 s0 H0 ex0 => qH) (fun C0 s0 H0 ex0 => (zr (qo (K := K) rfl) (zr (qo (K := K) rfl) (zr (qo (K := K) rfl) (pv 2) ze (fun _ _ => rfl)) (pv 1) (fun _ _ => rfl)) ze (fun _ _ => rfl))) (zF (i := 4) nd rfl (Or.inl rfl)))
      (zf (JI ["job"] [0] rfl rfl (by kernel_rfl) (jG (pv 3)) (fun C0 s0 H0 ex0 => qH) (fun C0 s0 H0 ex0 => (zr (qo (K := K) rfl) (zr (qo (K := K) rfl) (zr (qo (K := K) rfl) (pv 1) ze (fun _ _ => rfl)) (pv 0) (fun _ _ => rfl)) ze (fun _ _ => rfl))) (zF (i := 5) nd rfl (Or.inl rfl)))
      (zk (zx (zp qP (zp qP (zp qP (zA (za (zr zL (pv 0) ze (fun _ _ => rfl)) zc)) (pv 4)) (pv 5)) (zA (za (zr zL (pv 0) ze (fun _ _ => rfl)) zc)))))))),?_⟩
    refine ⟨_,rfl,tp,_,rfl,qt,rfl,_,_,rfl,_,_,rfl,rfl,?_⟩
    refine ⟨_,rfl,ta,rfl,⟨_,qa⟩,j3 (K := K) (a := ta) (xs := xs) (fun i zs H1 => Reps K H1 ((t.pk.take i).map fun p => plD (fpl J p.2)) zs /\ Same H H1) ⟨rfl,Same.refl _⟩ (fun i zs H1 ⟨_,sm⟩ => sm.sqT qa) ?_ ?_⟩
    · rintro i x zs H1 hx ⟨rz,sm⟩
      obtain ⟨d,e1,r1⟩ := (ra.same sm).get hx
      rw [List.getElem?_map] at e1
      obtain ⟨p,ep,rfl⟩ := Option.map_eq_some_iff.mp e1
      obtain ⟨pa,rfl,qpa⟩ := xb r1
      have hi : i < t.pk.length := (List.getElem?_eq_some_iff.mp ep).1
      obtain ⟨a,c,ea,⟨x',z',q1⟩,q2⟩ := Xo (fs := fs) (rf'.same sm) (tb.f p (List.mem_of_getElem? ep))
      refine ⟨pa,_,rfl,qpa,rfl,_,_,rfl,_,_,rfl,rfl,rfl,?_⟩
      have zl := rz.len
      rw [List.length_map,List.length_take] at zl
      refine ⟨_,rfl,jp,_,_,_,rfl,rfl,sm.sqT qj,rfl,_,rfl,fs,_,_,_,rfl,rfl,sm.sqT qf,qE ea,a,_,_,_,rfl,rfl,q1,rfl,by omega,?_,sm⟩
      rw [qi ep,List.map_append]
      exact Reps.snoc q2 rz
    rintro zs H1 ⟨rz,sm⟩
    have etk : t.pk.take xs.length = t.pk := by rw [lxs,List.take_length]
    rw [etk] at rz
    have zl := rz.len
    rw [List.length_map] at zl
    refine ⟨by omega,fun d1 hd1 => ?_⟩
    have s1 := sm.trans (zb (o := .lst zs) hd1)
    have rz1 := rz.same (zb (o := .lst zs) hd1)
    have D1 : upd H1 d1 (.lst zs) d1 = some (.lst zs) := zd
    generalize upd H1 d1 (.lst zs) = H2 at s1 rz1 D1
    clear sm rz hd1
    refine ⟨_,rfl,tc,rfl,⟨_,s1.sqT qc⟩,j3 (K := K) (a := tc) (xs := ys) (fun i ws H3 => Reps K H3 ((t.ly.take i).map fun p => plD (ppl J p)) ws /\ Same H2 H3) ⟨rfl,Same.refl _⟩ (fun i ws H3 ⟨_,sm⟩ => (s1.trans sm).sqT qc) ?_ ?_⟩
    · rintro i x ws H3 hx ⟨rw',sm⟩
      obtain ⟨k',ek,rfl⟩ := Xc (rc.same (s1.trans sm)) hx
      have hi : i < t.ly.length := (List.getElem?_eq_some_iff.mp ek).1
      have s2 := s1.trans sm
      obtain ⟨a,c,ea,⟨x',q1⟩,q2⟩ := JK (ps := ps) (rp'.same s2) (tb.p k' (List.mem_of_getElem? ek))
      refine ⟨rfl,?_⟩
      have wl := rw'.len
      rw [List.length_map,List.length_take] at wl
      refine ⟨_,rfl,jp,_,_,_,rfl,rfl,s2.sqT qj,rfl,_,rfl,ps,_,_,_,rfl,rfl,s2.sqT qp,qE ea,a,_,_,_,rfl,rfl,q1,rfl,by omega,?_,sm⟩
      rw [qi ek,List.map_append]
      exact Reps.snoc q2 rw'
    rintro ws H3 ⟨rw',sm⟩
    have etk2 : t.ly.take ys.length = t.ly := by rw [lys,List.take_length]
    rw [etk2] at rw'
    have wl := rw'.len
    rw [List.length_map] at wl
    refine ⟨by omega,fun d2 hd2 => ?_⟩
    have s2 := (s1.trans sm).trans (zb (o := .lst ws) hd2)
    have rz2 := (rz1.same sm).same (zb (o := .lst ws) hd2)
    have rw2 := rw'.same (zb (o := .lst ws) hd2)
    have D12 := (zb (o := .lst ws) hd2) _ _ (sm _ _ D1)
    have D2 : upd H3 d2 (.lst ws) d2 = some (.lst ws) := zd
    generalize upd H3 d2 (.lst ws) = H4 at s2 rz2 rw2 D12 D2
    clear sm rw' hd2 rz1 D1 s1
    refine ⟨_,rfl,jp,_,_,_,rfl,rfl,s2.sqT qj,rfl,le1,fun l1 hl1 => ?_⟩
    have u1 := zb (o := .lst [.ref g]) hl1
    refine ⟨_,rfl,l1,d1,_,_,rfl,rfl,zd,u1 _ _ D12,by show 1 + _ <= _;omega,fun l2 hl2 => ?_⟩
    have u2 := u1.trans (zb (o := .lst ([.ref g] ++ zs)) hl2)
    refine ⟨_,rfl,l2,d2,_,_,rfl,rfl,zd,u2 _ _ D2,by simp;omega,fun l3 hl3 => ?_⟩
    have u3 := u2.trans (zb (o := .lst ([.ref g] ++ zs ++ ws)) hl3)
    refine ⟨_,rfl,jp,_,_,_,rfl,rfl,(s2.trans u3).sqT qj,rfl,le1,fun l4 hl4 => ?_⟩
    have u4 := u3.trans (zb (o := .lst [.ref g]) hl4)
    refine ⟨l3,l4,_,_,rfl,rfl,(zb hl4) _ _ zd,zd,by simp;omega,fun l5 hl5 => ?_⟩
    have u5 := u4.trans (zb (o := .lst ([.ref g] ++ zs ++ ws ++ [.ref g])) hl5)
    refine k l5 _ _ ((s2.trans u4).none hl5) (s2.trans u5) zd ?_
    have rg5 : Rep K _ (plD (xI J)) (.ref g) := (rg.same s2).same u5
    unfold jx
    rw [List.map_append,List.map_append,List.map_append,List.map_map,List.map_map]
    exact Reps.snoc rg5 (Reps.app (Reps.app (⟨_,_,rfl,rg5,rfl⟩) (rz2.same u5)) (rw2.same u5))
end
end L2
set_option Elab.async false
set_option linter.all false
set_option maxRecDepth 100000
set_option maxHeartbeats 4000000
namespace L2
open PySem PySem.Spec PyProof.Rows
def qd (J : Job) (ts : List qv) : List (Int × Int) := ts.flatMap (jx J)
theorem xp (J : Job) (ts : List qv) (t : qv) : qd J (ts ++ [t]) = qd J ts ++ jx J t := by
  unfold qd
  rw [List.flatMap_append]
  simp
def zZ (J : Job) (ts : List qv) : List (Int × Int) := if (qd J ts).isEmpty = true then [xI J] else qd J ts
theorem xR {J : Job} {ord : List Nat} (jo : jh J ord) (ts : List qv) : ∀ p ∈ zZ J ts,inB p := by
  intro p hp
  unfold zZ at hp
  split at hp
  · rw [List.mem_singleton.mp hp];exact jo.gate
  · unfold qd at hp
    obtain ⟨t,_,h⟩ := List.mem_flatMap.mp hp
    exact Jn jo t p h
theorem qW {J : Job} : ∀ {ts : List qv},(∀ t ∈ ts,vb J t) -> (qd J ts).length <= 10 * ts.length
  | [],_ => Nat.le_refl _
  | t :: ts,h => by
    have h1 := wm (h t (by simp))
    have h2 := qW (ts := ts) fun t' ht' => h t' (List.mem_cons_of_mem _ ht')
    show (jx J t ++ qd J ts).length <= _
    rw [List.length_append,List.length_cons]
    omega
theorem vz {J : Job} {ts : List qv} (h : ∀ t ∈ ts,vb J t) (hl : ts.length <= 60) : (zZ J ts).length <= 700 /\ zZ J ts ≠ [] := by
  have := qW h
  unfold zZ
  split
  · exact ⟨by show 1 <= 700;decide,fun z => by cases z⟩
  · rename_i c
    refine ⟨by omega,fun z => c (by rw [z];rfl)⟩
section
variable {P : Program} {w : World} {K : PySem.W.Frag} {mg : Str -> Option Value} {base : Heap}
theorem vL {H : Hp} : ∀ {ps : List (Int × Int)} {us : List V},Reps K H (ps.map plD) us -> PlAll K H ps us
  | [],_,h => h
  | p :: ps,_,h => by
    obtain ⟨v,r,e,h1,h2⟩ := h
    obtain ⟨a,rfl,q⟩ := XN h1
    exact ⟨_,r,e,⟨a,rfl,q⟩,vL h2⟩
inductive x8 (K : PySem.W.Frag) (vs : List V) (H : Hp) (Q : VK) : Prop
  | mk (jp pl : Addr) (k : Nat) (J : Job) (ord : List Nat) (ts : List qv) (tr : List V) (_ : vs = [.ref jp,.ref pl,.int k]) (_ : k <= 20) (_ : Rep K H (jR J) (.ref jp)) (_ : jh J ord) (_ : H pl = some (.lst tr)) (_ : Reps K H (ts.map qQ) tr) (_ : (∀ t ∈ ts,vb J t)) (_ : ts.length <= 60) (_ : ∀ t H',H t = none -> Same H H' -> H' t = some (.lst ((qT k (zZ J ts) ((zZ J ts).length - 1)).map V.int)) -> Q (.ref t) H') : x8 K vs H Q
def xU (K : PySem.W.Frag) : Sp := fun vs H Q _ => x8 K vs H Q
theorem Vm : zy ["job", "plan", "work", "stops"] ["job", "plan", "work"] (zi (zj 10)) := ⟨rfl,rfl,rfl,by decide +kernel,rfl,by decide +kernel,by decide +kernel⟩
theorem VX {f : Addr} {fd : FuncData} (F : Fun K "track_of" "track_of" (zj 10) f fd) (B : Blt mg) (Dstops_of : Dfn P w K mg base "stops_of" 1 ["job", "trip"] (wU K)) (Dtrack_by : Dfn P w K mg base "track_by" 3 ["places", "work"] (vA K)) : FnOk P w K mg base CX0 4 f fd ["job", "plan", "work"] (xU K) := by
  have nd := Vm.nd
  refine F.ok Vm (fun vs H Q E h => ?_) (fun cdv A outer s H vs Q E hr h => ?_)
  · obtain ⟨jp,pl,k,J,ord,ts,tr,rfl,_⟩ := h
    rfl
  · obtain ⟨jp,pl,kk,J,ord,ts,tr,rfl,hkk,rj,jo,hp,rt,tb,tl,k⟩ := h
    have hbig : 100000 < sizeLine := by rw [sizeLine_eq];decide
    have ltr := rt.len
    rw [List.length_map] at ltr
    have asl := qW tb
    obtain ⟨g,fs,ps,as,qj,rg,_⟩ := jA rj
    refine ⟨_,(zf (XM ["job"] [0] rfl rfl (by kernel_rfl) (qV (pv 1)) (fun C0 s0 H0 ex0 => qH) (fun C0 s0 H0 ex0 => (JM (K := K) rfl (zg Dstops_of (hr.mono (by first | decide | exact Nat.le_refl _ | omega)) rfl (za (pv 2) (za (pv 0) zc))))) (fun C0 s0 H0 ex0 => qH) (fun C0 s0 H0 ex0 => (pv 1)) (zF (i := 3) nd rfl (Or.inl rfl)))
      (zf (qJ (jF (XL (pv 3)))
      (zk (zt (i := 3) nd rfl (Or.inl rfl) (zA (za (zr zL (pv 0) ze (fun _ _ => rfl)) zc))))
      qk)
      (zk (zx (zg Dtrack_by (hr.mono (by first | decide | exact Nat.le_refl _ | omega)) rfl (za (pv 3) (za (pv 2) zc))))))),?_⟩
    refine ⟨_,rfl,pl,rfl,⟨_,SqL.of hp⟩,Xh (K := K) (a := pl) (xs := tr) (fun i zs H1 => Reps K H1 ((qd J (ts.take i)).map plD) zs /\ Same H H1) ⟨rfl,Same.refl _⟩ (fun i zs H1 ⟨_,sm⟩ => SqL.of (sm _ _ hp)) ?_ ?_⟩
    · rintro i x zs H1 hx ⟨rz,sm⟩
      obtain ⟨d,e1,r1⟩ := (rt.same sm).get hx
      rw [List.getElem?_map] at e1
      obtain ⟨t,et,rfl⟩ := Option.map_eq_some_iff.mp e1
      obtain ⟨tp,zz,ex,_⟩ := id r1
      subst ex
      have hi : i < ts.length := (List.getElem?_eq_some_iff.mp et).1
      have tbt := tb t (List.mem_of_getElem? et)
      have sl := wm tbt
      have zl := rz.len
      rw [List.length_map] at zl
      have asi := qW (J := J) (ts := ts.take i) fun t' ht' => tb t' (List.mem_of_mem_take ht')
      rw [List.length_take] at asi
      refine ⟨rfl,?_⟩
      refine ⟨_,rfl,_,rfl,jp,tp,J,t,rfl,rj.same sm,r1,tbt,fun l us H2 _ s2 L2 r2 => ?_⟩
      have ul := r2.len
      rw [List.length_map] at ul
      refine ⟨l,rfl,⟨_,SqL.of L2⟩,Vc (K := K) (a := l) (xs := us) (fun j ws H3 => ws = zs ++ us.take j /\ Same H2 H3) ⟨by simp,Same.refl _⟩ (fun j ws H3 ⟨_,s3⟩ => SqL.of (s3 _ _ L2)) ?_ ?_⟩
      · rintro j y ws H3 hy ⟨rfl,s3⟩
        have hj : j < us.length := (List.getElem?_eq_some_iff.mp hy).1
        refine ⟨⟨rfl,rfl,trivial⟩,?_⟩
        refine ⟨_,rfl,?_,?_,s3⟩
        · rw [List.length_append,List.length_take];omega
        · rw [qi hy,List.append_assoc]
      · rintro ws H3 ⟨rfl,s3⟩
        rw [List.take_length]
        refine ⟨?_,(sm.trans s2).trans s3⟩
        rw [qi et,xp,List.map_append]
        exact Reps.app ((rz.same s2).same s3) (r2.same s3)
    rintro zs H1 ⟨rz,sm⟩
    have etk : ts.take tr.length = ts := by rw [ltr,List.take_length]
    rw [etk] at rz
    have zl := rz.len
    rw [List.length_map] at zl
    refine ⟨by omega,fun D hD => ?_⟩
    have s1 := sm.trans (zb (o := .lst zs) hD)
    have rz1 := rz.same (zb (o := .lst zs) hD)
    have D1 : upd H1 D (.lst zs) D = some (.lst zs) := zd
    generalize upd H1 D (.lst zs) = H2 at s1 rz1 D1
    have sp := vz (J := J) tb tl
    have fin : ∀ (a : Addr) (us : List V) H3,Same H2 H3 -> H3 a = some (.lst us) -> Reps K H3 ((zZ J ts).map plD) us -> vA K [.ref a,.int kk] H3 Q E := fun a us H3 s3 L3 r3 =>
      ⟨a,kk,us,zZ J ts,rfl,hkk,SqL.of L3,vL r3,xR jo ts,sp.2,sp.1,fun t H' tN s' L' => k t H' ((s1.trans s3).none tN) ((s1.trans s3).trans s') L'⟩
    have ez : zs.isEmpty = (qd J ts).isEmpty := by
      cases zs with
      | nil => simp at zl;rw [List.eq_nil_of_length_eq_zero zl.symm];rfl
      | cons y ys =>
        cases e : qd J ts with
        | nil => rw [e] at zl;simp at zl
        | cons _ _ => rfl
    refine ⟨_,rfl,D,zs,rfl,SqL.of D1,?_⟩
    refine qw (fun c => ?_) (fun c => ?_)
    · have c : zs.isEmpty = true := by simpa using c
      refine ⟨_,rfl,jp,_,_,_,rfl,rfl,s1.sqT qj,rfl,le1,fun l hl => ⟨_,rfl,_,rfl,fin l _ _ (zb hl) zd ?_⟩⟩
      have e : zZ J ts = [xI J] := by unfold zZ;rw [if_pos (by rw [<- ez];exact c)]
      rw [e]
      exact ⟨_,_,rfl,(rg.same s1).same (zb hl),rfl⟩
    · have c : ¬ zs.isEmpty = true := by simpa using c
      refine ⟨_,rfl,_,rfl,fin D zs H2 (Same.refl _) D1 ?_⟩
      have e : zZ J ts = qd J ts := by unfold zZ;rw [if_neg (by rw [<- ez];exact c)]
      rw [e]
      exact rz1
inductive vE (K : PySem.W.Frag) (vs : List V) (H : Hp) (Q : VK) : Prop
  | mk (jp pl : Addr) (J : Job) (ord : List Nat) (ts : List qv) (tr : List V) (_ : vs = [.ref jp,.ref pl]) (_ : Rep K H (jR J) (.ref jp)) (_ : jh J ord) (_ : H pl = some (.lst tr)) (_ : Reps K H (ts.map qQ) tr) (_ : (∀ t ∈ ts,vb J t)) (_ : ts.length <= 60) (_ : ∀ (l : Addr) (us : List V) H',Same H H' -> H' l = some (.lst us) -> Reps K H' ((zZ J ts).map plD) us -> Q (.ref l) H') : vE K vs H Q
def vF (K : PySem.W.Frag) : Sp := fun vs H Q _ => vE K vs H Q
theorem Vp : zy ["_law_job_here", "_law_plan_here", "_law_found", "_law_picks", "_law_lays"] ["_law_job_here", "_law_plan_here"] (zi (zj 36)) := ⟨rfl,rfl,rfl,by decide +kernel,rfl,by decide +kernel,by decide +kernel⟩
def Qx (jp : _) (pl : _) (H : _) (K : _) (J : _) (ts : List qv) := fun (i : Nat) (σ : St) (H1 : Hp) => (Ex4 fun (l : Addr) (v3 v4 : Option V) (us : List V) => An4 (σ = [some (.ref jp),some (.ref pl),some (.ref l),v3,v4]) (Same H H1) (H1 l = some (.lst us)) (Reps K H1 ((qd J (ts.take i)).map plD) us) : Prop)
theorem V0 {f : Addr} {fd : FuncData} (F : Fun K "_law_stops" "_law_stops" (zj 36) f fd) (B : Blt mg) : FnOk P w K mg base CX0 1 f fd ["_law_job_here", "_law_plan_here"] (vF K) := by
  have nd := Vp.nd
  refine F.ok Vp (fun vs H Q E h => ?_) (fun cdv A outer s H vs Q E hr h => ?_)
  · obtain ⟨jp,pl,J,ord,ts,tr,rfl,_⟩ := h
    rfl
  · obtain ⟨jp,pl,J,ord,ts,tr,rfl,rj,jo,hp,rt,tb,tl,k⟩ := h
    have hu := hr.units0
    have hbig : 100000 < sizeLine := by rw [sizeLine_eq];decide
    have ltr := rt.len
    rw [List.length_map] at ltr
    obtain ⟨g,fs,ps,as,qj,rg,rf,rp,_⟩ := jA rj
    obtain ⟨fv,qf,rf'⟩ := jb rf
    obtain ⟨pv',qp,rp'⟩ := jb rp
    refine ⟨_,(zf (zt (i := 2) nd rfl (Or.inl rfl) (zA zc))
      (zf (qy PassesOwn.never rfl (qV (pv 1)) (jy rfl (zN (zF (i := 3) nd rfl (Or.inl rfl)) (zN (zF (i := 4) nd rfl (Or.inl rfl)) jc)))
      (zf (zt (i := 2) nd rfl (Or.inl rfl) (zp qP (zp qP (pv 2) (zA (za (zr zL (pv 0) ze (fun _ _ => rfl)) zc))) (xu ["_law_job_here"] [0] rfl rfl (by kernel_rfl) (jG (pv 3)) (fun C0 s0 H0 ex0 => qH) (fun C0 s0 H0 ex0 => (zr (qo (K := K) rfl) (zr (qo (K := K) rfl) (zr (qo (K := K) rfl) (pv 2) ze (fun _ _ => rfl)) (pv 1) (fun _ _ => rfl)) ze (fun _ _ => rfl))))))
        (zk (zt (i := 2) nd rfl (Or.inl rfl) (zp qP (zp qP (pv 2) (jH ["_law_job_here"] [0] rfl rfl (by kernel_rfl) (jG (pv 4)) (fun C0 s0 H0 ex0 => qH) (fun C0 s0 H0 ex0 => (zr (qo (K := K) rfl) (zr (qo (K := K) rfl) (zr (qo (K := K) rfl) (pv 1) ze (fun _ _ => rfl)) (pv 0) (fun _ _ => rfl)) ze (fun _ _ => rfl))))) (zA (za (zr zL (pv 0) ze (fun _ _ => rfl)) zc)))))))
      (zk (zx (qN (zG (xF hu) (pv 2) (zA zc) (zE _)) (pv 2) (zA (za (zr zL (pv 0) ze (fun _ _ => rfl)) zc))))))),?_⟩
    refine ⟨le0,fun l0 hl0 => ?_⟩
    refine ⟨_,rfl,pl,rfl,⟨_,SqL.of ((zb hl0) _ _ hp)⟩,xJ (K := K) (a := pl) (xs := tr) (Qx jp pl H K J ts)
      ⟨l0,_,_,[],rfl,zb hl0,zd,rfl⟩ (fun i σ H1 _ ⟨_,_,_,_,_,sm,_,_⟩ => SqL.of (sm _ _ hp)) ?_ ?_⟩
    · rintro i x σ H1 hx ⟨l,v3,v4,us,rfl,s1,L1,r1⟩
      obtain ⟨d,e1,rtt⟩ := (rt.same s1).get hx
      rw [List.getElem?_map] at e1
      obtain ⟨t,et,rfl⟩ := Option.map_eq_some_iff.mp e1
      obtain ⟨tp,zz,ex,_⟩ := id rtt
      subst ex
      obtain ⟨ta,tc,xs,ys,qt,qa,ra,qc,rc⟩ := wf rtt
      have hi : i < ts.length := (List.getElem?_eq_some_iff.mp et).1
      have tbt := tb t (List.mem_of_getElem? et)
      have tl1 := tbt.l1
      have tl2 := tbt.l2
      have lxs := ra.len
      rw [List.length_map] at lxs
      have lys := rc.len
      rw [List.length_map] at lys
      have ul := r1.len
      rw [List.length_map] at ul
      have asi := qW (J := J) (ts := ts.take i) fun t' ht' => tb t' (List.mem_of_mem_take ht')
      rw [List.length_take] at asi
      refine ⟨tp,_,rfl,qt,rfl,_,_,rfl,_,_,rfl,rfl,?_⟩
      refine ⟨_,rfl,_,rfl,jp,_,_,_,rfl,rfl,s1.sqT qj,rfl,le1,fun l1 hl1 => ⟨l,l1,_,_,rfl,rfl,(zb hl1) _ _ L1,zd,by show us.length + 1 <= _;omega,fun l2 hl2 => ?_⟩⟩
      have u2 := (zb (o := .lst [.ref g]) hl1).trans (zb (o := .lst (us ++ [.ref g])) hl2)
      have L2 : upd (upd H1 l1 (.lst [.ref g])) l2 (.lst (us ++ [.ref g])) l2 = some (.lst (us ++ [.ref g])) := zd
      generalize upd (upd H1 l1 (.lst [.ref g])) l2 (.lst (us ++ [.ref g])) = H2 at u2 L2
      have s2 := s1.trans u2
      refine ⟨_,rfl,ta,rfl,⟨_,u2.sqT qa⟩,j3 (K := K) (a := ta) (xs := xs) (fun j zs H3 => Reps K H3 ((t.pk.take j).map fun p => plD (fpl J p.2)) zs /\ Same H2 H3) ⟨rfl,Same.refl _⟩ (fun j zs H3 ⟨_,sm⟩ => (u2.trans sm).sqT qa) ?_ ?_⟩
      · rintro j x zs H3 hx ⟨rz,sm⟩
        have s3 := s2.trans sm
        obtain ⟨d,e1,rr⟩ := ((ra.same u2).same sm).get hx
        rw [List.getElem?_map] at e1
        obtain ⟨p,ep,rfl⟩ := Option.map_eq_some_iff.mp e1
        obtain ⟨pa,rfl,qpa⟩ := xb rr
        have hj : j < t.pk.length := (List.getElem?_eq_some_iff.mp ep).1
        obtain ⟨a,c,ea,⟨x',z',q1⟩,q2⟩ := Xo (fs := fs) (rf'.same s3) (tbt.f p (List.mem_of_getElem? ep))
        refine ⟨pa,_,rfl,qpa,rfl,_,_,rfl,_,_,rfl,rfl,rfl,?_⟩
        have zl := rz.len
        rw [List.length_map,List.length_take] at zl
        refine ⟨_,rfl,jp,_,_,_,rfl,rfl,s3.sqT qj,rfl,_,rfl,fs,_,_,_,rfl,rfl,s3.sqT qf,qE ea,a,_,_,_,rfl,rfl,q1,rfl,by omega,?_,sm⟩
        rw [qi ep,List.map_append]
        exact Reps.snoc q2 rz
      rintro zs H3 ⟨rz,sm⟩
      have etk : t.pk.take xs.length = t.pk := by rw [lxs,List.take_length]
      rw [etk] at rz
      have zl := rz.len
      rw [List.length_map] at zl
      refine ⟨by omega,fun d1 hd1 => ⟨l2,d1,_,_,rfl,rfl,(sm.trans (zb hd1)) _ _ L2,zd,by rw [List.length_append];show us.length + 1 + _ <= _;omega,fun l3 hl3 => ?_⟩⟩
      have u4 := (sm.trans (zb (o := .lst zs) hd1)).trans (zb (o := .lst (us ++ [.ref g] ++ zs)) hl3)
      have rz4 := (rz.same (zb (o := .lst zs) hd1)).same (zb (o := .lst (us ++ [.ref g] ++ zs)) hl3)
      have L4 : upd (upd H3 d1 (.lst zs)) l3 (.lst (us ++ [.ref g] ++ zs)) l3 = some (.lst (us ++ [.ref g] ++ zs)) := zd
      generalize upd (upd H3 d1 (.lst zs)) l3 (.lst (us ++ [.ref g] ++ zs)) = H4 at u4 rz4 L4
      have u14 := u2.trans u4
      have s4 := s1.trans u14
      clear rz sm hd1 hl3
      refine ⟨_,rfl,_,rfl,tc,rfl,⟨_,u14.sqT qc⟩,j3 (K := K) (a := tc) (xs := ys) (fun j ws H5 => Reps K H5 ((t.ly.take j).map fun p => plD (ppl J p)) ws /\ Same H4 H5) ⟨rfl,Same.refl _⟩ (fun j ws H5 ⟨_,sm⟩ => (u14.trans sm).sqT qc) ?_ ?_⟩
      · rintro j x ws H5 hx ⟨rw',sm⟩
        have s5 := s4.trans sm
        obtain ⟨k',ek,rfl⟩ := Xc ((rc.same u14).same sm) hx
        have hj : j < t.ly.length := (List.getElem?_eq_some_iff.mp ek).1
        obtain ⟨a,c,ea,⟨x',q1⟩,q2⟩ := JK (ps := ps) (rp'.same s5) (tbt.p k' (List.mem_of_getElem? ek))
        refine ⟨rfl,?_⟩
        have wl := rw'.len
        rw [List.length_map,List.length_take] at wl
        refine ⟨_,rfl,jp,_,_,_,rfl,rfl,s5.sqT qj,rfl,_,rfl,ps,_,_,_,rfl,rfl,s5.sqT qp,qE ea,a,_,_,_,rfl,rfl,q1,rfl,by omega,?_,sm⟩
        rw [qi ek,List.map_append]
        exact Reps.snoc q2 rw'
      rintro ws H5 ⟨rw',sm⟩
      have etk2 : t.ly.take ys.length = t.ly := by rw [lys,List.take_length]
      rw [etk2] at rw'
      have wl := rw'.len
      rw [List.length_map] at wl
      refine ⟨by omega,fun d2 hd2 => ⟨l3,d2,_,_,rfl,rfl,(sm.trans (zb hd2)) _ _ L4,zd,by rw [List.length_append,List.length_append];show us.length + 1 + _ + _ <= _;omega,fun l4 hl4 => ?_⟩⟩
      have u6 := (sm.trans (zb (o := .lst ws) hd2)).trans (zb (o := .lst (us ++ [.ref g] ++ zs ++ ws)) hl4)
      have rw6 := (rw'.same (zb (o := .lst ws) hd2)).same (zb (o := .lst (us ++ [.ref g] ++ zs ++ ws)) hl4)
      have L6 : upd (upd H5 d2 (.lst ws)) l4 (.lst (us ++ [.ref g] ++ zs ++ ws)) l4 = some (.lst (us ++ [.ref g] ++ zs ++ ws)) := zd
      generalize upd (upd H5 d2 (.lst ws)) l4 (.lst (us ++ [.ref g] ++ zs ++ ws)) = H6 at u6 rw6 L6
      have u16 := u14.trans u6
      have s6 := s1.trans u16
      refine ⟨_,rfl,jp,_,_,_,rfl,rfl,s6.sqT qj,rfl,le1,fun l5 hl5 => ⟨l4,l5,_,_,rfl,rfl,(zb hl5) _ _ L6,zd,by rw [List.length_append,List.length_append,List.length_append];show us.length + 1 + _ + _ + 1 <= _;omega,fun l6 hl6 => ?_⟩⟩
      have u7 := (zb (o := .lst [.ref g]) hl5).trans (zb (o := .lst (us ++ [.ref g] ++ zs ++ ws ++ [.ref g])) hl6)
      have L7 : upd (upd H6 l5 (.lst [.ref g])) l6 (.lst (us ++ [.ref g] ++ zs ++ ws ++ [.ref g])) l6 = some (.lst (us ++ [.ref g] ++ zs ++ ws ++ [.ref g])) := zd
      generalize upd (upd H6 l5 (.lst [.ref g])) l6 (.lst (us ++ [.ref g] ++ zs ++ ws ++ [.ref g])) = H7 at u7 L7
      refine ⟨l6,_,_,_,rfl,s6.trans u7,L7,?_⟩
      have rg7 : Rep K H7 (plD (xI J)) (.ref g) := (rg.same s6).same u7
      rw [qi et,xp,List.map_append]
      have eA : us ++ [V.ref g] ++ zs ++ ws ++ [V.ref g] = us ++ ([V.ref g] ++ zs ++ ws ++ [V.ref g]) := by simp [List.append_assoc]
      rw [eA]
      refine Reps.app ((r1.same u16).same u7) ?_
      unfold jx
      rw [List.map_append,List.map_append,List.map_append,List.map_map,List.map_map]
      exact Reps.snoc rg7 (Reps.app (Reps.app (⟨_,_,rfl,rg7,rfl⟩) ((rz4.same u6).same u7)) (rw6.same u7))
    · rintro σ H1 ⟨l,v3,v4,us,rfl,s1,L1,r1⟩
      have etk : ts.take tr.length = ts := by rw [ltr,List.take_length]
      rw [etk] at r1
      have ul := r1.len
      rw [List.length_map] at ul
      have ez : us.isEmpty = (qd J ts).isEmpty := by
        cases us with
        | nil => simp at ul;rw [List.eq_nil_of_length_eq_zero ul.symm];rfl
        | cons y ys =>
          cases e : qd J ts with
          | nil => rw [e] at ul;simp at ul
          | cons _ _ => rfl
      refine ⟨_,rfl,le0,fun q hq => ⟨l,q,us,rfl,rfl,SqL.of ((zb hq) _ _ L1),SqL.of zd,_,rfl,qw (fun c => ?_) (fun c => ?_)⟩⟩
      · have c : ¬ us.isEmpty = true := by simpa using c
        have e : zZ J ts = qd J ts := by unfold zZ;rw [if_neg (by rw [<- ez];exact c)]
        exact ⟨_,rfl,k l us _ (s1.trans (zb hq)) ((zb hq) _ _ L1) (by rw [e];exact r1.same (zb hq))⟩
      · have c : us.isEmpty = true := by simpa using c
        have e : zZ J ts = [xI J] := by unfold zZ;rw [if_pos (by rw [<- ez];exact c)]
        have s2 := s1.trans (zb (o := .lst []) hq)
        exact ⟨_,rfl,jp,_,_,_,rfl,rfl,s2.sqT qj,rfl,le1,fun l2 hl2 => k l2 _ _ (s2.trans (zb hl2)) zd (by rw [e];exact ⟨_,_,rfl,(rg.same s2).same (zb hl2),rfl⟩)⟩
end
end L2
set_option Elab.async false
set_option linter.all false
set_option maxRecDepth 100000
set_option maxHeartbeats 4000000
namespace L2
open PySem PySem.Spec PyProof.Rows
section
variable {P : Program} {w : World} {K : PySem.W.Frag} {mg : Str -> Option Value} {base : Heap}
inductive wy (K : PySem.W.Frag) (vs : List V) (H : Hp) (Q : VK) : Prop
  | mk (b : Addr) (n : Int) (_ : vs = [.ref b]) (_ : BoxAt H b n) (_ : n < 500000) (_ : ∀ (p : Addr) (J : Job) (ord : List Nat) H',SameB b H H' -> BoxAt H' b (n + 3000) -> Rep K H' (jR J) (.ref p) -> jh J ord -> Q (.ref p) H') : wy K vs H Q
def w6 (K : PySem.W.Frag) : Sp := fun vs H Q _ => wy K vs H Q
theorem Z1 : zy ["_law_box_here", "_law_parts", "_law_gate", "_law_near"] ["_law_box_here"] (zi (zj 38)) := ⟨rfl,rfl,rfl,by decide +kernel,rfl,by decide +kernel,by decide +kernel⟩
theorem WK : Nm ("a" : Str) := ⟨by decide,fun c hc => by
  have : ("a" : Str).cps.toList = [97] := by decide +kernel
  rw [this] at hc
  rw [List.mem_singleton.mp hc]
  decide⟩
def Qw (K : _) (b : _) (H : _) (n : _) := fun (i : Nat) (zs : List V) (H1 : Hp) => (Ex1 fun (ps : List Zh) => An6 (zs.length = i) (ps.length = i) ((∀ p ∈ ps,p.k = "a" /\ inP p.x p.y)) (Reps K H1 (ps.map qK) zs) (SameB b H H1) (BoxAt H1 b (n + i)) : Prop)
theorem J5 {f : Addr} {fd : FuncData} (F : Fun K "_law_great" "_law_great" (zj 38) f fd) (B : Blt mg) (D_take : Dfn P w K mg base "_law_take" 1 ["_law_box_here", "_law_size"] qM) : FnOk P w K mg base CX0 2 f fd ["_law_box_here"] (w6 K) := by
  have nd := Z1.nd
  refine F.ok Z1 (fun vs H Q E h => ?_) (fun cdv A outer s H vs Q E hr h => ?_)
  · obtain ⟨b,n,rfl,_⟩ := h
    rfl
  · obtain ⟨b,n,rfl,B0,hn,k⟩ := h
    have hbig : 100000 < sizeLine := by rw [sizeLine_eq];decide
    refine ⟨_,(zf (zt (i := 1) nd rfl (Or.inl rfl) (zM zY rfl B.tuple zX (za (jH ["_law_box_here"] [0] rfl rfl (by kernel_rfl) (zV rfl B.range (za ze zc)) (fun C0 s0 H0 ex0 => qH) (fun C0 s0 H0 ex0 => (zQ (za jY (za (zQ (za (zp ja (pv 0) ze) (za (zp zI (zp je (zp yf (pv 0) ze) ze) (zg D_take (hr.mono (by first | decide | exact Nat.le_refl _ | omega)) rfl (za (pv 1) (za ze zc)))) zc))) zc))))) zc)))
      (zf (xr (i := 2) (j := 3) rfl nd rfl rfl (by decide) rfl rfl (za (zQ (za (zg D_take (hr.mono (by first | decide | exact Nat.le_refl _ | omega)) rfl (za (pv 0) (za ze zc))) (za (zg D_take (hr.mono (by first | decide | exact Nat.le_refl _ | omega)) rfl (za (pv 0) (za ze zc))) zc))) (za (zQ (za (zg D_take (hr.mono (by first | decide | exact Nat.le_refl _ | omega)) rfl (za (pv 0) (za ze zc))) (za (zg D_take (hr.mono (by first | decide | exact Nat.le_refl _ | omega)) rfl (za (pv 0) (za ze zc))) zc))) zc)) (by rfl))
      (zk (zx (zQ (pa5 (pv 2) (zp zI ze (zg D_take (hr.mono (by first | decide | exact Nat.le_refl _ | omega)) rfl (za (pv 0) (za ze zc)))) (zQ (za (zQ (za jY (za (pv 3) (za ze zc)))) zc)) (pv 1) (zQ zc))))))),?_⟩
    refine ⟨60,rfl,(by decide),(by decide),vQ (Qw K b H n) ⟨[],rfl,rfl,(fun _ h => nomatch h),rfl,SameB.refl _ _,B0.mono (by omega)⟩ ?_ ?_⟩
    · rintro i zs H1 hi ⟨ps,zl,pl,pa,rz,S1,B1⟩
      rw [Int.zero_add]
      refine ⟨rfl,?_⟩
      refine ⟨_,rfl,_,_,rfl,rfl,(by show (0 : Int) < 13;decide),_,rfl,_,_,rfl,rfl,⟨by decide,by decide⟩,_,_,rfl,rfl,xK (by omega) (by omega),?_⟩
      refine ⟨_,rfl,b,2,_,rfl,B1,by omega,by decide,by decide,fun r H2 r0 r1 B2 S2 => ⟨_,_,rfl,rfl,le2,fun q1 h1 => ⟨le2,fun q2 h2 => ?_⟩⟩⟩
      have T2 := SameT.draw B1 S2
      have u2 := (zb (o := .tup [.int ((i : Int) % 13),.int ((i : Int) / 13 * 2 + r)]) h1).trans (zb (o := .tup [.str "a",.ref q1]) h2)
      have Q1 := (zb (o := .tup [.str "a",.ref q1]) h2) _ _ (zd (H := H2) (a := q1) (o := .tup [.int ((i : Int) % 13),.int ((i : Int) / 13 * 2 + r)]))
      have Q2 : upd (upd H2 q1 (.tup [.int ((i : Int) % 13),.int ((i : Int) / 13 * 2 + r)])) q2 (.tup [.str "a",.ref q1]) q2 = some (.tup [.str "a",.ref q1]) := zd
      generalize upd (upd H2 q1 (.tup [.int ((i : Int) % 13),.int ((i : Int) / 13 * 2 + r)])) q2 (.tup [.str "a",.ref q1]) = H3 at u2 Q1 Q2
      refine ⟨by omega,ps ++ [⟨"a",(i : Int) % 13,(i : Int) / 13 * 2 + r⟩],by rw [List.length_append,zl];rfl,by rw [List.length_append,pl];rfl,fun p hp => ?_,?_,(S1.trans S2).trans (SameB.of u2),(B2.same u2).mono (by omega)⟩
      · rcases List.mem_append.mp hp with z | z
        · exact pa p z
        · rw [List.mem_singleton.mp z]
          refine ⟨rfl,?_⟩
          show inP ((i : Int) % 13) ((i : Int) / 13 * 2 + r)
          unfold inP
          omega
      · rw [List.map_append]
        have rq : Rep K H3 (qK ⟨"a",(i : Int) % 13,(i : Int) / 13 * 2 + r⟩) (.ref q2) := ⟨q2,_,rfl,SqT.of Q2,_,_,rfl,rfl,_,_,rfl,⟨q1,_,rfl,SqT.of Q1,_,_,rfl,rfl,_,_,rfl,rfl,rfl⟩,rfl⟩
        exact Reps.snoc rq ((rz.keep T2 (qG ps)).same u2)
    · rintro zs H1 ⟨ps,zl,pl,pa,rz,S1,B1⟩
      have zl' : zs.length = 60 := zl
      have pl' : ps.length = 60 := pl
      have B1' : BoxAt H1 b (n + 60) := B1
      refine ⟨by omega,fun D hD => ⟨D,zs,rfl,.inl ⟨SqL.of zd,fun tp htp => ?_⟩⟩⟩
      have u1 := (zb (o := .lst zs) hD).trans (zb (o := .tup zs) htp)
      have TP : upd (upd H1 D (.lst zs)) tp (.tup zs) tp = some (.tup zs) := zd
      generalize upd (upd H1 D (.lst zs)) tp (.tup zs) = H2 at u1 TP
      have S2 := S1.trans (SameB.of (b := b) u1)
      have B2 := B1'.same u1
      have rp : Rep K H2 (.tup (ps.map qK)) (.ref tp) := ⟨tp,zs,rfl,SqT.of TP,rz.same u1⟩
      have pim : (Dat.tup (ps.map qK)).imm = true := qG ps
      refine ⟨_,rfl,b,13,_,rfl,B2,by omega,by decide,by decide,fun gx H3 gx0 gx1 B3 S3 => ⟨_,rfl,b,13,_,rfl,B3,by omega,by decide,by decide,fun gy H4 gy0 gy1 B4 S4 => ⟨le2,fun gp hgp => ?_⟩⟩⟩
      have S5 := ((S2.trans S3).trans S4).new (o := .tup [.int gx,.int gy]) hgp
      have B5 := B4.new (o := .tup [.int gx,.int gy]) hgp
      have rp5 := ((rp.keep (SameT.draw B2 S3) pim).keep (SameT.draw B3 S4) pim).same (zb (o := .tup [.int gx,.int gy]) hgp)
      have rg5 : Rep K (upd H4 gp (.tup [.int gx,.int gy])) (.tup [.int gx,.int gy]) (.ref gp) := ⟨gp,_,rfl,SqT.of zd,_,_,rfl,rfl,_,_,rfl,rfl,rfl⟩
      generalize upd H4 gp (.tup [.int gx,.int gy]) = H5 at S5 B5 rp5 rg5
      refine ⟨_,rfl,b,13,_,rfl,B5,by omega,by decide,by decide,fun nx H6 nx0 nx1 B6 S6 => ⟨_,rfl,b,13,_,rfl,B6,by omega,by decide,by decide,fun ny H7 ny0 ny1 B7 S7 => ⟨le2,fun np hnp => ⟨_,_,rfl,?_⟩⟩⟩⟩
      have T7 := (SameT.draw B5 S6).trans (SameT.draw B6 S7)
      have S8 := ((S5.trans S6).trans S7).new (o := .tup [.int nx,.int ny]) hnp
      have B8 := B7.new (o := .tup [.int nx,.int ny]) hnp
      have rp8 := (rp5.keep T7 pim).same (zb (o := .tup [.int nx,.int ny]) hnp)
      have rg8 := (rg5.keep T7 (by rfl)).same (zb (o := .tup [.int nx,.int ny]) hnp)
      have rn8 : Rep K (upd H7 np (.tup [.int nx,.int ny])) (.tup [.int nx,.int ny]) (.ref np) := ⟨np,_,rfl,SqT.of zd,_,_,rfl,rfl,_,_,rfl,rfl,rfl⟩
      generalize upd H7 np (.tup [.int nx,.int ny]) = H8 at S8 B8 rp8 rg8 rn8
      refine ⟨_,rfl,_,rfl,b,4,_,rfl,B8,by omega,by decide,by decide,fun h H9 h0 h1 B9 S9 => ⟨_,_,rfl,rfl,_,rfl,le3,fun f1 hf1 => ⟨le1,fun f2 hf2 => ⟨_,rfl,le0,fun a1 ha1 => ⟨leN (by show 5 <= 1000;decide),fun j hj => ?_⟩⟩⟩⟩⟩
      have T9 := SameT.draw B8 S9
      have u9 := ((zb (o := .tup [.str "a",.ref np,.int 60]) hf1).trans (zb (o := .tup [.ref f1]) hf2)).trans ((zb (o := .tup []) ha1).trans (zb (o := .tup [.ref gp,.int (1 + h),.ref f2,.ref tp,.ref a1]) hj))
      have F1 := (((zb (o := .tup [.ref f1]) hf2)).trans ((zb (o := .tup []) ha1).trans (zb (o := .tup [.ref gp,.int (1 + h),.ref f2,.ref tp,.ref a1]) hj))) f1 _ (zd (H := H9) (o := .tup [.str "a",.ref np,.int 60]))
      have F2 := ((zb (o := .tup []) ha1).trans (zb (o := .tup [.ref gp,.int (1 + h),.ref f2,.ref tp,.ref a1]) hj)) f2 _ (zd (o := .tup [.ref f1]))
      have A1 := (zb (o := .tup [.ref gp,.int (1 + h),.ref f2,.ref tp,.ref a1]) hj) a1 _ (zd (o := .tup []))
      have JJ := zd (H := upd (upd (upd H9 f1 (.tup [.str "a",.ref np,.int 60])) f2 (.tup [.ref f1])) a1 (.tup [])) (a := j) (o := .tup [.ref gp,.int (1 + h),.ref f2,.ref tp,.ref a1])
      generalize upd (upd (upd (upd H9 f1 (.tup [.str "a",.ref np,.int 60])) f2 (.tup [.ref f1])) a1 (.tup [])) j (.tup [.ref gp,.int (1 + h),.ref f2,.ref tp,.ref a1]) = Hj at u9 F1 F2 A1 JJ
      have rpj := (rp8.keep T9 pim).same u9
      have rgj := (rg8.keep T9 (by rfl)).same u9
      have rnj := (rn8.keep T9 (by rfl)).same u9
      refine k j ⟨gx,gy,1 + h,[⟨"a",nx,ny,60⟩],ps,[]⟩ (List.range 60) Hj ((S8.trans S9).trans (SameB.of u9)) ((B9.same u9).mono (by omega)) ?_ ?_
      · exact ⟨j,_,rfl,SqT.of JJ,_,_,rfl,rgj,_,_,rfl,rfl,_,_,rfl,⟨f2,_,rfl,SqT.of F2,_,_,rfl,⟨f1,_,rfl,SqT.of F1,_,_,rfl,rfl,_,_,rfl,rnj,_,_,rfl,rfl,rfl⟩,rfl⟩,_,_,rfl,rpj,_,_,rfl,⟨a1,_,rfl,SqT.of A1,rfl⟩,rfl⟩
      · refine ⟨?_,by show 1 <= 1 + h;omega,by show 1 + h <= 4;omega,by show 1 <= 40;decide,fun f hf => ?_,by show ps.length <= 60;omega,fun p hp => ?_,?_,(fun p h => nomatch h),by show 0 <= 300;decide,by show 1 <= 1;decide⟩
        · show inP gx gy
          unfold inP
          omega
        · have e : f = ⟨"a",nx,ny,60⟩ := List.mem_singleton.mp hf
          rw [e]
          refine ⟨WK,?_,by show (0 : Int) <= 60;decide,by show (60 : Int) <= 400;decide⟩
          show inP nx ny
          unfold inP
          omega
        · obtain ⟨e1,e2⟩ := pa p hp
          refine ⟨by rw [e1];exact WK,e2,⟨"a",nx,ny,60⟩,List.mem_singleton.mpr rfl,e1.symm⟩
        · show (List.range 60).Perm (List.range ps.length)
          rw [pl']
end
end L2
set_option Elab.async false
set_option linter.all false
set_option maxRecDepth 100000
set_option maxHeartbeats 4000000
namespace L2
open PySem PySem.Spec PyProof.Rows
theorem jm {α : Type} {f : α -> Dat} : ∀ {l : List α},(∀ a ∈ l,(f a).shw = true) -> Dat.shws (l.map f) = true
  | [],_ => rfl
  | a :: l,h => by
    show ((f a).shw && Dat.shws (l.map f)) = true
    rw [h a (by simp),jm fun b hb => h b (List.mem_cons_of_mem _ hb)]
    rfl
theorem ju {α : Type} {f : α -> Dat} {c : Nat} : ∀ {l : List α},(∀ a ∈ l,(f a).blk <= c) -> Dat.blks (l.map f) <= (c + 1) * l.length
  | [],_ => Nat.zero_le _
  | a :: l,h => by
    show (f a).blk + 1 + Dat.blks (l.map f) <= _
    have h1 := h a (by simp)
    have h2 := ju (f := f) (c := c) (l := l) fun b hb => h b (List.mem_cons_of_mem _ hb)
    rw [List.length_cons,Nat.mul_succ]
    omega
theorem jq {α : Type} {f : α -> Dat} {c : Nat} (h : ∀ a,(f a).py.depth <= c) : ∀ l : List α,PyData.depthAll (Dat.pys (l.map f)) <= c
  | [] => Nat.zero_le _
  | a :: l => by
    have h1 := h a
    have h2 := jq h l
    show max (PyData.depth (f a).py) (PyData.depthAll (Dat.pys (l.map f))) <= c
    omega
theorem ji {i : Int} (h : -1000000 <= i) (h' : i <= 1000000) : Dat.shw (.int i) = true := decide_eq_true (by omega)
theorem J8 {x : Str} (h : Nm x) : Dat.shw (.str x) = true := List.all_eq_true.mpr fun c hc => decide_eq_true (h.2 c hc)
theorem J9 {x : Str} (h : Nm x) : Dat.blk (.str x) <= 8 := h.1
theorem Zy {x y : Int} (h : inP x y) : Dat.shw (.tup [.int x,.int y]) = true := by
  unfold inP at h
  show (Dat.shw (.int x) && (Dat.shw (.int y) && true)) = true
  rw [ji (by omega) (by omega),ji (by omega) (by omega)]
  rfl
theorem X8 {J : Job} {ord : List Nat} (jo : jh J ord) : (jR J).shw = true := by
  have hd0 := jo.hd0
  have hd1 := jo.hd1
  show (Dat.shw (.tup [.int J.gx,.int J.gy]) && (Dat.shw (.int J.hd) && (Dat.shws (J.fs.map jg) && (Dat.shws (J.ps.map qK) && (Dat.shws (J.as.map qL) && true))))) = true
  rw [Zy jo.gate,ji (by omega) (by omega),jm,jm,jm]
  · rfl
  · intro p hp
    have h1 := List.mem_range.mp (jo.op.mem_iff.mp (jo.bo.mem1 hp))
    have h2 := List.mem_range.mp (jo.op.mem_iff.mp (jo.bo.mem2 hp))
    have pl := jo.pl
    show (Dat.shw (.int (p.1 : Int)) && (Dat.shw (.int (p.2 : Int)) && true)) = true
    rw [ji (by omega) (by omega),ji (by omega) (by omega)]
    rfl
  · intro p hp
    obtain ⟨h1,h2,_⟩ := jo.pa p hp
    show (Dat.shw (.str p.k) && (Dat.shw (.tup [.int p.x,.int p.y]) && true)) = true
    rw [J8 h1,Zy h2]
    rfl
  · intro p hp
    obtain ⟨h1,h2,h3,h4⟩ := jo.fa p hp
    show (Dat.shw (.str p.k) && (Dat.shw (.tup [.int p.x,.int p.y]) && (Dat.shw (.int p.m) && true))) = true
    rw [J8 h1,Zy h2,ji (by omega) (by omega)]
    rfl
theorem Va {J : Job} {ord : List Nat} (jo : jh J ord) : (jR J).blk <= 10000 := by
  have h1 := ju (f := jg) (c := 20) (l := J.fs) fun p hp => by
    have := J9 (jo.fa p hp).1
    show Dat.blk (.str p.k) + 1 + (0 + 1 + (0 + 1 + 0) + 1 + (0 + 1 + 0)) <= 20
    omega
  have h2 := ju (f := qK) (c := 20) (l := J.ps) fun p hp => by
    have := J9 (jo.pa p hp).1
    show Dat.blk (.str p.k) + 1 + (0 + 1 + (0 + 1 + 0) + 1 + 0) <= 20
    omega
  have h3 := ju (f := qL) (c := 20) (l := J.as) fun p hp => by
    show 0 + 1 + (0 + 1 + 0) <= 20
    omega
  have fl := jo.fl
  have pl := jo.pl
  have al := jo.al
  show 0 + 1 + (0 + 1 + 0) + 1 + (0 + 1 + (Dat.blks (J.fs.map jg) + 1 + (Dat.blks (J.ps.map qK) + 1 + (Dat.blks (J.as.map qL) + 1 + 0)))) <= 10000
  omega
theorem X9 (J : Job) : (jR J).py.depth <= 20 := by
  have h1 := jq (f := jg) (c := 10) (fun p => by
    show PyData.depth (.tuple [.str p.k,.tuple [.int p.x,.int p.y],.int p.m]) <= 10
    simp [PyData.depth,PyData.depthAll]) J.fs
  have h2 := jq (f := qK) (c := 10) (fun p => by
    show PyData.depth (.tuple [.str p.k,.tuple [.int p.x,.int p.y]]) <= 10
    simp [PyData.depth,PyData.depthAll]) J.ps
  have h3 := jq (f := qL) (c := 10) (fun p => by
    show PyData.depth (.tuple [.int p.1,.int p.2]) <= 10
    simp [PyData.depth,PyData.depthAll]) J.as
  show PyData.depth (.tuple [.tuple [.int J.gx,.int J.gy],.int J.hd,.tuple (Dat.pys (J.fs.map jg)),.tuple (Dat.pys (J.ps.map qK)),.tuple (Dat.pys (J.as.map qL))]) <= 20
  simp only [PyData.depth,PyData.depthAll]
  omega
theorem Jl {J : Job} {ord : List Nat} {t : qv} (jo : jh J ord) (h : TripOk J t) : (qQ t).shw = true := by
  have pl := jo.pl
  have fl := jo.fl
  show (Dat.shws (t.pk.map qL) && (Dat.shws (t.ly.map vi) && true)) = true
  rw [jm,jm]
  · rfl
  · intro k hk
    obtain ⟨p,hp,rfl⟩ := List.mem_map.mp (h.ly.mem_iff.mp hk)
    obtain ⟨pa,fe,e1,e2,_⟩ := h.ok p hp
    have := (List.getElem?_eq_some_iff.mp e1).1
    exact ji (by omega) (by omega)
  · intro p hp
    obtain ⟨pa,fe,e1,e2,_⟩ := h.ok p hp
    have := (List.getElem?_eq_some_iff.mp e1).1
    have := (List.getElem?_eq_some_iff.mp e2).1
    show (Dat.shw (.int (p.1 : Int)) && (Dat.shw (.int (p.2 : Int)) && true)) = true
    rw [ji (by omega) (by omega),ji (by omega) (by omega)]
    rfl
def vS (J : Job) (ts : List qv) : Dat := .lst [jR J,.lst (ts.map qQ)]
theorem Xy {J : Job} {ord os : List Nat} {ts : List qv} (jo : jh J ord) (h : yt J os ts) : (vS J ts).shw = true := by
  show ((jR J).shw && (Dat.shws (ts.map qQ) && true)) = true
  rw [X8 jo,jm fun t ht => Jl jo (h.tr t ht)]
  rfl
theorem XA {J : Job} {ord os : List Nat} {ts : List qv} (jo : jh J ord) (h : yt J os ts) : (vS J ts).blk <= 1048576 := by
  have h1 := Va jo
  have h2 := ju (f := qQ) (c := 100) (l := ts) fun t ht => by
    have tb := (h.tr t ht).bd jo.hd1
    have l1 := tb.l1
    have l2 := tb.l2
    have h3 := ju (f := qL) (c := 5) (l := t.pk) fun p hp => by
      show 0 + 1 + (0 + 1 + 0) <= 5
      omega
    have h4 := ju (f := vi) (c := 5) (l := t.ly) fun p hp => by
      show 0 <= 5
      omega
    show Dat.blks (t.pk.map qL) + 1 + (Dat.blks (t.ly.map vi) + 1 + 0) <= 100
    omega
  have hl := h.len
  show (jR J).blk + 1 + (Dat.blks (ts.map qQ) + 1 + 0) <= _
  omega
theorem Xz (J : Job) (ts : List qv) : (vS J ts).py.depth <= 60 := by
  have h1 := X9 J
  have h2 := jq (f := qQ) (c := 20) (fun t => by
    have h3 := jq (f := qL) (c := 10) (fun p => by
      show PyData.depth (.tuple [.int p.1,.int p.2]) <= 10
      simp [PyData.depth,PyData.depthAll]) t.pk
    have h4 := jq (f := vi) (c := 10) (fun p => by
      show PyData.depth (.int p) <= 10
      simp [PyData.depth]) t.ly
    show PyData.depth (.tuple [.tuple (Dat.pys (t.pk.map qL)),.tuple (Dat.pys (t.ly.map vi))]) <= 20
    simp only [PyData.depth,PyData.depthAll]
    omega) ts
  show PyData.depth (.list [(jR J).py,.list (Dat.pys (ts.map qQ))]) <= 60
  simp only [PyData.depth,PyData.depthAll]
  omega
def JE (ls : List Int) : Dat := .lst (ls.map Dat.int)
def zz : Nat -> Nat
  | 0 => 20
  | 1 => 661
  | _ => 444874
theorem Wm : ∀ m : Nat,zz m <= 444874
  | 0 => by decide
  | 1 => by decide
  | _ + 2 => Nat.le_refl _
theorem Qg {k z : Nat} : ∀ {ls : List Int},(∀ i ∈ ls,i.natAbs <= 10000000000 + k) -> Dat.gds k (ls.map Dat.int) = true /\ Dat.blks (ls.map Dat.int) = ls.length /\ PyData.depthAll (Dat.pys (ls.map Dat.int)) = 0
  | [],_ => ⟨rfl,rfl,rfl⟩
  | i :: ls,h => by
    obtain ⟨h1,h2,h3⟩ := Qg (z := z) (ls := ls) fun j hj => h j (List.mem_cons_of_mem _ hj)
    refine ⟨?_,?_,?_⟩
    · show (decide (i.natAbs <= 10000000000 + k) && Dat.gds k (ls.map Dat.int)) = true
      rw [h1,decide_eq_true (h i (by simp))];rfl
    · show 0 + 1 + Dat.blks (ls.map Dat.int) = _
      rw [h2,List.length_cons];omega
    · show max (PyData.depth (.int i)) (PyData.depthAll (Dat.pys (ls.map Dat.int))) = 0
      rw [h3];simp [PyData.depth]
theorem QW (k : Nat) (g : Int × Int) : qT k [g] ([g].length - 1) = List.replicate (1 + k) g.1 := by
  unfold qT Xm
  simp
theorem Zp (J : Job) : zZ J [] = [xI J] := rfl
section
variable {P : Program} {w : World} {K : PySem.W.Frag} {mg : Str -> Option Value} {base : Heap}
theorem wG {H : Hp} : ∀ (ls : List Int),Reps K H (ls.map Dat.int) (ls.map V.int)
  | [] => rfl
  | z :: ls => ⟨.int z,ls.map V.int,rfl,rfl,wG ls⟩
theorem jV {H : Hp} {l : Addr} {ls : List Int} (h : H l = some (.lst (ls.map V.int))) : Rep K H (JE ls) (.ref l) := ⟨l,_,rfl,SqL.of h,wG ls⟩
theorem Z2 {ls : List Int} (h : ls.length <= 1000000) : Dat.ok 1 (JE ls) := by
  refine ⟨by rw [List.length_map];exact h,fun d hd => ?_⟩
  obtain ⟨z,_,rfl⟩ := List.mem_map.mp hd
  trivial
structure JP (K : PySem.W.Frag) (H : Hp) (b jp lp : Addr) (J : Job) (ts : List qv) (tr : List V) (H' : Hp) (n : Int) : Prop where
  s : SameB b H H'
  bx : BoxAt H' b n
  rj : Rep K H' (jR J) (.ref jp)
  nl : lp ≠ b
  lp : H' lp = some (.lst tr)
  rt : Reps K H' (ts.map qQ) tr
theorem JP.draw {H H' H'' : Hp} {b jp lp : Addr} {J : Job} {ts : List qv} {tr : List V} {n m : Int} (g : JP K H b jp lp J ts tr H' n) (S : SameB b H' H'') (B : BoxAt H'' b m) : JP K H b jp lp J ts tr H'' m := by
  have T := SameT.draw g.bx S
  exact ⟨g.s.trans S,B,g.rj.keep T (xH J),g.nl,S _ _ g.lp g.nl,g.rt.keep T (qY ts)⟩
theorem JP.same {H H' H'' : Hp} {b jp lp : Addr} {J : Job} {ts : List qv} {tr : List V} {n : Int} (g : JP K H b jp lp J ts tr H' n) (S : Same H' H'') : JP K H b jp lp J ts tr H'' n := g.draw (SameB.of S) (g.bx.same S)
theorem JP.new {H H' : Hp} {b jp lp q : Addr} {o : HO} {J : Job} {ts : List qv} {tr : List V} {n : Int} (g : JP K H b jp lp J ts tr H' n) (h : H' q = none) : JP K H b jp lp J ts tr (upd H' q o) n := g.same (zb h)
theorem JP.mono {H H' : Hp} {b jp lp : Addr} {J : Job} {ts : List qv} {tr : List V} {n m : Int} (g : JP K H b jp lp J ts tr H' n) (h : n <= m) : JP K H b jp lp J ts tr H' m := ⟨g.s,g.bx.mono h,g.rj,g.nl,g.lp,g.rt⟩
theorem JP.both {H H' : Hp} {b jp lp q : Addr} {J : Job} {ts : List qv} {tr : List V} {n : Int} (g : JP K H b jp lp J ts tr H' n) (h : H' q = none) : Rep K (upd H' q (.lst [.ref jp,.ref lp])) (vS J ts) (.ref q) :=
  ⟨q,_,rfl,SqL.of zd,_,_,rfl,g.rj.same (zb h),_,_,rfl,⟨lp,tr,rfl,SqL.of ((zb h) _ _ g.lp),g.rt.same (zb h)⟩,rfl⟩
inductive wr (vs : List V) (H : Hp) (Q : VK) : Prop
  | mk (b : Addr) (n : Int) (_ : vs = [.ref b]) (_ : BoxAt H b n) (_ : n < 1000) (_ : ∀ H',SameB b H H' -> Q (.bl true) H') : wr  vs H Q
def wW : Sp := fun vs H Q _ => wr  vs H Q
theorem ZW : zy ["_law_box_here", "_law_great_here", "_law_job_here", "_law_plan_here", "_law_work", "_law_kept", "_law_more", "_law_ticks", "_law_due", "_law_echo", "_law_thing", "_law_step"] ["_law_box_here"] (zi (zj 39)) := ⟨rfl,rfl,rfl,by decide +kernel,rfl,by decide +kernel,by decide +kernel⟩
theorem Z7 {xs : List Int} {lo hi r : Int} (h0 : 0 <= r) (h1 : r < xs.length) (all : ∀ x ∈ xs,lo <= x /\ x <= hi) : ∃ z : Int,atI (xs.map V.int) r = some (.int z) /\ lo <= z /\ z <= hi := by
  obtain ⟨v,e,e'⟩ := xZ (xs := xs.map V.int) h0 (by rw [List.length_map];exact h1)
  rw [List.getElem?_map] at e'
  obtain ⟨z,ez,rfl⟩ := Option.map_eq_some_iff.mp e'
  exact ⟨z,e,all z (List.mem_of_getElem? ez)⟩
def Qv (b : _) (H : _) (n : _) (K : _) := fun (σ' : St) (H' : Hp) => (Ex4 fun (gr : Bool) (jp : Addr) (J : Job) (ord : List Nat) => An5 (σ' = [some (.ref b),some (.bl gr),some (.ref jp),none,none,none,none,none,none,none,none,none]) (SameB b H H') (BoxAt H' b (n + 3001)) (Rep K H' (jR J) (.ref jp)) (jh J ord) : Prop)
def Qu (b : _) (gr : _) (jp : _) (K : _) (H : _) (J : _) (n : _) := fun (σ' : St) (H' : Hp) => (Ex5 fun (lp : Addr) (os : List Nat) (ts : List qv) (tr : List V) (wn : Nat) => An4 (σ' = [some (.ref b),some (.bl gr),some (.ref jp),some (.ref lp),some (.int (wn : Int)),none,none,none,none,none,none,none]) (JP K H b jp lp J ts tr H' (n + 4004)) (yt J os ts) (wn <= 20) : Prop)
def Qt (b : _) (gr : _) (jp : _) (lp : _) (wn : Nat) (kept : _) (K : _) (H : _) (J : _) (ts : _) (tr : _) (n : _) := fun (σ' : St) (H' : Hp) => (Ex1 fun (mn : Nat) => An3 (σ' = [some (.ref b),some (.bl gr),some (.ref jp),some (.ref lp),some (.int (wn : Int)),some (.str kept),some (.int (mn : Int)),none,none,none,none,none]) (JP K H b jp lp J ts tr H' (n + 4005)) (mn <= 20) : Prop)
def Qs (b : _) (gr : _) (jp : _) (lp : _) (wn : Nat) (kept : _) (mn : Nat) (H9 : _) := fun (i : Nat) (σ : St) (H' : Hp) => (Ex2 fun v7 v8 => An2 (σ = [some (.ref b),some (.bl gr),some (.ref jp),some (.ref lp),some (.int (wn : Int)),some (.str kept),some (.int (mn : Int)),v7,v8,none,none,none]) (Same H9 H') : Prop)
def Qr (b : _) (gr : _) (jp : _) (lp : _) (wn : Nat) (mn : Nat) (v7 : _) (v8 : _) (K : _) (H : _) (J : _) (ts : _) (tr : _) (N : _) := fun (i : Nat) (σ : St) (H' : Hp) => (Ex4 fun v5 v9 v10 v11 => An2 (σ = [some (.ref b),some (.bl gr),some (.ref jp),some (.ref lp),some (.int (wn : Int)),v5,some (.int (mn : Int)),v7,v8,v9,v10,v11]) (JP K H b jp lp J ts tr H' (N + 2000 * i)) : Prop)
def Qq (b : _) (gr : _) (jp : _) (lp : _) (wn : Nat) (v5 : _) (mn : Nat) (v7 : _) (v8 : _) (i : Nat) (K : _) (H : _) (J : _) (ts : _) (tr : _) (M : _) := fun (j : Nat) (σ : St) (H' : Hp) => (Ex2 fun v v11 => An3 (σ = [some (.ref b),some (.bl gr),some (.ref jp),some (.ref lp),some (.int (wn : Int)),v5,some (.int (mn : Int)),v7,v8,some (.int (0 + (i : Int))),some v,v11]) (JP K H b jp lp J ts tr H' (M + 80 * j)) (DS K (WX [b] H') j (zz j) (1 + 4 * j) v) : Prop)
theorem JX {f : Addr} {fd : FuncData} (F : Fun K "_law_right" "_law_right" (zj 39) f fd) (B : Blt mg) (D_take : Dfn P w K mg base "_law_take" 1 ["_law_box_here", "_law_size"] qM) (D_great : Dfn P w K mg base "_law_great" 2 ["_law_box_here"] (w6 K)) (D_job : Dfn P w K mg base "_law_job" 4 ["_law_box_here", "_law_few", "_law_most", "_law_plenty"] (Jq K)) (D_plan : Dfn P w K mg base "_law_plan" 4 ["_law_box_here", "_law_job_here", "_law_most"] (Zr K))
    (D_steps : Dfn P w K mg base "_law_steps" 2 ["_law_places_here", "_law_work"] (vA K)) (D_stops : Dfn P w K mg base "_law_stops" 1 ["_law_job_here", "_law_plan_here"] (vF K)) (D_same : Dfn P w K mg base "_law_same" 2 ["_law_found", "_law_due"] (spS K 2)) (Dtrack_of : Dfn P w K mg base "track_of" 4 ["job", "plan", "work"] (xU K)) (D_line : Dfn P w K mg base "_law_line" 2 ["_law_box_here", "_law_many", "_law_begin"] Zu)
    (D_spoilt : Dfn P w K mg base "_law_spoilt" 15 ["_law_box_here", "_law_thing"] (vo K 10)) (Dis_track : Dfn P w K mg base "is_track" 2 ["thing"] (ww K)) (D_is_line : Dfn P w K mg base "_law_is_line" 2 ["_law_thing"] (ww K)) : FnOk P w K mg base CX0 16 f fd ["_law_box_here"] wW := by
  have nd := ZW.nd
  refine F.ok ZW (fun vs H Q E h => ?_) (fun cdv A outer s H vs Q E hr h => ?_)
  · obtain ⟨b,n,rfl,_⟩ := h
    rfl
  · obtain ⟨b,n,rfl,B0,hn,k⟩ := h
    have hu64 := hr.units
    have hg := hr.gd
    have hbig : 1000000 < sizeLine := by rw [sizeLine_eq];decide
    refine ⟨_,(zf (zt (i := 1) nd rfl (Or.inl rfl) (qm qB (zg D_take (hr.mono (by first | decide | exact Nat.le_refl _ | omega)) rfl (za (pv 0) (za ze zc))) ze (zE _)))
      (zf (qU (zt (i := 2) nd rfl (Or.inl rfl) (qN (qD (pv 1)) (zg D_great (hr.mono (by first | decide | exact Nat.le_refl _ | omega)) rfl (za (pv 0) zc)) (zg D_job (hr.mono (by first | decide | exact Nat.le_refl _ | omega)) rfl (za (pv 0) (za ze (za ze (za x9 zc))))))))
      (zf (qU (xr (i := 3) (j := 4) rfl nd rfl rfl (by decide) rfl rfl (za (zg D_plan (hr.mono (by first | decide | exact Nat.le_refl _ | omega)) rfl (za (pv 0) (za (pv 2) (za (zr zJ (zA (za ze (za ze zc))) (zg D_take (hr.mono (by first | decide | exact Nat.le_refl _ | omega)) rfl (za (pv 0) (za ze zc))) (fun _ _ => rfl)) zc)))) (za (zr zJ (zA (za ze (za ze (za (zg D_take (hr.mono (by first | decide | exact Nat.le_refl _ | omega)) rfl (za (pv 0) (za ze zc))) zc)))) (zg D_take (hr.mono (by first | decide | exact Nat.le_refl _ | omega)) rfl (za (pv 0) (za ze zc))) (fun _ _ => rfl)) zc)) (by rfl)))
      (zf (qU (xr (i := 5) (j := 6) rfl nd rfl rfl (by decide) rfl rfl (za (zo (jM hg hu64) rfl B.repr xk (za (zA (za (pv 2) (za (pv 3) zc))) zc)) (za (zr zJ (zA (za ze (za (zo (wM rfl) rfl B.min Zb (za ze (za (zp zI (pv 4) ze) zc))) zc))) (zg D_take (hr.mono (by first | decide | exact Nat.le_refl _ | omega)) rfl (za (pv 0) (za ze zc))) (fun _ _ => rfl)) zc)) (by rfl)))
      (zf (qy PassesOwn.never rfl (jG (zQ (za (pv 4) (za (pv 6) (za (pv 4) zc))))) (zF (i := 7) nd rfl (Or.inl rfl))
      (zf (zt (i := 8) nd rfl (Or.inl rfl) (zg D_steps (hr.mono (by first | decide | exact Nat.le_refl _ | omega)) rfl (za (zg D_stops (hr.mono (by first | decide | exact Nat.le_refl _ | omega)) rfl (za (pv 2) (za (pv 3) zc))) (za (pv 7) zc))))
        (zk (qJ (PW.pt (jP (jF (qD (zg D_same (hr.mono (by first | decide | exact Nat.le_refl _ | omega)) rfl (za (zg Dtrack_of (hr.mono (by first | decide | exact Nat.le_refl _ | omega)) rfl (za (pv 2) (za (pv 3) (za (pv 7) zc)))) (za (pv 8) zc))))) (jE (zG JT (zo (jM hg hu64) rfl B.repr xk (za (zA (za (pv 2) (za (pv 3) zc))) zc)) (pv 5) (zE _)))))
        (zk (zx x9))
        qk))))
      (zf (qy PassesOwn.never rfl (zV rfl B.range (za ze zc)) (zF (i := 9) nd rfl (Or.inl rfl))
      (zf (zt (i := 10) nd rfl (Or.inl rfl) (zg D_line (hr.mono (by first | decide | exact Nat.le_refl _ | omega)) rfl (za (pv 0) (za (zp zI ze (zg D_take (hr.mono (by first | decide | exact Nat.le_refl _ | omega)) rfl (za (pv 0) (za ze zc)))) (za (zp qz (zg D_take (hr.mono (by first | decide | exact Nat.le_refl _ | omega)) rfl (za (pv 0) (za ze zc))) ze) zc)))))
        (zf (qy PassesOwn.never rfl (zV rfl B.range (za (zr zJ (zA (za ze (za ze (za ze (za ze zc))))) (zg D_take (hr.mono (by first | decide | exact Nat.le_refl _ | omega)) rfl (za (pv 0) (za ze zc))) (fun _ _ => rfl)) zc)) (zF (i := 11) nd rfl (Or.inl rfl))
        (zk (zt (i := 10) nd rfl (Or.inl rfl) (zg D_spoilt (hr.mono (by first | decide | exact Nat.le_refl _ | omega)) rfl (za (pv 0) (za (pv 10) zc))))))
        (zf (zt (i := 5) nd rfl (Or.inl rfl) (zo (jM hg hu64) rfl B.repr xk (za (pv 10) zc)))
        (zk (qJ (PW.pt (jP (jF (qD (zg D_same (hr.mono (by first | decide | exact Nat.le_refl _ | omega)) rfl (za (zg Dis_track (hr.mono (by first | decide | exact Nat.le_refl _ | omega)) rfl (za (pv 10) zc)) (za (zg D_is_line (hr.mono (by first | decide | exact Nat.le_refl _ | omega)) rfl (za (pv 10) zc)) zc))))) (jE (zG JT (zo (jM hg hu64) rfl B.repr xk (za (pv 10) zc)) (pv 5) (zE _)))))
        (zk (zx x9))
        qk))))))
      (zk (zx (zg D_same (hr.mono (by first | decide | exact Nat.le_refl _ | omega)) rfl (za (zg Dtrack_of (hr.mono (by first | decide | exact Nat.le_refl _ | omega)) rfl (za (pv 2) (za (zA zc) (za (pv 4) zc)))) (za (zp xV (zA (za (zr zL (zr zL (pv 2) ze (fun _ _ => rfl)) ze (fun _ _ => rfl)) zc)) (zp zI (pv 4) ze)) zc))))))))))),?_⟩
    refine ⟨_,rfl,b,16,n,rfl,B0,by omega,by decide,by decide,fun r H1 r0 r1 B1 S1 => ⟨rfl,?_⟩⟩
    refine ⟨Qv b H n K,?_,?_⟩
    · refine ⟨_,rfl,_,rfl,qw (fun c => ?_) (fun c => ?_)⟩
      · exact ⟨_,rfl,b,_,rfl,B1,by omega,fun p J ord H2 S2 B2 rj jo => ⟨_,p,J,ord,rfl,S1.trans S2,B2.mono (by omega),rj,jo⟩⟩
      · exact ⟨_,rfl,b,7,24,_,true,rfl,B1,by omega,by decide,by decide,by decide,by decide,fun p J ord H2 S2 B2 rj jo => ⟨_,p,J,ord,rfl,S1.trans S2,B2.mono (by omega),rj,jo⟩⟩
    rintro σ' H2 ⟨gr,jp,J,ord,rfl,S2,B2,rj,jo⟩
    clear S1 B1
    refine ⟨Qu b gr jp K H J n,?_,?_⟩
    · refine ⟨_,rfl,_,rfl,le2,fun l1 h1 => ⟨_,rfl,b,2,_,rfl,B2.new h1,by omega,by decide,by decide,fun r2 H3 r20 r21 B3 S3 => ?_⟩⟩
      have n1 := B2.nne h1
      have L3 := S3 l1 _ zd n1
      have S3' := (S2.new (o := .lst [.int 0,.int 4]) h1).trans S3
      have rj3 := (rj.same (zb (o := .lst [.int 0,.int 4]) h1)).keep (SameT.draw (B2.new h1) S3) (xH J)
      obtain ⟨mo,emo,mo0,mo1⟩ := Z7 (xs := [0,4]) (lo := 0) (hi := 100) r20 (by simpa using r21) (by decide)
      refine ⟨l1,_,_,_,rfl,rfl,SqL.of L3,emo,b,jp,J,ord,mo,_,rfl,B3,by omega,rj3,jo,mo0,mo1,fun lp os ts tr H4 S4 B4 nlp _ LP RT pm ob po => ?_⟩
      have S4' := S3'.trans S4
      have rj4 := rj3.keep (SameT.draw B3 S4) (xH J)
      have g4 : JP K H b jp lp J ts tr H4 _ := ⟨S4',B4,rj4,nlp,LP,RT⟩
      clear S2 S3 S3' L3 rj rj3 B2 h1 n1 S4 S4' B3 B4 rj4 LP RT
      refine ⟨_,rfl,b,21,_,rfl,g4.bx,by omega,by decide,by decide,fun r5 H5 r50 r51 B5 S5 => ⟨le3,fun l2 h2 => ⟨_,rfl,b,3,_,rfl,B5.new h2,by omega,by decide,by decide,fun r6 H6 r60 r61 B6 S6 => ?_⟩⟩⟩
      have L6 := S6 l2 _ zd (B5.nne h2)
      obtain ⟨wk,ewk,wk0,wk1⟩ := Z7 (xs := [0,1,r5]) (lo := 0) (hi := 20) r60 (by simpa using r61) (fun x hx => by simp only [List.mem_cons,List.not_mem_nil,or_false] at hx;omega)
      obtain ⟨wn,rfl⟩ := Int.eq_ofNat_of_zero_le wk0
      have g6 := ((g4.draw S5 B5).new (o := .lst [.int 0,.int 1,.int r5]) h2).draw S6 B6
      exact ⟨l2,_,_,_,rfl,rfl,SqL.of L6,ewk,_,_,rfl,lp,os,ts,tr,wn,rfl,g6.mono (by omega),po,by omega⟩
    rintro σ' H6 ⟨lp,os,ts,tr,wn,rfl,g6,po,wk1⟩
    clear S2 B2 rj
    have tb : ∀ t ∈ ts,vb J t := fun t ht => (po.tr t ht).bd jo.hd1
    have tl := po.len
    have shw := Xy jo po
    have blk := XA jo po
    have dep := Xz J ts
    have sp := vz (J := J) tb tl
    obtain ⟨kept,hkept⟩ : ∃ s,(vS J ts).py.shown = s := ⟨_,rfl⟩
    refine ⟨Qt b gr jp lp wn kept K H J ts tr n,?_,?_⟩
    · refine ⟨_,rfl,_,rfl,le2,fun q1 hq1 => ⟨.ref q1,vS J ts,rfl,g6.both hq1,shw,blk,dep,?_⟩⟩
      have g7 := g6.new (o := .lst [.ref jp,.ref lp]) hq1
      generalize upd H6 q1 (.lst [.ref jp,.ref lp]) = H7 at g7
      clear g6 hq1
      refine ⟨_,rfl,_,_,rfl,rfl,_,_,rfl,le2,fun l3 h3 => ⟨_,rfl,b,2,_,rfl,g7.bx.new h3,by omega,by decide,by decide,fun r8 H8 r80 r81 B8 S8 => ?_⟩⟩
      have L8 := S8 l3 _ zd (g7.bx.nne h3)
      obtain ⟨mr,emr,mr0,mr1⟩ := Z7 (xs := [0,if (wn : Int) + 1 < 20 then (wn : Int) + 1 else 20]) (lo := 0) (hi := 20) r80 (by simpa using r81) (fun x hx => by
        simp only [List.mem_cons,List.not_mem_nil,or_false] at hx
        rcases hx with rfl | rfl
        · omega
        · split <;> omega)
      obtain ⟨mn,rfl⟩ := Int.eq_ofNat_of_zero_le mr0
      have g8 := (g7.new h3).draw S8 B8
      exact ⟨l3,_,_,_,rfl,rfl,SqL.of L8,emr,_,_,rfl,mn,by rw [<- hkept];rfl,g8.mono (by omega),by omega⟩
    rintro σ' H8 ⟨mn,rfl,g8,mr1⟩
    clear g6
    refine ⟨_,rfl,_,rfl,_,rfl,le3,fun pt hpt => ?_⟩
    have g9 := g8.new (o := .tup [.int (wn : Int),.int (mn : Int),.int (wn : Int)]) hpt
    have P9 : upd H8 pt (.tup [.int (wn : Int),.int (mn : Int),.int (wn : Int)]) pt = some (.tup [.int (wn : Int),.int (mn : Int),.int (wn : Int)]) := zd
    generalize upd H8 pt (.tup [.int (wn : Int),.int (mn : Int),.int (wn : Int)]) = H9 at g9 P9
    clear g8 hpt
    refine ⟨pt,rfl,⟨_,SqT.of P9⟩,Ve (K := K) (a := pt) (xs := [.int (wn : Int),.int (mn : Int),.int (wn : Int)]) (Qs b gr jp lp wn kept mn H9) ⟨_,_,rfl,Same.refl _⟩ (fun i σ H' _ ⟨_,_,_,sm⟩ => SqT.of (sm _ _ P9)) ?_ ?_⟩
    · rintro i x σ H10 hx ⟨v7,v8,rfl,sm⟩
      have g10 := g9.same sm
      obtain ⟨tk,rfl,htk⟩ : ∃ tk : Nat,x = .int (tk : Int) /\ tk <= 20 := by
        have := List.mem_of_getElem? hx
        simp only [List.mem_cons,List.not_mem_nil,or_false] at this
        rcases this with rfl | rfl | rfl
        · exact ⟨wn,rfl,by omega⟩
        · exact ⟨mn,rfl,by omega⟩
        · exact ⟨wn,rfl,by omega⟩
      refine ⟨_,rfl,_,rfl,jp,lp,J,ord,ts,tr,rfl,g10.rj,jo,g10.lp,g10.rt,tb,tl,fun l us H11 s11 L11 r11 => ⟨_,rfl,l,tk,us,zZ J ts,rfl,htk,SqL.of L11,vL r11,xR jo ts,sp.2,sp.1,fun due H12 dN s12 L12 => ?_⟩⟩
      have g12 := (g10.same s11).same s12
      refine ⟨_,rfl,_,rfl,_,rfl,jp,lp,tk,J,ord,ts,tr,rfl,htk,g12.rj,jo,g12.lp,g12.rt,tb,tl,fun t H13 tN s13 L13 => ?_⟩
      have tkl := vn tk (xR jo ts) ((zZ J ts).length - 1) (Nat.le_refl _)
      have tkb : (qT tk (zZ J ts) ((zZ J ts).length - 1)).length <= 1000000 := by
        refine Nat.le_trans tkl ?_
        have : ((zZ J ts).length - 1) * (1000 + tk) <= 700 * 1020 := Nat.mul_le_mul (by omega) (by omega)
        omega
      refine ⟨_,rfl,JE (qT tk (zZ J ts) ((zZ J ts).length - 1)),_,_,rfl,jV L13,jV (s13 _ _ L12),Z2 tkb,fun H14 s14 => ⟨_,rfl,ifF rfl ?_⟩⟩
      have g14 := (g12.same s13).same s14
      refine ⟨_,rfl,_,rfl,le2,fun q2 hq2 => ⟨.ref q2,vS J ts,rfl,g14.both hq2,shw,blk,dep,_,rfl,rfl,_,rfl,ifF (by rw [hkept];simp) ?_⟩⟩
      exact ⟨_,_,rfl,(((sm.trans s11).trans s12).trans (s13.trans s14)).trans (zb hq2)⟩
    rintro σ H10 ⟨v7,v8,rfl,sm⟩
    have g10 := g9.same sm
    obtain ⟨N,hN,g10⟩ : ∃ N,N <= 10000 /\ JP K H b jp lp J ts tr H10 N := ⟨_,by omega,g10⟩
    clear g9 sm P9
    have e62 : (2 : Int) ^ 62 = 4611686018427387904 := by decide
    refine ⟨_,rfl,(by rw [e62];omega),(by rw [e62];omega),?_⟩
    refine qq (Qr b gr jp lp wn mn v7 v8 K H J ts tr N) ⟨_,_,_,_,rfl,g10.mono (by omega)⟩ ?_ ?_
    · rintro i σ H11 hi ⟨v5,v9,v10,v11,rfl,g11⟩
      have hi12 : i < 12 := hi
      refine ⟨_,rfl,_,rfl,b,12,_,rfl,g11.bx,by omega,by decide,by decide,fun r H12 r0 r1 B12 S12 => ⟨_,_,rfl,rfl,_,rfl,b,40,_,rfl,B12,by omega,by decide,by decide,fun r' H13 r0' r1' B13 S13 => ⟨_,_,rfl,rfl,b,1 + r,r' - 20,_,rfl,B13,by omega,by omega,by omega,by omega,by omega,fun l ns H14 S14 B14 nl _ L14 ln bd => ?_⟩⟩⟩
      have g14 := ((g11.draw S12 B12).draw S13 B13).draw S14 B14
      clear g11 S12 B12 S13 B13 S14 B14
      refine ⟨le4,fun l4 h4 => ⟨_,rfl,b,4,_,rfl,g14.bx.new h4,by omega,by decide,by decide,fun r4 H15 r40 r41 B15 S15 => ?_⟩⟩
      have L4 := S15 l4 _ zd (g14.bx.nne h4)
      have L15 := S15 l _ ((zb (o := .lst [.int 0,.int 1,.int 1,.int 2]) h4) _ _ L14) nl
      have g15 := (g14.new (o := .lst [.int 0,.int 1,.int 1,.int 2]) h4).draw S15 B15
      obtain ⟨z,ez,z0,z1⟩ := Z7 (xs := [0,1,1,2]) (lo := 0) (hi := 2) r40 (by simpa using r41) (by decide)
      refine ⟨l4,_,_,_,rfl,rfl,SqL.of L4,ez,_,rfl,(by rw [e62];omega),(by rw [e62];omega),?_⟩
      clear g14 S15 B15 L4 h4
      generalize hM : N + 2000 * (i : Int) + 1 + 1 + 1000 + 1 = M at g15
      refine qq (Qq b gr jp lp wn v5 mn v7 v8 i K H J ts tr M) ⟨_,_,rfl,g15.mono (by omega),?_⟩ ?_ ?_
      · have nb : l ∉ [b] := by simpa using nl
        obtain ⟨q1,q2,q3⟩ := Qg (k := 0) (z := 0) (ls := ns) fun y hy => by have := bd y hy;omega
        refine ⟨JE ns,jV (WX.at nb L15),q1,?_,?_⟩
        · show Dat.blks (ns.map Dat.int) <= 20
          rw [q2];omega
        · show PyData.depth (.list (Dat.pys (ns.map Dat.int))) <= 1
          simp only [PyData.depth]
          omega
      · rintro j σ H16 hj ⟨v,v11,rfl,g16,dv⟩
        have ex : Ex H16 b [b] := ⟨by simp,fun e he => by rw [List.mem_singleton.mp he];exact g16.bx.some⟩
        have hj2 : j = 0 \/ j = 1 := by omega
        rcases hj2 with rfl | rfl
        · exact ⟨_,rfl,_,rfl,b,v,_,0,20,1,[b],rfl,g16.bx,(by show M + 80 * ((0 : Nat) : Int) + 10 * ((9 : Int) + 1) < 1099510000000;omega),ex,dv,by decide,by decide,by decide,by decide,by decide,fun v' H17 S17 B17 dv' => ⟨_,_,rfl,(g16.draw S17 B17).mono (by show M + 80 * ((0 : Nat) : Int) + 8 * ((9 : Int) + 1) <= M + 80 * ((0 + 1 : Nat) : Int);omega),dv'.up (Same.refl _) (by decide) (by decide) (by decide)⟩⟩
        · exact ⟨_,rfl,_,rfl,b,v,_,1,661,5,[b],rfl,g16.bx,(by show M + 80 * ((1 : Nat) : Int) + 10 * ((9 : Int) + 1) < 1099510000000;omega),ex,dv,by decide,by decide,by decide,by decide,by decide,fun v' H17 S17 B17 dv' => ⟨_,_,rfl,(g16.draw S17 B17).mono (by show M + 80 * ((1 : Nat) : Int) + 8 * ((9 : Int) + 1) <= M + 80 * ((1 + 1 : Nat) : Int);omega),dv'.up (Same.refl _) (by decide) (by decide) (by decide)⟩⟩
      rintro σ H16 ⟨v,v11,rfl,g16,dv⟩
      obtain ⟨d,rd,gd⟩ := dv.up (Same.refl _) (by omega : z.toNat <= 2) (Wm z.toNat) (by omega : 1 + 4 * z.toNat <= 9)
      have rd' : Rep K H16 d v := rd.same WX.le
      have gb := gd.b
      have gp := gd.p
      refine ⟨_,rfl,v,d,rfl,rd',Dat.gd_shw (by decide) gd.g,by omega,by omega,?_⟩
      refine ⟨_,rfl,v,d,2,444874,9,rfl,rd',gd,by decide,fun H17 s17 => ⟨_,rfl,v,d,2,444874,9,rfl,rd'.same s17,gd,by decide,fun H18 s18 => ⟨.bl (wT d),_,_,rfl,rfl,rfl,trivial,fun H19 s19 => ⟨_,rfl,ifF rfl ?_⟩⟩⟩⟩
      refine ⟨_,rfl,v,d,rfl,((rd'.same s17).same s18).same s19,Dat.gd_shw (by decide) gd.g,by omega,by omega,_,rfl,rfl,_,rfl,ifF (by simp) ?_⟩
      exact ⟨_,_,_,_,rfl,(((g16.same s17).same s18).same s19).mono (by omega)⟩
    rintro σ H11 ⟨v5,v9,v10,v11,rfl,g11⟩
    obtain ⟨g,fs,ps,as,qj,rg,_⟩ := jA g11.rj
    obtain ⟨gv,qg,rgv⟩ := jb rg
    obtain ⟨_,_,rfl,rfl,_,_,rfl,rfl,rfl⟩ := rgv
    refine ⟨_,rfl,le0,fun q hq => ⟨_,rfl,jp,q,wn,J,ord,[],[],rfl,by omega,(g11.new hq).rj,jo,zd,rfl,(fun _ h => nomatch h),Nat.zero_le _,fun t H12 tN s12 L12 => ?_⟩⟩
    have s12' := (zb (o := .lst []) hq).trans s12
    rw [Zp,QW] at L12
    refine ⟨_,rfl,jp,_,_,_,rfl,rfl,s12'.sqT qj,rfl,g,_,_,_,rfl,rfl,s12'.sqT qg,rfl,le1,fun l hl => ⟨_,rfl,_,_,rfl,rfl,l,(wn : Int) + 1,_,rfl,rfl,zd,by omega,by omega,?_,fun u hu => ?_⟩⟩
    · show 1 * ((wn : Int) + 1).toNat <= sizeLine
      omega
    have eR : (List.replicate ((wn : Int) + 1).toNat [V.int J.gx]).flatten = (List.replicate (1 + wn) J.gx).map V.int := by
      rw [xC,List.map_replicate,show ((wn : Int) + 1).toNat = 1 + wn by omega]
    have s13 := (zb (o := .lst [.int J.gx]) hl).trans (zb (o := .lst ((List.replicate ((wn : Int) + 1).toNat [V.int J.gx]).flatten)) hu)
    refine ⟨JE (List.replicate (1 + wn) J.gx),_,_,rfl,jV (s13 _ _ L12),jV (by rw [zd];exact congrArg _ (congrArg _ eR)),Z2 (by rw [List.length_replicate];omega),fun H14 s14 => ?_⟩
    exact k H14 ((g11.s.trans (SameB.of s12')).trans (SameB.of (s13.trans s14)))
end
end L2
set_option Elab.async false
set_option linter.all false
set_option maxRecDepth 100000
set_option maxHeartbeats 4000000
namespace L2
open PySem PySem.Spec PyProof.Rows
inductive ZN (K : PySem.W.Frag) (vs : List V) (H : Hp) (Q : VK) : Prop
  | mk (a : Addr) (ns : List Int) (_ : vs = [.ref a]) (_ : SqL K H a (ns.map V.int)) (_ : ns.length <= 63) (_ : ∀ H',Q (.bl true) H') : ZN K vs H Q
def ZO (K : PySem.W.Frag) : Sp := fun vs H Q _ => ZN K vs H Q
section
variable {P : Program} {w : World} {K : PySem.W.Frag} {mg : Str -> Option Value} {base : Heap}
theorem Vq : zy ["_law_script", "_law_cells"] ["_law_script"] (zi (zj 40)) := ⟨rfl,rfl,rfl,by decide +kernel,rfl,by decide +kernel,by decide +kernel⟩
theorem V1 {f : Addr} {fd : FuncData} (F : Fun K "law" "law" (zj 40) f fd) (B : Blt mg) (D_folded : Dfn P w K mg base "_law_folded" 1 ["_law_script", "_law_size"] (Zv K)) (D_box : Dfn P w K mg base "_law_box" 1 ["_law_script", "_law_k"] (Jr K))
    (D_right : Dfn P w K mg base "_law_right" 16 ["_law_box_here"] wW) : FnOk P w K mg base CX0 17 f fd ["_law_script"] (ZO K) := by
  have nd := Vq.nd
  refine F.ok Vq (fun vs H Q E h => ?_) (fun cdv A outer s H vs Q E hr h => ?_)
  · obtain ⟨a,ns,rfl,_⟩ := h
    rfl
  · obtain ⟨a,ns,rfl,hS,hlen,k⟩ := h
    refine ⟨_,(zf (zt (i := 1) nd rfl (Or.inr rfl) (zg D_folded (hr.mono (by first | decide | exact Nat.le_refl _ | omega)) rfl (za (pv 0) (za ze zc))))
      (zk (zx (zo (jl rfl) rfl B.all boot_all (za (jH ["_law_cells"] [1] rfl rfl (by kernel_rfl) (zV rfl B.range (za (zo (xi rfl) rfl B.max xN (za ze (za (zo zC rfl B.len boot_len (za (pv 1) zc)) zc))) zc)) (fun C0 s0 H0 ex0 => qH) (fun C0 s0 H0 ex0 => (zg D_right (hr.mono (by first | decide | exact Nat.le_refl _ | omega)) rfl (za (zg D_box (hr.mono (by first | decide | exact Nat.le_refl _ | omega)) rfl (za (pv 1) (za (pv 0) zc))) zc)))) zc))))),?_⟩
    refine ⟨_,rfl,a,ns,3,rfl,hS,hlen,by decide,by decide,fun p ms H1 s1 hp hm => ?_⟩
    have e62 : (2 : Int) ^ 62 = 4611686018427387904 := by decide
    have hl : (ms.map V.int).length <= 3 := by rw [List.length_map];exact hm
    refine ⟨_,rfl,p,_,rfl,.inl hp,_,_,rfl,_,rfl,(by rw [e62];split <;> omega),(by rw [e62];split <;> omega),?_⟩
    have hN : (if ((ms.map V.int).length : Int) > 2 then ((ms.map V.int).length : Int) else 2).toNat <= 8 := by split <;> omega
    have hbig : 100 < sizeLine := by rw [sizeLine_eq];decide
    refine vQ (fun i zs H2 => zs = List.replicate i (V.bl true) /\ Same H1 H2) ⟨rfl,Same.refl _⟩ ?_ ?_
    · rintro i zs H2 hi ⟨rfl,sm⟩
      rw [Int.zero_add]
      refine ⟨rfl,?_⟩
      refine ⟨_,rfl,_,rfl,p,ms,i,rfl,sm.seq hp,by omega,fun q o hq Bq => ⟨q,0,rfl,Bq,by decide,fun H3 s3 => ⟨?_,?_,fun c u e => ?_⟩⟩⟩
      · rw [List.length_replicate];omega
      · rw [List.replicate_succ']
      · exact s3 c u ((zb hq) c u (sm c u e)) (zn (sm c u e) hq)
    · rintro zs H2 ⟨rfl,sm⟩
      refine ⟨by rw [List.length_replicate];omega,fun D hD => ⟨D,List.replicate (if ((ms.map V.int).length : Int) > 2 then ((ms.map V.int).length : Int) else 2).toNat true,rfl,?_,?_⟩⟩
      · refine SqL.of ?_
        rw [zd,List.map_replicate]
      · have := k (upd H2 D (.lst (List.replicate (if ((ms.map V.int).length : Int) > 2 then ((ms.map V.int).length : Int) else 2).toNat (V.bl true))))
        simpa using this
end
theorem all_mk {l : PySem.W.OpenLaw} {w : World} {K : PySem.W.Frag} {h : Heap} {mg : Str -> Option Value} {fa : Addr} (X : K.In h) (G : h.Ns mainGlobals mg) (hfa : mg "law" = some (.ref fa))
    {f0 : Addr} {od0 an0 : Option Addr} {sl0 : Array (Option Value)} {oc0 kV0 dc0 pm0 cd0 ct0 : Value}
    {f1 : Addr} {od1 an1 : Option Addr} {sl1 : Array (Option Value)} {oc1 kV1 dc1 pm1 cd1 ct1 : Value}
    {f2 : Addr} {od2 an2 : Option Addr} {sl2 : Array (Option Value)} {oc2 kV2 dc2 pm2 cd2 ct2 : Value}
    {f3 : Addr} {od3 an3 : Option Addr} {sl3 : Array (Option Value)} {oc3 kV3 dc3 pm3 cd3 ct3 : Value}
    {f4 : Addr} {od4 an4 : Option Addr} {sl4 : Array (Option Value)} {oc4 kV4 dc4 pm4 cd4 ct4 : Value}
    {f5 : Addr} {od5 an5 : Option Addr} {sl5 : Array (Option Value)} {oc5 kV5 dc5 pm5 cd5 ct5 : Value}
    {f6 : Addr} {od6 an6 : Option Addr} {sl6 : Array (Option Value)} {oc6 kV6 dc6 pm6 cd6 ct6 : Value}
    {f7 : Addr} {od7 an7 : Option Addr} {sl7 : Array (Option Value)} {oc7 kV7 dc7 pm7 cd7 ct7 : Value}
    {f8 : Addr} {od8 an8 : Option Addr} {sl8 : Array (Option Value)} {oc8 kV8 dc8 pm8 cd8 ct8 : Value}
    {f9 : Addr} {od9 an9 : Option Addr} {sl9 : Array (Option Value)} {oc9 kV9 dc9 pm9 cd9 ct9 : Value}
    {f10 : Addr} {od10 an10 : Option Addr} {sl10 : Array (Option Value)} {oc10 kV10 dc10 pm10 cd10 ct10 : Value}
    {f11 : Addr} {od11 an11 : Option Addr} {sl11 : Array (Option Value)} {oc11 kV11 dc11 pm11 cd11 ct11 : Value}
    {f12 : Addr} {od12 an12 : Option Addr} {sl12 : Array (Option Value)} {oc12 kV12 dc12 pm12 cd12 ct12 : Value}
    {f13 : Addr} {od13 an13 : Option Addr} {sl13 : Array (Option Value)} {oc13 kV13 dc13 pm13 cd13 ct13 : Value}
    {f14 : Addr} {od14 an14 : Option Addr} {sl14 : Array (Option Value)} {oc14 kV14 dc14 pm14 cd14 ct14 : Value}
    {f15 : Addr} {od15 an15 : Option Addr} {sl15 : Array (Option Value)} {oc15 kV15 dc15 pm15 cd15 ct15 : Value}
    {f16 : Addr} {od16 an16 : Option Addr} {sl16 : Array (Option Value)} {oc16 kV16 dc16 pm16 cd16 ct16 : Value}
    {f17 : Addr} {od17 an17 : Option Addr} {sl17 : Array (Option Value)} {oc17 kV17 dc17 pm17 cd17 ct17 : Value}
    {f18 : Addr} {od18 an18 : Option Addr} {sl18 : Array (Option Value)} {oc18 kV18 dc18 pm18 cd18 ct18 : Value}
    {f19 : Addr} {od19 an19 : Option Addr} {sl19 : Array (Option Value)} {oc19 kV19 dc19 pm19 cd19 ct19 : Value}
    {f20 : Addr} {od20 an20 : Option Addr} {sl20 : Array (Option Value)} {oc20 kV20 dc20 pm20 cd20 ct20 : Value}
    {f21 : Addr} {od21 an21 : Option Addr} {sl21 : Array (Option Value)} {oc21 kV21 dc21 pm21 cd21 ct21 : Value}
    {f22 : Addr} {od22 an22 : Option Addr} {sl22 : Array (Option Value)} {oc22 kV22 dc22 pm22 cd22 ct22 : Value}
    {f23 : Addr} {od23 an23 : Option Addr} {sl23 : Array (Option Value)} {oc23 kV23 dc23 pm23 cd23 ct23 : Value}
    {f24 : Addr} {od24 an24 : Option Addr} {sl24 : Array (Option Value)} {oc24 kV24 dc24 pm24 cd24 ct24 : Value}
    {f25 : Addr} {od25 an25 : Option Addr} {sl25 : Array (Option Value)} {oc25 kV25 dc25 pm25 cd25 ct25 : Value}
    {f26 : Addr} {od26 an26 : Option Addr} {sl26 : Array (Option Value)} {oc26 kV26 dc26 pm26 cd26 ct26 : Value}
    {f27 : Addr} {od27 an27 : Option Addr} {sl27 : Array (Option Value)} {oc27 kV27 dc27 pm27 cd27 ct27 : Value}
    {f28 : Addr} {od28 an28 : Option Addr} {sl28 : Array (Option Value)} {oc28 kV28 dc28 pm28 cd28 ct28 : Value}
    {f29 : Addr} {od29 an29 : Option Addr} {sl29 : Array (Option Value)} {oc29 kV29 dc29 pm29 cd29 ct29 : Value}
    {f30 : Addr} {od30 an30 : Option Addr} {sl30 : Array (Option Value)} {oc30 kV30 dc30 pm30 cd30 ct30 : Value}
    {f31 : Addr} {od31 an31 : Option Addr} {sl31 : Array (Option Value)} {oc31 kV31 dc31 pm31 cd31 ct31 : Value}
    {f32 : Addr} {od32 an32 : Option Addr} {sl32 : Array (Option Value)} {oc32 kV32 dc32 pm32 cd32 ct32 : Value}
    {f33 : Addr} {od33 an33 : Option Addr} {sl33 : Array (Option Value)} {oc33 kV33 dc33 pm33 cd33 ct33 : Value}
    {f34 : Addr} {od34 an34 : Option Addr} {sl34 : Array (Option Value)} {oc34 kV34 dc34 pm34 cd34 ct34 : Value}
    {f35 : Addr} {od35 an35 : Option Addr} {sl35 : Array (Option Value)} {oc35 kV35 dc35 pm35 cd35 ct35 : Value}
    {f36 : Addr} {od36 an36 : Option Addr} {sl36 : Array (Option Value)} {oc36 kV36 dc36 pm36 cd36 ct36 : Value}
    (a0 : PySem.W.nsIn K mainGlobals "is_number" = some (some (.ref f0))) (l0 : K.lookup f0 = some ⟨oc0,od0,.func (PySem.W.fnOf "is_number" "is_number" (zw (zj 1)) (zv (zj 1)) (zi (zj 1)) .none kV0 dc0 pm0 an0 cd0 ct0),sl0⟩) (c0 : PySem.W.codeIn K cd0 "is_number" = true) (k0 : PySem.W.keepIn K (.ref f0) = true)
    (a1 : PySem.W.nsIn K mainGlobals "way_between" = some (some (.ref f1))) (l1 : K.lookup f1 = some ⟨oc1,od1,.func (PySem.W.fnOf "way_between" "way_between" (zw (zj 2)) (zv (zj 2)) (zi (zj 2)) .none kV1 dc1 pm1 an1 cd1 ct1),sl1⟩) (c1 : PySem.W.codeIn K cd1 "way_between" = true) (k1 : PySem.W.keepIn K (.ref f1) = true)
    (a2 : PySem.W.nsIn K mainGlobals "nearer_by" = some (some (.ref f2))) (l2 : K.lookup f2 = some ⟨oc2,od2,.func (PySem.W.fnOf "nearer_by" "nearer_by" (zw (zj 3)) (zv (zj 3)) (zi (zj 3)) .none kV2 dc2 pm2 an2 cd2 ct2),sl2⟩) (c2 : PySem.W.codeIn K cd2 "nearer_by" = true) (k2 : PySem.W.keepIn K (.ref f2) = true)
    (a3 : PySem.W.nsIn K mainGlobals "going_to" = some (some (.ref f3))) (l3 : K.lookup f3 = some ⟨oc3,od3,.func (PySem.W.fnOf "going_to" "going_to" (zw (zj 4)) (zv (zj 4)) (zi (zj 4)) .none kV3 dc3 pm3 an3 cd3 ct3),sl3⟩) (c3 : PySem.W.codeIn K cd3 "going_to" = true) (k3 : PySem.W.keepIn K (.ref f3) = true)
    (a4 : PySem.W.nsIn K mainGlobals "stops_of" = some (some (.ref f4))) (l4 : K.lookup f4 = some ⟨oc4,od4,.func (PySem.W.fnOf "stops_of" "stops_of" (zw (zj 6)) (zv (zj 6)) (zi (zj 6)) .none kV4 dc4 pm4 an4 cd4 ct4),sl4⟩) (c4 : PySem.W.codeIn K cd4 "stops_of" = true) (k4 : PySem.W.keepIn K (.ref f4) = true)
    (a5 : PySem.W.nsIn K mainGlobals "is_track" = some (some (.ref f5))) (l5 : K.lookup f5 = some ⟨oc5,od5,.func (PySem.W.fnOf "is_track" "is_track" (zw (zj 8)) (zv (zj 8)) (zi (zj 8)) .none kV5 dc5 pm5 an5 cd5 ct5),sl5⟩) (c5 : PySem.W.codeIn K cd5 "is_track" = true) (k5 : PySem.W.keepIn K (.ref f5) = true)
    (a6 : PySem.W.nsIn K mainGlobals "track_by" = some (some (.ref f6))) (l6 : K.lookup f6 = some ⟨oc6,od6,.func (PySem.W.fnOf "track_by" "track_by" (zw (zj 9)) (zv (zj 9)) (zi (zj 9)) .none kV6 dc6 pm6 an6 cd6 ct6),sl6⟩) (c6 : PySem.W.codeIn K cd6 "track_by" = true) (k6 : PySem.W.keepIn K (.ref f6) = true)
    (a7 : PySem.W.nsIn K mainGlobals "track_of" = some (some (.ref f7))) (l7 : K.lookup f7 = some ⟨oc7,od7,.func (PySem.W.fnOf "track_of" "track_of" (zw (zj 10)) (zv (zj 10)) (zi (zj 10)) .none kV7 dc7 pm7 an7 cd7 ct7),sl7⟩) (c7 : PySem.W.codeIn K cd7 "track_of" = true) (k7 : PySem.W.keepIn K (.ref f7) = true)
    (a8 : PySem.W.nsIn K mainGlobals "_law_box" = some (some (.ref f8))) (l8 : K.lookup f8 = some ⟨oc8,od8,.func (PySem.W.fnOf "_law_box" "_law_box" (zw (zj 12)) (zv (zj 12)) (zi (zj 12)) .none kV8 dc8 pm8 an8 cd8 ct8),sl8⟩) (c8 : PySem.W.codeIn K cd8 "_law_box" = true) (k8 : PySem.W.keepIn K (.ref f8) = true)
    (a9 : PySem.W.nsIn K mainGlobals "_law_take" = some (some (.ref f9))) (l9 : K.lookup f9 = some ⟨oc9,od9,.func (PySem.W.fnOf "_law_take" "_law_take" (zw (zj 13)) (zv (zj 13)) (zi (zj 13)) .none kV9 dc9 pm9 an9 cd9 ct9),sl9⟩) (c9 : PySem.W.codeIn K cd9 "_law_take" = true) (k9 : PySem.W.keepIn K (.ref f9) = true)
    (a10 : PySem.W.nsIn K mainGlobals "_law_folded" = some (some (.ref f10))) (l10 : K.lookup f10 = some ⟨oc10,od10,.func (PySem.W.fnOf "_law_folded" "_law_folded" (zw (zj 14)) (zv (zj 14)) (zi (zj 14)) .none kV10 dc10 pm10 an10 cd10 ct10),sl10⟩) (c10 : PySem.W.codeIn K cd10 "_law_folded" = true) (k10 : PySem.W.keepIn K (.ref f10) = true)
    (a11 : PySem.W.nsIn K mainGlobals "_law_same" = some (some (.ref f11))) (l11 : K.lookup f11 = some ⟨oc11,od11,.func (PySem.W.fnOf "_law_same" "_law_same" (zw (zj 15)) (zv (zj 15)) (zi (zj 15)) .none kV11 dc11 pm11 an11 cd11 ct11),sl11⟩) (c11 : PySem.W.codeIn K cd11 "_law_same" = true) (k11 : PySem.W.keepIn K (.ref f11) = true)
    (a12 : PySem.W.nsIn K mainGlobals "_law_spelled" = some (some (.ref f12))) (l12 : K.lookup f12 = some ⟨oc12,od12,.func (PySem.W.fnOf "_law_spelled" "_law_spelled" (zw (zj 16)) (zv (zj 16)) (zi (zj 16)) .none kV12 dc12 pm12 an12 cd12 ct12),sl12⟩) (c12 : PySem.W.codeIn K cd12 "_law_spelled" = true) (k12 : PySem.W.keepIn K (.ref f12) = true)
    (a13 : PySem.W.nsIn K mainGlobals "_law_name" = some (some (.ref f13))) (l13 : K.lookup f13 = some ⟨oc13,od13,.func (PySem.W.fnOf "_law_name" "_law_name" (zw (zj 17)) (zv (zj 17)) (zi (zj 17)) .none kV13 dc13 pm13 an13 cd13 ct13),sl13⟩) (c13 : PySem.W.codeIn K cd13 "_law_name" = true) (k13 : PySem.W.keepIn K (.ref f13) = true)
    (a14 : PySem.W.nsIn K mainGlobals "_law_names" = some (some (.ref f14))) (l14 : K.lookup f14 = some ⟨oc14,od14,.func (PySem.W.fnOf "_law_names" "_law_names" (zw (zj 18)) (zv (zj 18)) (zi (zj 18)) .none kV14 dc14 pm14 an14 cd14 ct14),sl14⟩) (c14 : PySem.W.codeIn K cd14 "_law_names" = true) (k14 : PySem.W.keepIn K (.ref f14) = true)
    (a15 : PySem.W.nsIn K mainGlobals "_law_place" = some (some (.ref f15))) (l15 : K.lookup f15 = some ⟨oc15,od15,.func (PySem.W.fnOf "_law_place" "_law_place" (zw (zj 19)) (zv (zj 19)) (zi (zj 19)) .none kV15 dc15 pm15 an15 cd15 ct15),sl15⟩) (c15 : PySem.W.codeIn K cd15 "_law_place" = true) (k15 : PySem.W.keepIn K (.ref f15) = true)
    (a16 : PySem.W.nsIn K mainGlobals "_law_places" = some (some (.ref f16))) (l16 : K.lookup f16 = some ⟨oc16,od16,.func (PySem.W.fnOf "_law_places" "_law_places" (zw (zj 20)) (zv (zj 20)) (zi (zj 20)) .none kV16 dc16 pm16 an16 cd16 ct16),sl16⟩) (c16 : PySem.W.codeIn K cd16 "_law_places" = true) (k16 : PySem.W.keepIn K (.ref f16) = true)
    (a17 : PySem.W.nsIn K mainGlobals "_law_shuffled" = some (some (.ref f17))) (l17 : K.lookup f17 = some ⟨oc17,od17,.func (PySem.W.fnOf "_law_shuffled" "_law_shuffled" (zw (zj 21)) (zv (zj 21)) (zi (zj 21)) .none kV17 dc17 pm17 an17 cd17 ct17),sl17⟩) (c17 : PySem.W.codeIn K cd17 "_law_shuffled" = true) (k17 : PySem.W.keepIn K (.ref f17) = true)
    (a18 : PySem.W.nsIn K mainGlobals "_law_feeders" = some (some (.ref f18))) (l18 : K.lookup f18 = some ⟨oc18,od18,.func (PySem.W.fnOf "_law_feeders" "_law_feeders" (zw (zj 22)) (zv (zj 22)) (zi (zj 22)) .none kV18 dc18 pm18 an18 cd18 ct18),sl18⟩) (c18 : PySem.W.codeIn K cd18 "_law_feeders" = true) (k18 : PySem.W.keepIn K (.ref f18) = true)
    (a19 : PySem.W.nsIn K mainGlobals "_law_aheads" = some (some (.ref f19))) (l19 : K.lookup f19 = some ⟨oc19,od19,.func (PySem.W.fnOf "_law_aheads" "_law_aheads" (zw (zj 23)) (zv (zj 23)) (zi (zj 23)) .none kV19 dc19 pm19 an19 cd19 ct19),sl19⟩) (c19 : PySem.W.codeIn K cd19 "_law_aheads" = true) (k19 : PySem.W.keepIn K (.ref f19) = true)
    (a20 : PySem.W.nsIn K mainGlobals "_law_job" = some (some (.ref f20))) (l20 : K.lookup f20 = some ⟨oc20,od20,.func (PySem.W.fnOf "_law_job" "_law_job" (zw (zj 24)) (zv (zj 24)) (zi (zj 24)) .none kV20 dc20 pm20 an20 cd20 ct20),sl20⟩) (c20 : PySem.W.codeIn K cd20 "_law_job" = true) (k20 : PySem.W.keepIn K (.ref f20) = true)
    (a21 : PySem.W.nsIn K mainGlobals "_law_order" = some (some (.ref f21))) (l21 : K.lookup f21 = some ⟨oc21,od21,.func (PySem.W.fnOf "_law_order" "_law_order" (zw (zj 25)) (zv (zj 25)) (zi (zj 25)) .none kV21 dc21 pm21 an21 cd21 ct21),sl21⟩) (c21 : PySem.W.codeIn K cd21 "_law_order" = true) (k21 : PySem.W.keepIn K (.ref f21) = true)
    (a22 : PySem.W.nsIn K mainGlobals "_law_trip" = some (some (.ref f22))) (l22 : K.lookup f22 = some ⟨oc22,od22,.func (PySem.W.fnOf "_law_trip" "_law_trip" (zw (zj 26)) (zv (zj 26)) (zi (zj 26)) .none kV22 dc22 pm22 an22 cd22 ct22),sl22⟩) (c22 : PySem.W.codeIn K cd22 "_law_trip" = true) (k22 : PySem.W.keepIn K (.ref f22) = true)
    (a23 : PySem.W.nsIn K mainGlobals "_law_plan" = some (some (.ref f23))) (l23 : K.lookup f23 = some ⟨oc23,od23,.func (PySem.W.fnOf "_law_plan" "_law_plan" (zw (zj 27)) (zv (zj 27)) (zi (zj 27)) .none kV23 dc23 pm23 an23 cd23 ct23),sl23⟩) (c23 : PySem.W.codeIn K cd23 "_law_plan" = true) (k23 : PySem.W.keepIn K (.ref f23) = true)
    (a24 : PySem.W.nsIn K mainGlobals "_law_way" = some (some (.ref f24))) (l24 : K.lookup f24 = some ⟨oc24,od24,.func (PySem.W.fnOf "_law_way" "_law_way" (zw (zj 28)) (zv (zj 28)) (zi (zj 28)) .none kV24 dc24 pm24 an24 cd24 ct24),sl24⟩) (c24 : PySem.W.codeIn K cd24 "_law_way" = true) (k24 : PySem.W.keepIn K (.ref f24) = true)
    (a25 : PySem.W.nsIn K mainGlobals "_law_is_number" = some (some (.ref f25))) (l25 : K.lookup f25 = some ⟨oc25,od25,.func (PySem.W.fnOf "_law_is_number" "_law_is_number" (zw (zj 29)) (zv (zj 29)) (zi (zj 29)) .none kV25 dc25 pm25 an25 cd25 ct25),sl25⟩) (c25 : PySem.W.codeIn K cd25 "_law_is_number" = true) (k25 : PySem.W.keepIn K (.ref f25) = true)
    (a26 : PySem.W.nsIn K mainGlobals "_law_odd" = some (some (.ref f26))) (l26 : K.lookup f26 = some ⟨oc26,od26,.func (PySem.W.fnOf "_law_odd" "_law_odd" (zw (zj 30)) (zv (zj 30)) (zi (zj 30)) .none kV26 dc26 pm26 an26 cd26 ct26),sl26⟩) (c26 : PySem.W.codeIn K cd26 "_law_odd" = true) (k26 : PySem.W.keepIn K (.ref f26) = true)
    (a27 : PySem.W.nsIn K mainGlobals "_law_other_row" = some (some (.ref f27))) (l27 : K.lookup f27 = some ⟨oc27,od27,.func (PySem.W.fnOf "_law_other_row" "_law_other_row" (zw (zj 31)) (zv (zj 31)) (zi (zj 31)) .none kV27 dc27 pm27 an27 cd27 ct27),sl27⟩) (c27 : PySem.W.codeIn K cd27 "_law_other_row" = true) (k27 : PySem.W.keepIn K (.ref f27) = true)
    (a28 : PySem.W.nsIn K mainGlobals "_law_spoilt" = some (some (.ref f28))) (l28 : K.lookup f28 = some ⟨oc28,od28,.func (PySem.W.fnOf "_law_spoilt" "_law_spoilt" (zw (zj 32)) (zv (zj 32)) (zi (zj 32)) .none kV28 dc28 pm28 an28 cd28 ct28),sl28⟩) (c28 : PySem.W.codeIn K cd28 "_law_spoilt" = true) (k28 : PySem.W.keepIn K (.ref f28) = true)
    (a29 : PySem.W.nsIn K mainGlobals "_law_instead" = some (some (.ref f29))) (l29 : K.lookup f29 = some ⟨oc29,od29,.func (PySem.W.fnOf "_law_instead" "_law_instead" (zw (zj 33)) (zv (zj 33)) (zi (zj 33)) .none kV29 dc29 pm29 an29 cd29 ct29),sl29⟩) (c29 : PySem.W.codeIn K cd29 "_law_instead" = true) (k29 : PySem.W.keepIn K (.ref f29) = true)
    (a30 : PySem.W.nsIn K mainGlobals "_law_line" = some (some (.ref f30))) (l30 : K.lookup f30 = some ⟨oc30,od30,.func (PySem.W.fnOf "_law_line" "_law_line" (zw (zj 34)) (zv (zj 34)) (zi (zj 34)) .none kV30 dc30 pm30 an30 cd30 ct30),sl30⟩) (c30 : PySem.W.codeIn K cd30 "_law_line" = true) (k30 : PySem.W.keepIn K (.ref f30) = true)
    (a31 : PySem.W.nsIn K mainGlobals "_law_steps" = some (some (.ref f31))) (l31 : K.lookup f31 = some ⟨oc31,od31,.func (PySem.W.fnOf "_law_steps" "_law_steps" (zw (zj 35)) (zv (zj 35)) (zi (zj 35)) .none kV31 dc31 pm31 an31 cd31 ct31),sl31⟩) (c31 : PySem.W.codeIn K cd31 "_law_steps" = true) (k31 : PySem.W.keepIn K (.ref f31) = true)
    (a32 : PySem.W.nsIn K mainGlobals "_law_stops" = some (some (.ref f32))) (l32 : K.lookup f32 = some ⟨oc32,od32,.func (PySem.W.fnOf "_law_stops" "_law_stops" (zw (zj 36)) (zv (zj 36)) (zi (zj 36)) .none kV32 dc32 pm32 an32 cd32 ct32),sl32⟩) (c32 : PySem.W.codeIn K cd32 "_law_stops" = true) (k32 : PySem.W.keepIn K (.ref f32) = true)
    (a33 : PySem.W.nsIn K mainGlobals "_law_is_line" = some (some (.ref f33))) (l33 : K.lookup f33 = some ⟨oc33,od33,.func (PySem.W.fnOf "_law_is_line" "_law_is_line" (zw (zj 37)) (zv (zj 37)) (zi (zj 37)) .none kV33 dc33 pm33 an33 cd33 ct33),sl33⟩) (c33 : PySem.W.codeIn K cd33 "_law_is_line" = true) (k33 : PySem.W.keepIn K (.ref f33) = true)
    (a34 : PySem.W.nsIn K mainGlobals "_law_great" = some (some (.ref f34))) (l34 : K.lookup f34 = some ⟨oc34,od34,.func (PySem.W.fnOf "_law_great" "_law_great" (zw (zj 38)) (zv (zj 38)) (zi (zj 38)) .none kV34 dc34 pm34 an34 cd34 ct34),sl34⟩) (c34 : PySem.W.codeIn K cd34 "_law_great" = true) (k34 : PySem.W.keepIn K (.ref f34) = true)
    (a35 : PySem.W.nsIn K mainGlobals "_law_right" = some (some (.ref f35))) (l35 : K.lookup f35 = some ⟨oc35,od35,.func (PySem.W.fnOf "_law_right" "_law_right" (zw (zj 39)) (zv (zj 39)) (zi (zj 39)) .none kV35 dc35 pm35 an35 cd35 ct35),sl35⟩) (c35 : PySem.W.codeIn K cd35 "_law_right" = true) (k35 : PySem.W.keepIn K (.ref f35) = true)
    (a36 : PySem.W.nsIn K mainGlobals "law" = some (some (.ref f36))) (l36 : K.lookup f36 = some ⟨oc36,od36,.func (PySem.W.fnOf "law" "law" (zw (zj 40)) (zv (zj 40)) (zi (zj 40)) .none kV36 dc36 pm36 an36 cd36 ct36),sl36⟩) (c36 : PySem.W.codeIn K cd36 "law" = true) (k36 : PySem.W.keepIn K (.ref f36) = true)
    (z_abs : PySem.W.nsIn K mainGlobals "abs" = some none)
    (z_all : PySem.W.nsIn K mainGlobals "all" = some none)
    (z_divmod : PySem.W.nsIn K mainGlobals "divmod" = some none)
    (z_enumerate : PySem.W.nsIn K mainGlobals "enumerate" = some none)
    (z_int : PySem.W.nsIn K mainGlobals "int" = some none)
    (z_isinstance : PySem.W.nsIn K mainGlobals "isinstance" = some none)
    (z_len : PySem.W.nsIn K mainGlobals "len" = some none)
    (z_list : PySem.W.nsIn K mainGlobals "list" = some none)
    (z_max : PySem.W.nsIn K mainGlobals "max" = some none)
    (z_min : PySem.W.nsIn K mainGlobals "min" = some none)
    (z_range : PySem.W.nsIn K mainGlobals "range" = some none)
    (z_str : PySem.W.nsIn K mainGlobals "str" = some none)
    (z_tuple : PySem.W.nsIn K mainGlobals "tuple" = some none)
    (z_bool : PySem.W.nsIn K mainGlobals "bool" = some none)
    (z_zip : PySem.W.nsIn K mainGlobals "zip" = some none)
    (z_sum : PySem.W.nsIn K mainGlobals "sum" = some none)
    (z_any : PySem.W.nsIn K mainGlobals "any" = some none)
    (z_repr : PySem.W.nsIn K mainGlobals "repr" = some none)
    : ∃ fd : FuncData,(∀ (s : Shared) (v : Value),BindsTo s fd ⟨[v],[]⟩ [("_law_script",v)]) /\ ∀ base : Heap,K.In base -> base.Ns mainGlobals mg -> FnOk l.prog w K mg base CX0 17 fa fd ["_law_script"] (ZO K) := by
  have e := hfa.symm.trans (PySem.W.mg_of X G a36)
  cases e
  have B : Blt mg := ⟨PySem.W.mg_none_of X G z_abs,PySem.W.mg_none_of X G z_all,PySem.W.mg_none_of X G z_divmod,PySem.W.mg_none_of X G z_enumerate,PySem.W.mg_none_of X G z_int,PySem.W.mg_none_of X G z_isinstance,PySem.W.mg_none_of X G z_len,PySem.W.mg_none_of X G z_list,PySem.W.mg_none_of X G z_max,PySem.W.mg_none_of X G z_min,PySem.W.mg_none_of X G z_range,PySem.W.mg_none_of X G z_str,PySem.W.mg_none_of X G z_tuple,PySem.W.mg_none_of X G z_bool,PySem.W.mg_none_of X G z_zip,PySem.W.mg_none_of X G z_sum,PySem.W.mg_none_of X G z_any,PySem.W.mg_none_of X G z_repr⟩
  have F0 := zK (st := zj 1) l0 c0 k0
  have b0 := F0.binds (ps := ["thing"]) fun _ _ _ _ _ _ us hl => by obtain ⟨_,rfl⟩ := vP hl;rfl
  have F1 := zK (st := zj 2) l1 c1 k1
  have b1 := F1.binds (ps := ["one", "other"]) fun _ _ _ _ _ _ us hl => by obtain ⟨_,_,rfl⟩ := qO hl;rfl
  have F2 := zK (st := zj 3) l2 c2 k2
  have b2 := F2.binds (ps := ["start", "goal", "ticks"]) fun _ _ _ _ _ _ us hl => by obtain ⟨_,_,_,rfl⟩ := yX hl;rfl
  have F3 := zK (st := zj 4) l3 c3 k3
  have b3 := F3.binds (ps := ["one", "other", "ticks"]) fun _ _ _ _ _ _ us hl => by obtain ⟨_,_,_,rfl⟩ := yX hl;rfl
  have F4 := zK (st := zj 6) l4 c4 k4
  have b4 := F4.binds (ps := ["job", "trip"]) fun _ _ _ _ _ _ us hl => by obtain ⟨_,_,rfl⟩ := qO hl;rfl
  have F5 := zK (st := zj 8) l5 c5 k5
  have b5 := F5.binds (ps := ["thing"]) fun _ _ _ _ _ _ us hl => by obtain ⟨_,rfl⟩ := vP hl;rfl
  have F6 := zK (st := zj 9) l6 c6 k6
  have b6 := F6.binds (ps := ["places", "work"]) fun _ _ _ _ _ _ us hl => by obtain ⟨_,_,rfl⟩ := qO hl;rfl
  have F7 := zK (st := zj 10) l7 c7 k7
  have b7 := F7.binds (ps := ["job", "plan", "work"]) fun _ _ _ _ _ _ us hl => by obtain ⟨_,_,_,rfl⟩ := yX hl;rfl
  have F8 := zK (st := zj 12) l8 c8 k8
  have b8 := F8.binds (ps := ["_law_script", "_law_k"]) fun _ _ _ _ _ _ us hl => by obtain ⟨_,_,rfl⟩ := qO hl;rfl
  have F9 := zK (st := zj 13) l9 c9 k9
  have b9 := F9.binds (ps := ["_law_box_here", "_law_size"]) fun _ _ _ _ _ _ us hl => by obtain ⟨_,_,rfl⟩ := qO hl;rfl
  have F10 := zK (st := zj 14) l10 c10 k10
  have b10 := F10.binds (ps := ["_law_script", "_law_size"]) fun _ _ _ _ _ _ us hl => by obtain ⟨_,_,rfl⟩ := qO hl;rfl
  have F11 := zK (st := zj 15) l11 c11 k11
  have b11 := F11.binds (ps := ["_law_found", "_law_due"]) fun _ _ _ _ _ _ us hl => by obtain ⟨_,_,rfl⟩ := qO hl;rfl
  have F12 := zK (st := zj 16) l12 c12 k12
  have b12 := F12.binds (ps := ["_law_number", "_law_size"]) fun _ _ _ _ _ _ us hl => by obtain ⟨_,_,rfl⟩ := qO hl;rfl
  have F13 := zK (st := zj 17) l13 c13 k13
  have b13 := F13.binds (ps := ["_law_box_here", "_law_taken"]) fun _ _ _ _ _ _ us hl => by obtain ⟨_,_,rfl⟩ := qO hl;rfl
  have F14 := zK (st := zj 18) l14 c14 k14
  have b14 := F14.binds (ps := ["_law_box_here", "_law_many"]) fun _ _ _ _ _ _ us hl => by obtain ⟨_,_,rfl⟩ := qO hl;rfl
  have F15 := zK (st := zj 19) l15 c15 k15
  have b15 := F15.binds (ps := ["_law_box_here", "_law_taken"]) fun _ _ _ _ _ _ us hl => by obtain ⟨_,_,rfl⟩ := qO hl;rfl
  have F16 := zK (st := zj 20) l16 c16 k16
  have b16 := F16.binds (ps := ["_law_box_here", "_law_many"]) fun _ _ _ _ _ _ us hl => by obtain ⟨_,_,rfl⟩ := qO hl;rfl
  have F17 := zK (st := zj 21) l17 c17 k17
  have b17 := F17.binds (ps := ["_law_box_here", "_law_some"]) fun _ _ _ _ _ _ us hl => by obtain ⟨_,_,rfl⟩ := qO hl;rfl
  have F18 := zK (st := zj 22) l18 c18 k18
  have b18 := F18.binds (ps := ["_law_box_here", "_law_kinds", "_law_parts", "_law_plenty"]) fun _ _ _ _ _ _ us hl => by obtain ⟨_,_,_,_,rfl⟩ := Vz hl;rfl
  have F19 := zK (st := zj 23) l19 c19 k19
  have b19 := F19.binds (ps := ["_law_box_here", "_law_many"]) fun _ _ _ _ _ _ us hl => by obtain ⟨_,_,rfl⟩ := qO hl;rfl
  have F20 := zK (st := zj 24) l20 c20 k20
  have b20 := F20.binds (ps := ["_law_box_here", "_law_few", "_law_most", "_law_plenty"]) fun _ _ _ _ _ _ us hl => by obtain ⟨_,_,_,_,rfl⟩ := Vz hl;rfl
  have F21 := zK (st := zj 25) l21 c21 k21
  have b21 := F21.binds (ps := ["_law_box_here", "_law_job_here"]) fun _ _ _ _ _ _ us hl => by obtain ⟨_,_,rfl⟩ := qO hl;rfl
  have F22 := zK (st := zj 26) l22 c22 k22
  have b22 := F22.binds (ps := ["_law_box_here", "_law_picks"]) fun _ _ _ _ _ _ us hl => by obtain ⟨_,_,rfl⟩ := qO hl;rfl
  have F23 := zK (st := zj 27) l23 c23 k23
  have b23 := F23.binds (ps := ["_law_box_here", "_law_job_here", "_law_most"]) fun _ _ _ _ _ _ us hl => by obtain ⟨_,_,_,rfl⟩ := yX hl;rfl
  have F24 := zK (st := zj 28) l24 c24 k24
  have b24 := F24.binds (ps := ["_law_one", "_law_other"]) fun _ _ _ _ _ _ us hl => by obtain ⟨_,_,rfl⟩ := qO hl;rfl
  have F25 := zK (st := zj 29) l25 c25 k25
  have b25 := F25.binds (ps := ["_law_thing"]) fun _ _ _ _ _ _ us hl => by obtain ⟨_,rfl⟩ := vP hl;rfl
  have F26 := zK (st := zj 30) l26 c26 k26
  have b26 := F26.binds (ps := ["_law_box_here"]) fun _ _ _ _ _ _ us hl => by obtain ⟨_,rfl⟩ := vP hl;rfl
  have F27 := zK (st := zj 31) l27 c27 k27
  have b27 := F27.binds (ps := ["_law_box_here", "_law_thing"]) fun _ _ _ _ _ _ us hl => by obtain ⟨_,_,rfl⟩ := qO hl;rfl
  have F28 := zK (st := zj 32) l28 c28 k28
  have b28 := F28.binds (ps := ["_law_box_here", "_law_thing"]) fun _ _ _ _ _ _ us hl => by obtain ⟨_,_,rfl⟩ := qO hl;rfl
  have F29 := zK (st := zj 33) l29 c29 k29
  have b29 := F29.binds (ps := ["_law_box_here", "_law_thing"]) fun _ _ _ _ _ _ us hl => by obtain ⟨_,_,rfl⟩ := qO hl;rfl
  have F30 := zK (st := zj 34) l30 c30 k30
  have b30 := F30.binds (ps := ["_law_box_here", "_law_many", "_law_begin"]) fun _ _ _ _ _ _ us hl => by obtain ⟨_,_,_,rfl⟩ := yX hl;rfl
  have F31 := zK (st := zj 35) l31 c31 k31
  have b31 := F31.binds (ps := ["_law_places_here", "_law_work"]) fun _ _ _ _ _ _ us hl => by obtain ⟨_,_,rfl⟩ := qO hl;rfl
  have F32 := zK (st := zj 36) l32 c32 k32
  have b32 := F32.binds (ps := ["_law_job_here", "_law_plan_here"]) fun _ _ _ _ _ _ us hl => by obtain ⟨_,_,rfl⟩ := qO hl;rfl
  have F33 := zK (st := zj 37) l33 c33 k33
  have b33 := F33.binds (ps := ["_law_thing"]) fun _ _ _ _ _ _ us hl => by obtain ⟨_,rfl⟩ := vP hl;rfl
  have F34 := zK (st := zj 38) l34 c34 k34
  have b34 := F34.binds (ps := ["_law_box_here"]) fun _ _ _ _ _ _ us hl => by obtain ⟨_,rfl⟩ := vP hl;rfl
  have F35 := zK (st := zj 39) l35 c35 k35
  have b35 := F35.binds (ps := ["_law_box_here"]) fun _ _ _ _ _ _ us hl => by obtain ⟨_,rfl⟩ := vP hl;rfl
  have F36 := zK (st := zj 40) l36 c36 k36
  refine ⟨PySem.W.fnOf "law" "law" (zw (zj 40)) (zv (zj 40)) (zi (zj 40)) .none kV36 dc36 pm36 an36 cd36 ct36,fun s v => .of_eq rfl,fun base _ _ => ?_⟩
  have D_is_number : Dfn l.prog w K mg base "is_number" 1 ["thing"] (jD K) := ⟨_,_,J4 F0 B,PySem.W.mg_of X G a0,k0,b0⟩
  have D_way_between : Dfn l.prog w K mg base "way_between" 1 ["one", "other"] (wo K) := ⟨_,_,VV F1 B,PySem.W.mg_of X G a1,k1,b1⟩
  have D_nearer_by : Dfn l.prog w K mg base "nearer_by" 1 ["start", "goal", "ticks"] (Zt) := ⟨_,_,XZ F2 B,PySem.W.mg_of X G a2,k2,b2⟩
  have D_going_to : Dfn l.prog w K mg base "going_to" 2 ["one", "other", "ticks"] (w8 K) := ⟨_,_,J6 F3 B D_nearer_by,PySem.W.mg_of X G a3,k3,b3⟩
  have D_stops_of : Dfn l.prog w K mg base "stops_of" 1 ["job", "trip"] (wU K) := ⟨_,_,JU F4 B,PySem.W.mg_of X G a4,k4,b4⟩
  have D_is_track : Dfn l.prog w K mg base "is_track" 2 ["thing"] (ww K) := ⟨_,_,V3 F5 B D_is_number,PySem.W.mg_of X G a5,k5,b5⟩
  have D_track_by : Dfn l.prog w K mg base "track_by" 3 ["places", "work"] (vA K) := ⟨_,_,VW F6 B D_way_between D_going_to,PySem.W.mg_of X G a6,k6,b6⟩
  have D_track_of : Dfn l.prog w K mg base "track_of" 4 ["job", "plan", "work"] (xU K) := ⟨_,_,VX F7 B D_stops_of D_track_by,PySem.W.mg_of X G a7,k7,b7⟩
  have D_law_box : Dfn l.prog w K mg base "_law_box" 1 ["_law_script", "_law_k"] (Jr K) := ⟨_,_,V5 F8 B,PySem.W.mg_of X G a8,k8,b8⟩
  have D_law_take : Dfn l.prog w K mg base "_law_take" 1 ["_law_box_here", "_law_size"] (qM) := ⟨_,_,XV F9 B,PySem.W.mg_of X G a9,k9,b9⟩
  have D_law_folded : Dfn l.prog w K mg base "_law_folded" 1 ["_law_script", "_law_size"] (Zv K) := ⟨_,_,X3 F10 B,PySem.W.mg_of X G a10,k10,b10⟩
  have D_law_same : Dfn l.prog w K mg base "_law_same" 2 ["_law_found", "_law_due"] (spS K 2) := ⟨_,_,Z9 F11 B (PySem.W.mg_of X G a11) b11 2,PySem.W.mg_of X G a11,k11,b11⟩
  have D_law_spelled : Dfn l.prog w K mg base "_law_spelled" 1 ["_law_number", "_law_size"] (wV) := ⟨_,_,JW F12 B,PySem.W.mg_of X G a12,k12,b12⟩
  have D_law_name : Dfn l.prog w K mg base "_law_name" 2 ["_law_box_here", "_law_taken"] (Jp) := ⟨_,_,VZ F13 B D_law_take D_law_spelled,PySem.W.mg_of X G a13,k13,b13⟩
  have D_law_names : Dfn l.prog w K mg base "_law_names" 3 ["_law_box_here", "_law_many"] (wY) := ⟨_,_,J3 F14 B D_law_name,PySem.W.mg_of X G a14,k14,b14⟩
  have D_law_place : Dfn l.prog w K mg base "_law_place" 2 ["_law_box_here", "_law_taken"] (xB K) := ⟨_,_,JY F15 B D_law_take,PySem.W.mg_of X G a15,k15,b15⟩
  have D_law_places : Dfn l.prog w K mg base "_law_places" 3 ["_law_box_here", "_law_many"] (vD) := ⟨_,_,Q3 F16 B D_law_place,PySem.W.mg_of X G a16,k16,b16⟩
  have D_law_shuffled : Dfn l.prog w K mg base "_law_shuffled" 2 ["_law_box_here", "_law_some"] (vB K) := ⟨_,_,XW F17 B D_law_take,PySem.W.mg_of X G a17,k17,b17⟩
  have D_law_feeders : Dfn l.prog w K mg base "_law_feeders" 3 ["_law_box_here", "_law_kinds", "_law_parts", "_law_plenty"] (Zw K) := ⟨_,_,X4 F18 B D_law_take D_law_shuffled D_law_place,PySem.W.mg_of X G a18,k18,b18⟩
  have D_law_aheads : Dfn l.prog w K mg base "_law_aheads" 3 ["_law_box_here", "_law_many"] (vH K) := ⟨_,_,Q5 F19 B D_law_take D_law_shuffled,PySem.W.mg_of X G a19,k19,b19⟩
  have D_law_job : Dfn l.prog w K mg base "_law_job" 4 ["_law_box_here", "_law_few", "_law_most", "_law_plenty"] (Jq K) := ⟨_,_,V2 F20 B D_law_take D_law_names D_law_place D_law_places D_law_feeders D_law_aheads,PySem.W.mg_of X G a20,k20,b20⟩
  have D_law_order : Dfn l.prog w K mg base "_law_order" 2 ["_law_box_here", "_law_job_here"] (wX K) := ⟨_,_,JZ F21 B D_law_take,PySem.W.mg_of X G a21,k21,b21⟩
  have D_law_trip : Dfn l.prog w K mg base "_law_trip" 3 ["_law_box_here", "_law_picks"] (Zq K) := ⟨_,_,XU F22 B D_law_shuffled,PySem.W.mg_of X G a22,k22,b22⟩
  have D_law_plan : Dfn l.prog w K mg base "_law_plan" 4 ["_law_box_here", "_law_job_here", "_law_most"] (Zr K) := ⟨_,_,XX F23 B D_law_take D_law_order D_law_trip,PySem.W.mg_of X G a23,k23,b23⟩
  have D_law_way : Dfn l.prog w K mg base "_law_way" 1 ["_law_one", "_law_other"] (wo K) := ⟨_,_,X0 F24 B,PySem.W.mg_of X G a24,k24,b24⟩
  have D_law_is_number : Dfn l.prog w K mg base "_law_is_number" 1 ["_law_thing"] (jD K) := ⟨_,_,Q4 F25 B,PySem.W.mg_of X G a25,k25,b25⟩
  have D_law_odd : Dfn l.prog w K mg base "_law_odd" 2 ["_law_box_here"] (yA K) := ⟨_,_,VY F26 B D_law_take,PySem.W.mg_of X G a26,k26,b26⟩
  have D_law_other_row : Dfn l.prog w K mg base "_law_other_row" 3 ["_law_box_here", "_law_thing"] (Zs K) := ⟨_,_,XY F27 B D_law_take D_law_odd,PySem.W.mg_of X G a27,k27,b27⟩
  have D_law_instead : Dfn l.prog w K mg base "_law_instead" 4 ["_law_box_here", "_law_thing"] (wZ K) := ⟨_,_,X2 F29 B D_law_take D_law_odd D_law_other_row D_law_is_number,PySem.W.mg_of X G a29,k29,b29⟩
  have D_law_spoilt : Dfn l.prog w K mg base "_law_spoilt" 15 ["_law_box_here", "_law_thing"] (vo K 10) := ⟨_,_,yP F28 B (PySem.W.mg_of X G a28) b28 D_law_take D_law_instead (10),PySem.W.mg_of X G a28,k28,b28⟩
  have D_law_line : Dfn l.prog w K mg base "_law_line" 2 ["_law_box_here", "_law_many", "_law_begin"] (Zu) := ⟨_,_,X1 F30 B D_law_take,PySem.W.mg_of X G a30,k30,b30⟩
  have D_law_steps : Dfn l.prog w K mg base "_law_steps" 2 ["_law_places_here", "_law_work"] (vA K) := ⟨_,_,JV F31 B D_law_way,PySem.W.mg_of X G a31,k31,b31⟩
  have D_law_stops : Dfn l.prog w K mg base "_law_stops" 1 ["_law_job_here", "_law_plan_here"] (vF K) := ⟨_,_,V0 F32 B,PySem.W.mg_of X G a32,k32,b32⟩
  have D_law_is_line : Dfn l.prog w K mg base "_law_is_line" 2 ["_law_thing"] (ww K) := ⟨_,_,V4 F33 B D_law_is_number,PySem.W.mg_of X G a33,k33,b33⟩
  have D_law_great : Dfn l.prog w K mg base "_law_great" 2 ["_law_box_here"] (w6 K) := ⟨_,_,J5 F34 B D_law_take,PySem.W.mg_of X G a34,k34,b34⟩
  have D_law_right : Dfn l.prog w K mg base "_law_right" 16 ["_law_box_here"] (wW) := ⟨_,_,JX F35 B D_law_take D_law_great D_law_job D_law_plan D_law_steps D_law_stops D_law_same D_track_of D_law_line D_law_spoilt D_is_track D_law_is_line,PySem.W.mg_of X G a35,k35,b35⟩
  exact V1 F36 B D_law_folded D_law_box D_law_right
theorem walk {l : PySem.W.OpenLaw} {q : Program} {loose : List Str} {XP : (Str -> Option Value) -> Heap -> Prop} {YP : World -> Heap -> Prop} {d : DefRec} {K : Params -> PySem.W.Frag} (hn : l.most = some 63) (hdf : d.params.defaults = [])
    (hY : ∀ (w : World) (h : Heap),YP w h -> (K w.params).In h)
    (F : ∀ (w : World) (mg : Str -> Option Value) (fa : Addr) (h : Heap),(K w.params).In h -> h.Ns mainGlobals mg -> mg d.name = some (.ref fa) ->
      ∃ fd : FuncData,(∀ (s : Shared) (u : Value),BindsTo s fd ⟨[u],[]⟩ [("_law_script",u)]) /\ ∀ base : Heap,(K w.params).In base -> base.Ns mainGlobals mg -> FnOk l.prog w (K w.params) mg base CX0 17 fa fd ["_law_script"] (ZO (K w.params))) :
    PySem.W.WalkO q loose XP YP l.row.toRowW d [] (fun f vs => PySem.call f vs) :=
  L2.walk_of (n := 63) (k := 17) (x := "_law_script") (CX := fun _ => CX0) (sp := fun w => ZO (K w.params)) hn (by decide) hdf ⟨rfl,by decide,by decide,rfl⟩ hY F (fun _ _ a ns hl _ hS => ⟨a,ns,rfl,hS,hl,fun _ => rfl⟩) fun _ _ _ _ _ z => z
end L2
open PySem PySem.W PyProof.Rows
set_option maxRecDepth 100000 in
set_option maxHeartbeats 0 in
theorem PySem.Challenge.cw_pickboard_k47_tracks_of_plans_or_none_holds : PySem.Challenge.rw_pickboard_k47_tracks_of_plans_or_none.Holds := by
  w_on;o_law;k_head;(case hw => w_witness2)
  k_fill
  refine L2.walk (l := PySem.Challenge.rw_pickboard_k47_tracks_of_plans_or_none) rfl rfl (fun w h Y => PySem.W.kIn_of Y) ?F
  case F =>
    intro w mg fa h KX G hmg
    refine' L2.all_mk KX G hmg ?a0 ?l0 ?c0 ?k0 ?a1 ?l1 ?c1 ?k1 ?a2 ?l2 ?c2 ?k2 ?a3 ?l3 ?c3 ?k3 ?a4 ?l4 ?c4 ?k4 ?a5 ?l5 ?c5 ?k5 ?a6 ?l6 ?c6 ?k6 ?a7 ?l7 ?c7 ?k7 ?a8 ?l8 ?c8 ?k8 ?a9 ?l9 ?c9 ?k9 ?a10 ?l10 ?c10 ?k10 ?a11 ?l11 ?c11 ?k11 ?a12 ?l12 ?c12 ?k12 ?a13 ?l13 ?c13 ?k13 ?a14 ?l14 ?c14 ?k14 ?a15 ?l15 ?c15 ?k15 ?a16 ?l16 ?c16 ?k16 ?a17 ?l17 ?c17 ?k17 ?a18 ?l18 ?c18 ?k18 ?a19 ?l19 ?c19 ?k19 ?a20 ?l20 ?c20 ?k20 ?a21 ?l21 ?c21 ?k21 ?a22 ?l22 ?c22 ?k22 ?a23 ?l23 ?c23 ?k23 ?a24 ?l24 ?c24 ?k24 ?a25 ?l25 ?c25 ?k25 ?a26 ?l26 ?c26 ?k26 ?a27 ?l27 ?c27 ?k27 ?a28 ?l28 ?c28 ?k28 ?a29 ?l29 ?c29 ?k29 ?a30 ?l30 ?c30 ?k30 ?a31 ?l31 ?c31 ?k31 ?a32 ?l32 ?c32 ?k32 ?a33 ?l33 ?c33 ?k33 ?a34 ?l34 ?c34 ?k34 ?a35 ?l35 ?c35 ?k35 ?a36 ?l36 ?c36 ?k36 ?z_abs ?z_all ?z_divmod ?z_enumerate ?z_int ?z_isinstance ?z_len ?z_list ?z_max ?z_min ?z_range ?z_str ?z_tuple ?z_bool ?z_zip ?z_sum ?z_any ?z_repr
    (case a0 => k_is)
    (case l0 => k_is)
    (case c0 => k_is)
    (case k0 => k_is)
    (case a1 => k_is)
    (case l1 => k_is)
    (case c1 => k_is)
    (case k1 => k_is)
    (case a2 => k_is)
    (case l2 => k_is)
    (case c2 => k_is)
    (case k2 => k_is)
    (case a3 => k_is)
    (case l3 => k_is)
    (case c3 => k_is)
    (case k3 => k_is)
    (case a4 => k_is)
    (case l4 => k_is)
    (case c4 => k_is)
    (case k4 => k_is)
    (case a5 => k_is)
    (case l5 => k_is)
    (case c5 => k_is)
    (case k5 => k_is)
    (case a6 => k_is)
    (case l6 => k_is)
    (case c6 => k_is)
    (case k6 => k_is)
    (case a7 => k_is)
    (case l7 => k_is)
    (case c7 => k_is)
    (case k7 => k_is)
    (case a8 => k_is)
    (case l8 => k_is)
    (case c8 => k_is)
    (case k8 => k_is)
    (case a9 => k_is)
    (case l9 => k_is)
    (case c9 => k_is)
    (case k9 => k_is)
    (case a10 => k_is)
    (case l10 => k_is)
    (case c10 => k_is)
    (case k10 => k_is)
    (case a11 => k_is)
    (case l11 => k_is)
    (case c11 => k_is)
    (case k11 => k_is)
    (case a12 => k_is)
    (case l12 => k_is)
    (case c12 => k_is)
    (case k12 => k_is)
    (case a13 => k_is)
    (case l13 => k_is)
    (case c13 => k_is)
    (case k13 => k_is)
    (case a14 => k_is)
    (case l14 => k_is)
    (case c14 => k_is)
    (case k14 => k_is)
    (case a15 => k_is)
    (case l15 => k_is)
    (case c15 => k_is)
    (case k15 => k_is)
    (case a16 => k_is)
    (case l16 => k_is)
    (case c16 => k_is)
    (case k16 => k_is)
    (case a17 => k_is)
    (case l17 => k_is)
    (case c17 => k_is)
    (case k17 => k_is)
    (case a18 => k_is)
    (case l18 => k_is)
    (case c18 => k_is)
    (case k18 => k_is)
    (case a19 => k_is)
    (case l19 => k_is)
    (case c19 => k_is)
    (case k19 => k_is)
    (case a20 => k_is)
    (case l20 => k_is)
    (case c20 => k_is)
    (case k20 => k_is)
    (case a21 => k_is)
    (case l21 => k_is)
    (case c21 => k_is)
    (case k21 => k_is)
    (case a22 => k_is)
    (case l22 => k_is)
    (case c22 => k_is)
    (case k22 => k_is)
    (case a23 => k_is)
    (case l23 => k_is)
    (case c23 => k_is)
    (case k23 => k_is)
    (case a24 => k_is)
    (case l24 => k_is)
    (case c24 => k_is)
    (case k24 => k_is)
    (case a25 => k_is)
    (case l25 => k_is)
    (case c25 => k_is)
    (case k25 => k_is)
    (case a26 => k_is)
    (case l26 => k_is)
    (case c26 => k_is)
    (case k26 => k_is)
    (case a27 => k_is)
    (case l27 => k_is)
    (case c27 => k_is)
    (case k27 => k_is)
    (case a28 => k_is)
    (case l28 => k_is)
    (case c28 => k_is)
    (case k28 => k_is)
    (case a29 => k_is)
    (case l29 => k_is)
    (case c29 => k_is)
    (case k29 => k_is)
    (case a30 => k_is)
    (case l30 => k_is)
    (case c30 => k_is)
    (case k30 => k_is)
    (case a31 => k_is)
    (case l31 => k_is)
    (case c31 => k_is)
    (case k31 => k_is)
    (case a32 => k_is)
    (case l32 => k_is)
    (case c32 => k_is)
    (case k32 => k_is)
    (case a33 => k_is)
    (case l33 => k_is)
    (case c33 => k_is)
    (case k33 => k_is)
    (case a34 => k_is)
    (case l34 => k_is)
    (case c34 => k_is)
    (case k34 => k_is)
    (case a35 => k_is)
    (case l35 => k_is)
    (case c35 => k_is)
    (case k35 => k_is)
    (case a36 => k_is)
    (case l36 => k_is)
    (case c36 => k_is)
    (case k36 => k_is)
    (case z_abs => k_is)
    (case z_all => k_is)
    (case z_divmod => k_is)
    (case z_enumerate => k_is)
    (case z_int => k_is)
    (case z_isinstance => k_is)
    (case z_len => k_is)
    (case z_list => k_is)
    (case z_max => k_is)
    (case z_min => k_is)
    (case z_range => k_is)
    (case z_str => k_is)
    (case z_tuple => k_is)
    (case z_bool => k_is)
    (case z_zip => k_is)
    (case z_sum => k_is)
    (case z_any => k_is)
    (case z_repr => k_is)
