import PyProof.Rows.All
import Wide.All
import OpenK.AllK
import Wide.FinOn
import Lean
import PyProof.EqAt
import PyProof.EqKinds
import PyProof.TupleCall
import PyProof.NeKinds
import PyProof.ReprRoads
import PyProof.ReprBulk
import PyProof.SumWalk
import PyProof.FString5
import PyProof.StrBlock2
import PyProof.StrBlockI
import PyProof.StrBlockH
import PyProof.StrWalks
import PyProof.StrLawsIn
import PyProof.AutoListH
import PyProof.CompUse
import PyProof.ListRange
import PyProof.CallFns
import PyProof.ListTruth
import PyProof.Rows.Range3
import PyProof.SeqI3
import KE.KRevSl
import PyProof.DictIter
import PyProof.DictWalks
import PyProof.DictCompW
import PyProof.Cells
import OpenK.KOwn
import PyProof.ExcClass3
import PyProof.ExcInit
import PyProof.ExcBaseAll.ValueError
import PyProof.ExcArgsOwn
import PyProof.ExcAttrAll.ValueError
import PyProof.Rows.SortWalk
import PyProof.Rows.SortStr
import PyProof.MeetsDict
import PyProof.DictUpdate
import PyProof.FactsAll.dict_3
import KE.KDictList
import PyProof.FactsAll.dict_4
import KE.KDictSum
import PyProof.IsiH_list
import PyProof.Rows.Exc
import KE.KDictOf
import PyProof.SetKind
import PyProof.Rows.SetFrom
import PyProof.FactsAll.set_1
import PyProof.FactsAll.set_2
import KE.KSortTup
import KE.KItemsList
import PySem.Challenge.RW_pickboard_k35_costs_of_slots
set_option Elab.async false
set_option linter.all false
set_option maxRecDepth 100000
/-! THE HAND LAYER, for ints, bools, texts, own classes, LISTS and tuples (index, slices, in, append, pop ..), calls, loops. Paste it whole ahead of your own text; what your proof does not reach may be deleted. -/
namespace L2
open PySem PySem.Spec PyProof.Rows

abbrev Key := Sum Int Str
def keyIs : Key → Value → Bool
  | .inl k, v => Value.isInt k v
  | .inr x, v => Value.isStrOf x v
def keyH (w : World) : Key → Int
  | .inl k => hashInt k
  | .inr x => hashStr w x
theorem keyIs_shape : ∀ {k : Key} {v : Value}, keyIs k v = true → (∃ i t, k = Sum.inl i ∧ v = Value.int i t) ∨ (∃ x t, k = Sum.inr x ∧ v = Value.str x t)
  | .inl i, v, h => by
    obtain ⟨t, e⟩ := Value.isInt_shape (k := i) (v := v) h
    exact .inl ⟨i, t, rfl, e⟩
  | .inr x, v, h => by
    obtain ⟨t, e⟩ := Value.isStrOf_shape (x := x) (v := v) h
    exact .inr ⟨x, t, rfl, e⟩
theorem keyIs_int (i : Int) (t : Tok) : keyIs (.inl i) (.int i t) = true := by simp [keyIs, Value.isInt]
theorem keyIs_str (x : Str) (t : Tok) : keyIs (.inr x) (.str x t) = true := by simp [keyIs, Value.isStrOf]
theorem key_ll (a b : Int) : decide ((Sum.inl a : Key) = Sum.inl b) = (a == b) := by
  by_cases e : a = b
  · subst e; simp
  · have h : ¬ (Sum.inl a : Key) = Sum.inl b := fun q => e (Sum.inl.inj q)
    rw [decide_eq_false h]
    exact (beq_eq_false_iff_ne.mpr e).symm
theorem key_rr (a b : Str) : decide ((Sum.inr a : Key) = Sum.inr b) = decide (a = b) := by
  by_cases e : a = b
  · subst e; simp
  · have h : ¬ (Sum.inr a : Key) = Sum.inr b := fun q => e (Sum.inr.inj q)
    rw [decide_eq_false h, decide_eq_false e]
theorem key_lr (a : Int) (b : Str) : decide ((Sum.inl a : Key) = Sum.inr b) = false := decide_eq_false (fun q => nomatch q)
theorem key_rl (a : Str) (b : Int) : decide ((Sum.inr a : Key) = Sum.inl b) = false := decide_eq_false (fun q => nomatch q)

def mixKind (prog : Program) (w : World) : PySem.KeyKind prog w Key where
  is := keyIs
  hash := keyH w
  inj := fun v a b ha hb => by
    rcases keyIs_shape ha with ⟨i, t, rfl, rfl⟩ | ⟨x, t, rfl, rfl⟩
    · rcases keyIs_shape hb with ⟨j, u, rfl, e⟩ | ⟨y, u, rfl, e⟩
      · injection e with e1 _; rw [e1]
      · exact nomatch e
    · rcases keyIs_shape hb with ⟨j, u, rfl, e⟩ | ⟨y, u, rfl, e⟩
      · exact nomatch e
      · injection e with e1 _; rw [e1]
  byValue := fun k v h => by
    rcases keyIs_shape h with ⟨i, t, rfl, rfl⟩ | ⟨x, t, rfl, rfl⟩ <;> rfl
  pyHash := fun hv h => by
    rcases keyIs_shape hv with ⟨i, t, rfl, rfl⟩ | ⟨x, t, rfl, rfl⟩
    · exact wpAny_pyHash_int h
    · exact wpAny_pyHash_str h
  eqBool := fun hu hv h => by
    rcases keyIs_shape hu with ⟨i, t, rfl, rfl⟩ | ⟨x, t, rfl, rfl⟩
    · rcases keyIs_shape hv with ⟨j, u, rfl, rfl⟩ | ⟨y, u, rfl, rfl⟩
      · rw [key_ll] at h; exact wpAny_eqBool_int h
      · rw [key_lr] at h; exact SeqAt.EqAt.int_str i t y u _ _ _ _ h
    · rcases keyIs_shape hv with ⟨j, u, rfl, rfl⟩ | ⟨y, u, rfl, rfl⟩
      · rw [key_rl] at h; exact SeqAt.EqAt.str_int x t j u _ _ _ _ h
      · rw [key_rr] at h; exact wpAny_eqBool_str h
  «strs» := fun k x t v h => by
    rcases keyIs_shape h with ⟨i, u, rfl, e⟩ | ⟨y, u, rfl, e⟩
    · exact nomatch e
    · injection e with e1 _
      subst e1
      cases v <;> rfl

theorem mixKind_is (prog : Program) (w : World) (k : Key) (v : Value) : (mixKind prog w).is k v = keyIs k v := rfl
theorem mixKind_int (prog : Program) (w : World) (i : Int) (t : Tok) : (mixKind prog w).is (.inl i) (.int i t) = true := keyIs_int i t
theorem mixKind_str (prog : Program) (w : World) (x : Str) (t : Tok) : (mixKind prog w).is (.inr x) (.str x t) = true := keyIs_str x t
end L2

namespace L2
open PySem PySem.Spec PyProof.Rows

inductive V where
  | non | bl (b : Bool) | int (i : Int) | str (x : Str) | byt (b : Array UInt8) | flt (b : UInt64) | ref (a : Addr) | ty (n : String)
  deriving DecidableEq

def RelV : V → Value → Prop
  | .non, u => u = Value.none
  | .bl b, u => u = Value.bool b
  | .int i, u => ∃ t, u = Value.int i t
  | .str x, u => ∃ t, u = Value.str x t
  | .byt b, u => ∃ t, u = Value.bytes b t
  | .flt b, u => ∃ t, u = Value.float b t
  | .ref a, u => u = Value.ref a
  | .ty n, u => u = Value.type n

abbrev Vals : List V → List Value → Prop := Paired RelV
theorem Vals.length {xs : List V} {us : List Value} (r : Vals xs us) : xs.length = us.length := Paired.length r
theorem Vals.get : ∀ {xs : List V} {us : List Value} {i : Nat} {x : V}, Vals xs us → xs[i]? = some x → ∃ u, us[i]? = some u ∧ RelV x u
  | _, _, _, _, .nil, e => by simp at e
  | _, _, 0, _, .cons r _, e => by simp at e; subst e; exact ⟨_, rfl, r⟩
  | _, _, i + 1, x, .cons _ t, e => by
    obtain ⟨u, h1, h2⟩ := Vals.get (i := i) (x := x) t (by simpa using e)
    exact ⟨u, by simpa using h1, h2⟩
theorem Vals.set {x : V} {u : Value} (r : RelV x u) : ∀ {xs : List V} {us : List Value} (i : Nat), Vals xs us → Vals (xs.set i x) (us.set i u)
  | _, _, _, .nil => .nil
  | _, _, 0, .cons _ t => .cons r t
  | _, _, i + 1, .cons q t => .cons q (Vals.set r i t)
theorem Vals.append : ∀ {xs ys : List V} {us ws : List Value}, Vals xs us → Vals ys ws → Vals (xs ++ ys) (us ++ ws)
  | _, _, _, _, .nil, s => s
  | _, _, _, _, .cons r t, s => .cons r (Vals.append t s)
theorem Vals.take : ∀ {xs : List V} {us : List Value} (n : Nat), Vals xs us → Vals (xs.take n) (us.take n)
  | _, _, 0, _ => .nil
  | _, _, _ + 1, .nil => .nil
  | _, _, n + 1, .cons r t => .cons r (Vals.take n t)
theorem Vals.drop : ∀ {xs : List V} {us : List Value} (n : Nat), Vals xs us → Vals (xs.drop n) (us.drop n)
  | _, _, 0, r => r
  | _, _, _ + 1, .nil => .nil
  | _, _, n + 1, .cons _ t => Vals.drop n t
theorem Vals.none_of : ∀ {xs : List V} {us : List Value} {i : Nat}, Vals xs us → xs[i]? = none → us[i]? = none := fun {xs us i} r e => by
  have h1 := r.length
  have h2 : xs.length ≤ i := List.getElem?_eq_none_iff.mp e
  exact List.getElem?_eq_none_iff.mpr (by omega)

def RelO : Option V → Option Value → Prop
  | some v, some u => RelV v u
  | none, none => True
  | _, _ => False
def KV {κ : Type} : List (κ × V) → List (κ × Value) → Prop := Paired fun (p : κ × V) (q : κ × Value) => p.1 = q.1 ∧ RelV p.2 q.2

def kV : Key → V
  | .inl i => .int i
  | .inr x => .str x

inductive HO where
  /-- a list -/
  | lst (xs : List V)
  /-- a tuple (never changes) -/
  | tup (xs : List V)
  /-- a dict whose keys are ints and texts; one whose keys are tuples of ints and texts (the empty one is both) -/
  | dK (kvs : List (Key × V)) | dT (kvs : List (List Key × V))
  /-- a set of ints: its members, its size -/
  | set (S : Int → Bool) (n : Nat)
  /-- an instance of the class at C, its dict at dx, its attributes -/
  | ins (C dx : Addr) (fs : List (Str × V))
  /-- the dict of the instance at x -/
  | own (x : Addr)
  /-- the dict of an exception -/
  | xd (fs : List (Str × V))
  /-- a bound method, f of x -/
  | met (f x : Addr)
  /-- a range object lo, lo + 1, .. below hi -/
  | rng (lo hi : Int)
  /-- a thing that is known to the object (the script; a dict while a loop walks it): read, never written while it is so -/
  | frz (o : Obj) (u : HO)
  /-- a code object's table -/
  | tbl (ps : Array Value)
  /-- any other thing, by what is true of its one object (a def of one's own: SetO a S n := HO.ext fun h => ..) -/
  | ext (φ : Heap → Prop)

abbrev Hp := Addr → Option HO
def upd (H : Hp) (a : Addr) (o : HO) : Hp := fun b => if b = a then some o else H b
theorem upd_same {H : Hp} {a : Addr} {o : HO} : upd H a o a = some o := by unfold upd; rw [if_pos rfl]
theorem upd_ne {H : Hp} {a b : Addr} {o : HO} (h : b ≠ a) : upd H a o b = H b := by unfold upd; rw [if_neg h]
theorem ne_of {H : Hp} {a b : Addr} {o u : HO} (h : H a = some o) (h' : H b = some u) (d : o ≠ u) : a ≠ b := by
  intro e; subst e; rw [h] at h'; exact d (Option.some.inj h')
theorem ne_of_none {H : Hp} {a b : Addr} {o : HO} (h : H a = some o) (h' : H b = none) : a ≠ b := by
  intro e; subst e; rw [h] at h'; cases h'

section
variable (P : Program) (w : World)
def ObjOk (H : Hp) (h : Heap) (a : Addr) : HO → Prop
  | .lst xs => xs.length ≤ sizeLine ∧ ∃ (its : List Value) (n : Nat), Vals xs its ∧ h.get? a = some { cls := .type "list", data := .seq its.toArray n }
  | .tup xs => xs.length ≤ sizeLine ∧ ∃ its : List Value, Vals xs its ∧ IsTup h a its.toArray
  | .dK kvs => kvs.length ≤ sizeLine ∧ (a == sysModules) = false ∧ ∃ vs, KV kvs vs ∧ h.DictOf (mixKind P w) a vs
  | .dT kvs => kvs.length ≤ sizeLine ∧ (a == sysModules) = false ∧ ∃ xs : List (List Key × Addr × Value),
      Paired (fun (p : List Key × V) (q : List Key × Addr × Value) => p.1 = q.1 ∧ H q.2.1 = some (.tup (p.1.map kV)) ∧ RelV p.2 q.2.2) kvs xs ∧
      ∃ o es ep, h.get? a = some o ∧ o.ExactDict ∧ o.data = .dict es ep ∧ es.toList = xs.map (entryOfKey (tupleKind (mixKind P w))) ∧ (xs.map (·.1)).Nodup
  | .set S n => h.SetOf (intKind P w) a S n
  | .ins C dx fs => H dx = some (.own a) ∧ fs.length ≤ 1000 ∧ dx ≠ a ∧ h.get? a = some (PySem.W.instObj C dx) ∧
      ∃ mA, h.Ns1 dx mA ∧ (∀ f, RelO (fs.lookup f) (mA f)) ∧ PySem.Within mA (fs.map (·.1))
  | .own _ => ∃ o, h.get? a = some o
  | .xd fs => ∃ mA, h.Ns1 a mA ∧ ∀ f, RelO (fs.lookup f) (mA f)
  | .rng lo hi => ∃ t u v, h.get? a = some { cls := .type "range", data := .fields #[.int lo t, .int hi u, .int 1 v] }
  | .frz o u => h.get? a = some o ∧ ObjOk H h a u
  | .tbl ps => h.get? a = some { cls := .none, data := .fields ps }
  | .met f x => h.get? a = some (PySem.W.methodObj (.ref f) (.ref x))
  | .ext φ => φ h ∧ (∃ o, h.get? a = some o) ∧ ∀ h1 h2 : Heap, φ h1 → (∀ o, h1.get? a = some o → h2.get? a = some o) → φ h2
def HOk (H : Hp) (h : Heap) : Prop := ∀ a o, H a = some o → ObjOk P w H h a o
end

section
variable {P : Program} {w : World} {H H' : Hp} {h h' : Heap} {a : Addr} {o : HO}
theorem ObjOk.lt (x : ObjOk P w H h a o) : a < h.objs.size := by
  cases o with
  | lst xs => obtain ⟨_, _, _, _, e⟩ := x; exact Heap.lt_size e
  | tup xs => obtain ⟨_, _, _, p⟩ := x; exact p.lt
  | dK kvs => obtain ⟨_, _, _, _, o, _, _, e, _⟩ := x; exact Heap.lt_size e
  | dT kvs => obtain ⟨_, _, _, _, o, _, _, e, _⟩ := x; exact Heap.lt_size e
  | set S n => obtain ⟨o, _, _, _, e, _⟩ := x; exact Heap.lt_size e
  | ins C dx fs => obtain ⟨_, _, _, e, _⟩ := x; exact Heap.lt_size e
  | own y => obtain ⟨_, e⟩ := x; exact Heap.lt_size e
  | xd fs => obtain ⟨_, ⟨_, _, _, e, _⟩, _⟩ := x; exact Heap.lt_size e
  | rng lo hi => obtain ⟨_, _, _, e⟩ := x; exact Heap.lt_size e
  | frz ob u => obtain ⟨e, _⟩ := x; exact Heap.lt_size e
  | tbl ps => exact Heap.lt_size (show h.get? a = some _ from x)
  | met f y => exact Heap.lt_size (show h.get? a = some _ from x)
  | ext φ => obtain ⟨_, ⟨_, e⟩, _⟩ := x; exact Heap.lt_size e
theorem Paired.mapP {α β : Type} {F G : α → β → Prop} : ∀ {l₁ : List α} {l₂ : List β}, Paired F l₁ l₂ → (∀ a b, F a b → G a b) → Paired G l₁ l₂
  | _, _, .nil, _ => .nil
  | _, _, .cons r t, f => .cons (f _ _ r) (Paired.mapP t f)
theorem ObjOk.stay (x : ObjOk P w H h a o) (k : ∀ b u, (b = a ∨ H b = some (.own a)) → h.get? b = some u → h'.get? b = some u)
    (ho : ∀ b, H b = some (.own a) → H' b = some (.own a)) (ht : ∀ b xs, H b = some (.tup xs) → H' b = some (.tup xs)) : ObjOk P w H' h' a o := by
  induction o with
  | lst xs => obtain ⟨z, its, n, r, e⟩ := x; exact ⟨z, its, n, r, k _ _ (.inl rfl) e⟩
  | tup xs => obtain ⟨z, its, r, ob, e, c⟩ := x; exact ⟨z, its, r, ob, k _ _ (.inl rfl) e, c⟩
  | dK kvs => obtain ⟨z, y, vs, r, ob, es, ep, e, c⟩ := x; exact ⟨z, y, vs, r, ob, es, ep, k _ _ (.inl rfl) e, c⟩
  | dT kvs =>
    obtain ⟨z, y, xs, r, ob, es, ep, e, c⟩ := x
    exact ⟨z, y, xs, Paired.mapP r fun p q z => ⟨z.1, ht _ _ z.2.1, z.2.2⟩, ob, es, ep, k _ _ (.inl rfl) e, c⟩
  | set S n => obtain ⟨ob, es, ep, t, e, c⟩ := x; exact ⟨ob, es, ep, t, k _ _ (.inl rfl) e, c⟩
  | ins C dx fs =>
    obtain ⟨d, z, ne, e, mA, ⟨od, es, ep, e2, c⟩, r⟩ := x
    exact ⟨ho _ d, z, ne, k _ _ (.inl rfl) e, mA, ⟨od, es, ep, k _ _ (.inr d) e2, c⟩, r⟩
  | own y => obtain ⟨ob, e⟩ := x; exact ⟨ob, k _ _ (.inl rfl) e⟩
  | xd fs => obtain ⟨mA, ⟨od, es, ep, e, c⟩, r⟩ := x; exact ⟨mA, ⟨od, es, ep, k _ _ (.inl rfl) e, c⟩, r⟩
  | rng lo hi => obtain ⟨t, u, v, e⟩ := x; exact ⟨t, u, v, k _ _ (.inl rfl) e⟩
  | frz ob u ih => obtain ⟨e, q⟩ := x; exact ⟨k _ _ (.inl rfl) e, ih q⟩
  | tbl ps =>
    have e : h.get? a = some { cls := .none, data := .fields ps } := x
    show h'.get? a = some { cls := .none, data := .fields ps }
    exact k a _ (.inl rfl) e
  | met f y =>
    have e : h.get? a = some (PySem.W.methodObj (.ref f) (.ref y)) := x
    show h'.get? a = some (PySem.W.methodObj (.ref f) (.ref y))
    exact k a _ (.inl rfl) e
  | ext φ => obtain ⟨p, ⟨o, e⟩, st⟩ := x; exact ⟨st _ _ p fun o q => k _ _ (.inl rfl) q, ⟨o, k _ _ (.inl rfl) e⟩, st⟩
theorem HOk.lt (x : HOk P w H h) (e : H a = some o) : a < h.objs.size := (x a o e).lt
theorem HOk.fresh (x : HOk P w H h) (e : h.objs.size ≤ a) : H a = none := by
  cases q : H a with
  | none => rfl
  | some u => exact absurd (Nat.lt_of_lt_of_le (x.lt q) e) (Nat.lt_irrefl _)
theorem HOk.kept (x : HOk P w H h) (k : ∀ b u, h.get? b = some u → h'.get? b = some u) : HOk P w H h' := fun a o e =>
  (x a o e).stay (fun b u _ q => k b u q) (fun _ q => q) fun _ _ q => q
theorem HOk.laid (x : HOk P w H h) (k : ∀ b u, h.get? b = some u → h'.get? b = some u) (hp : h.objs.size ≤ a) (new : ObjOk P w (upd H a o) h' a o) : HOk P w (upd H a o) h' := fun b u e => by
  have hn := x.fresh hp
  by_cases hb : b = a
  · subst hb; rw [upd_same] at e; cases e; exact new
  · rw [upd_ne hb] at e
    exact (x b u e).stay (fun c v _ q => k c v q) (fun c q => by rw [upd_ne (ne_of_none q hn)]; exact q) fun c xs q => by rw [upd_ne (ne_of_none q hn)]; exact q
end

def Rd (H : Hp) (a : Addr) (u : HO) : Prop := H a = some u ∨ ∃ o, H a = some (.frz o u)
theorem Rd.of {H : Hp} {a : Addr} {u : HO} (h : H a = some u) : Rd H a u := .inl h
theorem Rd.ok {P : Program} {w : World} {H : Hp} {h : Heap} {a : Addr} {u : HO} (r : Rd H a u) (x : HOk P w H h) : ObjOk P w H h a u := by
  rcases r with r | ⟨o, r⟩
  · exact x a u r
  · obtain ⟨_, q⟩ := x a _ r
    exact q
def Mut : Option HO → Prop
  | some (.lst _) => True
  | some (.dK _) => True
  | some (.dT _) => True
  | some (.set _ _) => True
  | some (.ins _ _ _) => True
  | some (.ext _) => True
  | _ => False
section
variable {P : Program} {w : World} {H : Hp} {h h' : Heap} {x e : Addr} {o' : HO}
theorem HOk.write (ok : HOk P w H h) (mu : Mut (H x)) (he : e = x ∨ H e = some (.own x)) (k : ∀ b u, b ≠ e → h.get? b = some u → h'.get? b = some u) (heo : ∃ u, h'.get? e = some u)
    (new : ObjOk P w (upd H x o') h' x o') : HOk P w (upd H x o') h' := fun b u q => by
  have nown : ∀ c y, H c = some (.own y) → c ≠ x := fun c y r z => by subst z; rw [r] at mu; exact mu
  have ntup : ∀ c xs, H c = some (.tup xs) → c ≠ x := fun c xs r z => by subst z; rw [r] at mu; exact mu
  by_cases hb : b = x
  · subst hb; rw [upd_same] at q; cases q; exact new
  · rw [upd_ne hb] at q
    by_cases hbe : b = e
    · have q' : H b = some (.own x) := by
        rcases he with z | z
        · exact absurd (hbe.trans z) hb
        · rw [hbe]; exact z
      rw [q] at q'; cases q'
      obtain ⟨v, hv⟩ := heo
      exact ⟨v, by rw [hbe]; exact hv⟩
    · refine (ok b u q).stay (fun c v hc r => k c v ?_ r) (fun c r => by rw [upd_ne (nown c b r)]; exact r) fun c xs r => by rw [upd_ne (ntup c xs r)]; exact r
      rcases hc with rfl | hc
      · exact hbe
      · rintro rfl
        rcases he with z | z
        · exact nown c b hc z
        · rw [hc] at z; cases z; exact hb rfl
end

/-! ### kept unless tracked; of the frames at fs (the callers') the slots may change (an exception that passes writes there); of the records at ex (iterators) nothing is said -/
structure Un (fs ex : List Addr) (H H' : Hp) (h h' : Heap) : Prop where
  keep : ∀ b o, h.get? b = some o → H b = none → b ∉ fs → b ∉ ex → h'.get? b = some o
  slot : ∀ b o, h.get? b = some o → H b = none → b ∈ fs → b ∉ ex → ∃ sl, h'.get? b = some { o with slots := sl }
  free : ∀ b o, h.get? b = some o → H b = none → b ∉ ex → H' b = none
  there : ∀ b o, h.get? b = some o → b ∉ ex → ∃ o', h'.get? b = some o'
  tups : ∀ b xs, H b = some (.tup xs) → H' b = some (.tup xs)
  frzs : ∀ b o u, H b = some (.frz o u) → H' b = some (.frz o u)
  tbls : ∀ b ps, H b = some (.tbl ps) → ∃ more, H' b = some (.tbl (ps ++ more))
section
variable {fs fs' ex ex' : List Addr} {H H1 H2 : Hp} {h h1 h2 h' : Heap} {a x e : Addr} {o : HO}
theorem Un.any (u : Un fs ex H H1 h h1) {b : Addr} {ob : Obj} (q : h.get? b = some ob) (n : H b = none) (hx : b ∉ ex) : ∃ sl, h1.get? b = some { ob with slots := sl } := by
  by_cases hb : b ∈ fs
  · exact u.slot b ob q n hb hx
  · exact ⟨ob.slots, u.keep b ob q n hb hx⟩
theorem Un.trans (a : Un fs ex H H1 h h1) (b : Un fs ex H1 H2 h1 h2) : Un fs ex H H2 h h2 where
  keep := fun c ob q n hc hx => b.keep c ob (a.keep c ob q n hc hx) (a.free c ob q n hx) hc hx
  slot := fun c ob q n hc hx => by
    obtain ⟨sl, e1⟩ := a.slot c ob q n hc hx
    obtain ⟨sl', e2⟩ := b.slot c _ e1 (a.free c ob q n hx) hc hx
    exact ⟨sl', e2⟩
  free := fun c ob q n hx => by
    obtain ⟨o', e1⟩ := a.there c ob q hx
    exact b.free c o' e1 (a.free c ob q n hx) hx
  there := fun c ob q hx => by
    obtain ⟨o', e1⟩ := a.there c ob q hx
    exact b.there c o' e1 hx
  tups := fun c xs q => b.tups c xs (a.tups c xs q)
  frzs := fun c ob xs q => b.frzs c ob xs (a.frzs c ob xs q)
  tbls := fun c ps q => by
    obtain ⟨m1, e1⟩ := a.tbls c ps q
    obtain ⟨m2, e2⟩ := b.tbls c _ e1
    exact ⟨m1 ++ m2, by rw [e2, Array.append_assoc]⟩
theorem Un.kept (k : ∀ b u, h.get? b = some u → h'.get? b = some u) : Un fs ex H H h h' :=
  ⟨fun b ob q _ _ _ => k b ob q, fun b ob q _ _ _ => ⟨ob.slots, k b ob q⟩, fun _ _ _ n _ => n, fun b ob q _ => ⟨ob, k b ob q⟩, fun _ _ q => q, fun _ _ _ q => q, fun _ ps q => ⟨#[], by rw [q]; simp⟩⟩
theorem Un.refl : Un fs ex H H h h := Un.kept fun _ _ q => q
theorem Un.laid (k : ∀ b u, h.get? b = some u → h'.get? b = some u) (hp : h.objs.size ≤ a) (hn : H a = none) : Un fs ex H (upd H a o) h h' where
  keep := fun b u q _ _ _ => k b u q
  slot := fun b u q _ _ _ => ⟨u.slots, k b u q⟩
  free := fun b u q n _ => by rw [upd_ne (Nat.ne_of_lt (Nat.lt_of_lt_of_le (Heap.lt_size q) hp))]; exact n
  there := fun b u q _ => ⟨u, k b u q⟩
  tups := fun b xs q => by rw [upd_ne (ne_of_none q hn)]; exact q
  frzs := fun b u xs q => by rw [upd_ne (ne_of_none q hn)]; exact q
  tbls := fun b ps q => ⟨#[], by rw [upd_ne (ne_of_none q hn), q]; simp⟩
theorem Un.write (mu : Mut (H x)) (he : e = x ∨ H e = some (.own x)) (k : ∀ b u, b ≠ e → h.get? b = some u → h'.get? b = some u) (heo : ∃ u, h'.get? e = some u) : Un fs ex H (upd H x o) h h' := by
  have hx : ∀ b, H b = none → b ≠ x := fun b n z => by subst z; rw [n] at mu; exact mu
  have hb : ∀ b, H b = none → b ≠ e := fun b n z => by
    subst z
    rcases he with r | r
    · exact hx b n r
    · rw [n] at r; cases r
  have hm : ∀ b u, H b = some u → ¬ Mut (some u) → b ≠ x := fun b u q nm z => by subst z; rw [q] at mu; exact nm mu
  refine ⟨fun b u q n _ _ => k b u (hb b n) q, fun b u q n _ _ => ⟨u.slots, k b u (hb b n) q⟩, fun b u q n _ => by rw [upd_ne (hx b n)]; exact n, fun b u q _ => ?_,
    fun b xs q => by rw [upd_ne (hm b _ q fun z => z)]; exact q, fun b u xs q => by rw [upd_ne (hm b _ q fun z => z)]; exact q, fun b ps q => ⟨#[], by rw [upd_ne (hm b _ q fun z => z), q]; simp⟩⟩
  by_cases hbe : b = e
  · subst hbe; exact heo
  · exact ⟨u, k b u hbe q⟩
theorem Un.mono (u : Un fs ex H H1 h h1) (hs : ∀ b ∈ fs, b ∈ fs') (hx : ∀ b ∈ ex, b ∈ ex') : Un fs' ex' H H1 h h1 :=
  ⟨fun b ob q n hb he => u.keep b ob q n (fun z => hb (hs b z)) fun z => he (hx b z), fun _ _ q n _ he => u.any q n fun z => he (hx _ z), fun b ob q n he => u.free b ob q n fun z => he (hx b z), fun b ob q he => u.there b ob q fun z => he (hx b z), u.tups, u.frzs, u.tbls⟩
end

/-! ### the heap without what is tracked -/
def trk (h : Heap) (H : Hp) : List Addr := (List.range h.objs.size).filter fun a => (H a).isSome
def hidT (h : Heap) (H : Hp) : Heap := PySem.W.hideAll h (trk h H)
theorem hidT_size (h : Heap) (H : Hp) : (hidT h H).objs.size = h.objs.size := PySem.W.hideAll_size _ _
theorem hidT_get {h : Heap} {H : Hp} {b : Addr} {o : Obj} (e : h.get? b = some o) (n : H b = none) : (hidT h H).get? b = some o :=
  PySem.W.hideAll_get _ e fun hm => by
    have q : (H b).isSome = true := (List.mem_filter.mp hm).2
    rw [n] at q; simp at q
theorem of_hidT {h : Heap} {H : Hp} {b : Addr} {o : Obj} (e : (hidT h H).get? b = some o) : h.get? b = some o ∧ H b = none := by
  have e' : h.get? b = some o := PySem.W.of_hideAll (trk h H) e
  refine ⟨e', ?_⟩
  cases q : H b with
  | none => rfl
  | some x =>
    have hm : b ∈ trk h H := List.mem_filter.mpr ⟨List.mem_range.mpr (Heap.lt_size e'), by simp [q]⟩
    have z : (hidT h H).get? b = none := PySem.W.hideAll_none (trk h H) hm
    rw [z] at e; cases e

/-! ### OpenK's ledger, filled with every new object but one -/
def allNews (g h : Heap) (L : Addr) : List (Addr × Obj) := (List.range h.objs.size).filterMap fun a => if a = L ∨ (g.get? a).isSome = true then none else (h.get? a).map fun o => (a, o)
def rest (g h : Heap) (L d : Addr) : List (Addr × Obj) := (allNews g h L).filter fun p => decide (p.1 ≠ d)
end L2

namespace L2
open PySem PySem.Spec PyProof.Rows

structure Mod (K : PySem.W.Frag) (mg : Str → Option Value) (base : Heap) : Prop where
  kin : K.In base
  glob : base.Ns mainGlobals mg
  blt : ∃ mb, base.Ns builtinsNs mb ∧ ∀ x : Str, x ≠ "__name__" → mb x = bootBuiltins x
  nolimit : base.NoLimit

structure Cx where
  prog : Program
  w : World
  K : PySem.W.Frag
  mg : Str → Option Value
  base : Heap
  A : Around
  N : List Str
  s₀ : Shared
  H₀ : Hp
  env : Env
  outer : List Env
  stack : List Env
  ex : List Addr
  fn : Str → Bool
  calm : Bool
  pn : List (Addr × Obj)
  xe : Value → Shared → Prop
def frs (l : List Env) : List Addr := l.filterMap (·.frame)
abbrev Cx.fs (X : Cx) : List Addr := frs X.outer

def Vis (sc : Scope) (x : Str) : Prop := sc.names.lookup x = some .local ∨ sc.names.lookup x = some .cell ∨ sc.names.lookup x = some .free
def Loc (sc : Scope) (x : Str) : Prop := sc.names.lookup x = some .local ∨ sc.names.lookup x = some .cell
def Look (env : Env) (h : Heap) (m : Str → Option Value) (x : Str) (u : Value) : Prop :=
  (env.kindOf x = some .local ∧ m x = some u) ∨ ((env.kindOf x = some .cell ∨ env.kindOf x = some .free) ∧ ∃ c, env.cells.lookup x = some c ∧ h.IsCell c (some u))

structure Cx.Ok (X : Cx) : Prop where
  mod : Mod X.K X.mg X.base
  kind : X.env.scope.kind = .function
  glob : X.env.globals = mainGlobals
  blt : X.env.builtins = builtinsNs
  above : X.s₀.heap.objs.size ≤ X.env.locals
  inj : ∀ x y c, X.env.cells.lookup x = some c → X.env.cells.lookup y = some c → x = y
  has : ∀ x, (X.env.kindOf x = some .cell ∨ X.env.kindOf x = some .free) → ∃ c, X.env.cells.lookup x = some c
  cab : ∀ x c, X.fn x = true → X.env.cells.lookup x = some c → X.s₀.heap.objs.size ≤ c
  hd : X.calm = true → X.A.handled = none
  frames : X.A.frames = some X.stack
  stk : X.stack = X.outer ∨ (X.stack = X.env :: X.outer ∧ X.env.frame = some X.env.locals)
  exf : ∀ b ∈ X.ex, b ≠ X.env.locals ∧ ∀ x c, X.env.cells.lookup x = some c → c ≠ b
  bs : ∀ b o, X.base.get? b = some o → X.s₀.heap.get? b = some o ∧ X.H₀ b = none
  bsz : X.base.objs.size ≤ X.s₀.heap.objs.size
  noex : ∀ b o, X.base.get? b = some o → b ∉ X.ex
  exfs : ∀ b ∈ X.ex, b ∉ X.fs
  funs : X.s₀.heap.FunFrames X.base X.outer
  frf : ∀ b ∈ X.fs, X.H₀ b = none

structure Inv (X : Cx) (pins : List (Addr × Obj)) (σ : List (Option V)) (H : Hp) (s : Shared) : Prop where
  ok : X.Ok
  os : s.os = X.s₀.os
  bare : AllBare s.gens
  base : Un X.fs X.ex X.H₀ H X.s₀.heap s.heap
  loc : ∃ m, s.heap.Ns X.env.locals m ∧ ∀ (i : Nat) (x : Str) (v : V), X.N[i]? = some x → σ[i]? = some (some v) → Vis X.env.scope x → ∃ u, RelV v u ∧ Look X.env s.heap m x u
  cell : ∀ x c, X.env.cells.lookup x = some c → ∃ v, s.heap.IsCell c v
  free : H X.env.locals = none
  freeC : ∀ x c, X.env.cells.lookup x = some c → H c = none
  pin : ∀ p ∈ X.pn ++ pins, s.heap.get? p.1 = some p.2 ∧ H p.1 = none ∧ p.1 ≠ X.env.locals ∧ p.1 ∉ X.fs ∧ ∀ v, p.2.data ≠ .cell v
  hok : HOk X.prog X.w H s.heap
  len : σ.length = X.N.length

section
variable {X : Cx} {pins : List (Addr × Obj)} {σ : List (Option V)} {H H' : Hp} {s : Shared} {h' : Heap}

theorem Cx.Ok.nofr (ok : X.Ok) {b : Addr} {o : Obj} (e : X.base.get? b = some o) : b ∉ X.fs := fun hb => by
  have := (ok.funs.mem hb).1
  rw [e] at this; cases this
theorem Inv.bs (I : Inv X pins σ H s) : ∀ b o, X.base.get? b = some o → s.heap.get? b = some o ∧ H b = none := fun b o e =>
  ⟨I.base.keep b o (I.ok.bs b o e).1 (I.ok.bs b o e).2 (I.ok.nofr e) (I.ok.noex b o e), I.base.free b o (I.ok.bs b o e).1 (I.ok.bs b o e).2 (I.ok.noex b o e)⟩
theorem Inv.bk (I : Inv X pins σ H s) : ∀ b o, X.base.get? b = some o → s.heap.get? b = some o := fun b o e => (I.bs b o e).1
theorem Inv.mod (I : Inv X pins σ H s) : Mod X.K X.mg X.base := I.ok.mod
theorem Inv.kIn (I : Inv X pins σ H s) : X.K.In s.heap := I.ok.mod.kin.keeps I.bk
theorem Inv.nolimit (I : Inv X pins σ H s) : s.heap.NoLimit := I.ok.mod.nolimit.keeps I.bk
theorem Inv.fr (I : Inv X pins σ H s) : ∃ m, Fr X.base X.env.locals s.heap m :=
  let ⟨m, hn, _⟩ := I.loc
  ⟨m, hn, I.bk, Nat.le_trans I.ok.bsz I.ok.above⟩
theorem Inv.lt (I : Inv X pins σ H s) : X.env.locals < s.heap.objs.size := let ⟨_, hn, _⟩ := I.loc; hn.lt
theorem Inv.sz (I : Inv X pins σ H s) : X.s₀.heap.objs.size ≤ s.heap.objs.size := Nat.le_trans I.ok.above (Nat.le_of_lt I.lt)
theorem Inv.nofs (I : Inv X pins σ H s) {a : Addr} (h : s.heap.objs.size ≤ a) : a ∉ X.fs := fun hb => by
  obtain ⟨_, o, ho, _⟩ := I.ok.funs.mem hb
  exact absurd (Nat.lt_of_lt_of_le (Heap.lt_size ho) (Nat.le_trans I.sz h)) (Nat.lt_irrefl _)
theorem Inv.cne (I : Inv X pins σ H s) : ∀ x c, X.env.cells.lookup x = some c → c ≠ X.env.locals := fun x c e z => by
  obtain ⟨v, o, ho, hd⟩ := I.cell x c e
  obtain ⟨m, ⟨o', es, ep, ho', hd', _⟩, _⟩ := I.loc
  rw [z, ho'] at ho; cases ho; rw [hd'] at hd; cases hd
theorem Inv.funs (I : Inv X pins σ H s) : s.heap.FunFrames X.base X.outer := by
  have all : ∀ (l : List Env), (∀ b ∈ frs l, b ∈ X.fs) → X.s₀.heap.FunFrames X.base l → s.heap.FunFrames X.base l := by
    intro l
    induction l with
    | nil => intro _ _; trivial
    | cons env r ih =>
      intro hs hl
      obtain ⟨hk, ⟨L, o, hf, hn, ho, hd⟩, hr⟩ := hl
      have hL : L ∈ X.fs := hs L (by unfold frs; rw [List.filterMap_cons, hf]; exact List.mem_cons_self)
      obtain ⟨sl, e⟩ := I.base.slot L o ho (I.ok.frf L hL) hL fun z => I.ok.exfs L z hL
      exact ⟨hk, ⟨L, _, hf, hn, e, hd⟩, ih (fun b hb => hs b (by unfold frs; rw [List.filterMap_cons, hf]; exact List.mem_cons_of_mem _ hb)) hr⟩
  exact all X.outer (fun _ hb => hb) I.ok.funs

theorem Inv.stack (I : Inv X pins σ H s) : s.heap.FunFrames X.base X.stack := by
  rcases I.ok.stk with e | ⟨e, hf⟩
  · rw [e]; exact I.funs
  · rw [e]
    obtain ⟨m, hn, _⟩ := I.loc
    refine .cons (by rw [I.ok.kind]; decide) hf hn ?_ I.funs
    exact Heap.get?_none_of_le (Nat.le_trans I.ok.bsz I.ok.above)
theorem Inv.stkSub (I : Inv X pins σ H s) : ∀ b ∈ frs X.stack, b ∈ X.env.locals :: X.fs := fun b hb => by
  rcases I.ok.stk with e | ⟨e, hf⟩
  · rw [e] at hb; exact List.mem_cons_of_mem _ hb
  · rw [e] at hb
    unfold frs at hb
    rw [List.filterMap_cons, hf] at hb
    exact hb
theorem Inv.stkFree (I : Inv X pins σ H s) : ∀ b ∈ frs X.stack, H b = none := fun b hb => by
  rcases List.mem_cons.mp (I.stkSub b hb) with e | hb
  · rw [e]; exact I.free
  · obtain ⟨_, o, ho, _⟩ := I.ok.funs.mem hb
    exact I.base.free b o ho (I.ok.frf b hb) fun z => I.ok.exfs b z hb

theorem Inv.step {g' : Array GenState} {t' : Nat} {d' : Drawn} {ch : List Addr} (I : Inv X pins σ H s)
    (hch : ∀ b ∈ ch, (b ∈ X.ex ∨ X.s₀.heap.objs.size ≤ b) ∧ b ≠ X.env.locals ∧ (∀ x c, X.env.cells.lookup x = some c → c ≠ b) ∧ ∀ p ∈ X.pn ++ pins, p.1 ≠ b)
    (keep : ∀ b o, b ≠ X.env.locals → b ∉ X.fs → b ∉ ch → s.heap.get? b = some o → H b = none → h'.get? b = some o)
    (slot : ∀ b o, b ≠ X.env.locals → b ∈ X.fs → b ∉ ch → s.heap.get? b = some o → H b = none → ∃ sl, h'.get? b = some { o with slots := sl }) (free : ∀ b o, b ∉ ch → s.heap.get? b = some o → H b = none → H' b = none)
    (there : ∀ b o, b ∉ ch → s.heap.get? b = some o → ∃ o', h'.get? b = some o')
    (tups : ∀ b xs, H b = some (.tup xs) → H' b = some (.tup xs)) (frzs : ∀ b o u, H b = some (.frz o u) → H' b = some (.frz o u)) (tbls : ∀ b ps, H b = some (.tbl ps) → ∃ more, H' b = some (.tbl (ps ++ more)))
    (ns : ∀ m, s.heap.Ns X.env.locals m → h'.Ns X.env.locals m) (hok : HOk X.prog X.w H' h') (hg : AllBare g') :
    Inv X pins σ H' { s with heap := h', gens := g', drawn := d', toks := t' } := by
  have neL : ∀ b o, X.s₀.heap.get? b = some o → b ≠ X.env.locals := fun b o e => Nat.ne_of_lt (Nat.lt_of_lt_of_le (Heap.lt_size e) I.ok.above)
  have neC : ∀ b o, X.s₀.heap.get? b = some o → b ∉ X.ex → b ∉ ch := fun b o e hx hb => by
    rcases (hch b hb).1 with z | z
    · exact hx z
    · exact absurd (Nat.lt_of_lt_of_le (Heap.lt_size e) z) (Nat.lt_irrefl _)
  have cellK : ∀ x c, X.env.cells.lookup x = some c → ∀ v, s.heap.IsCell c v → h'.IsCell c v := fun x c e v ⟨o, ho, hd⟩ => by
    have nch : c ∉ ch := fun z => (hch c z).2.2.1 x c e rfl
    by_cases hc : c ∈ X.fs
    · obtain ⟨sl, q⟩ := slot c o (I.cne x c e) hc nch ho (I.freeC x c e)
      exact ⟨_, q, hd⟩
    · exact ⟨o, keep c o (I.cne x c e) hc nch ho (I.freeC x c e), hd⟩
  refine ⟨I.ok, I.os, hg, ⟨fun b o e n hb hx => ?_, fun b o e n hb hx => ?_, fun b o e n hx => ?_, fun b o e hx => ?_, fun b xs e => tups b xs (I.base.tups b xs e), fun b o xs e => frzs b o xs (I.base.frzs b o xs e), fun b ps e => ?_⟩, ?_, fun x c e => ?_, ?_, fun x c e => ?_, fun p hp => ?_, hok, I.len⟩
  · exact keep b o (neL b o e) hb (neC b o e hx) (I.base.keep b o e n hb hx) (I.base.free b o e n hx)
  · obtain ⟨sl, e1⟩ := I.base.slot b o e n hb hx
    obtain ⟨sl', e2⟩ := slot b _ (neL b o e) hb (neC b o e hx) e1 (I.base.free b o e n hx)
    exact ⟨sl', e2⟩
  · obtain ⟨o', e1⟩ := I.base.there b o e hx
    exact free b o' (neC b o e hx) e1 (I.base.free b o e n hx)
  · obtain ⟨o', e1⟩ := I.base.there b o e hx
    exact there b o' (neC b o e hx) e1
  · obtain ⟨m1, e1⟩ := I.base.tbls b ps e
    obtain ⟨m2, e2⟩ := tbls b _ e1
    exact ⟨m1 ++ m2, by rw [e2, Array.append_assoc]⟩
  · obtain ⟨m, hn, hl⟩ := I.loc
    refine ⟨m, ns m hn, fun i x v e1 e2 e3 => ?_⟩
    obtain ⟨u, r, l⟩ := hl i x v e1 e2 e3
    refine ⟨u, r, ?_⟩
    rcases l with l | ⟨k, c, e, z⟩
    · exact .inl l
    · exact .inr ⟨k, c, e, cellK x c e _ z⟩
  · obtain ⟨v, z⟩ := I.cell x c e
    exact ⟨v, cellK x c e v z⟩
  · obtain ⟨m, ⟨o, _, _, ho, _⟩, _⟩ := I.loc
    exact free _ o (fun z => (hch _ z).2.1 rfl) ho I.free
  · obtain ⟨v, o, ho, hd⟩ := I.cell x c e
    exact free c o (fun z => (hch c z).2.2.1 x c e rfl) ho (I.freeC x c e)
  · obtain ⟨e, n, ne, nf, d⟩ := I.pin p hp
    have nch : p.1 ∉ ch := fun z => (hch p.1 z).2.2.2 p hp rfl
    exact ⟨keep p.1 p.2 ne nf nch e n, free p.1 p.2 nch e n, ne, nf, d⟩
theorem Inv.un {t' : Nat} (I : Inv X pins σ H s) (u : Un X.fs [] H H' s.heap h') (hok : HOk X.prog X.w H' h') : Inv X pins σ H' { s with heap := h', toks := t' } := by
  obtain ⟨m, ⟨o, es, ep, ho, r⟩, _⟩ := id I.loc
  obtain ⟨sl, hL⟩ := u.any ho I.free (by simp)
  exact I.step (g' := s.gens) (d' := s.drawn) (ch := []) (fun _ z => nomatch z) (fun b o _ hb _ e n => u.keep b o e n hb (by simp)) (fun b o _ hb _ e n => u.slot b o e n hb (by simp)) (fun b o _ e n => u.free b o e n (by simp)) (fun b o _ e => u.there b o e (by simp)) u.tups u.frzs u.tbls (fun m' hm => by
    obtain ⟨o', es', ep', ho', r'⟩ := hm
    rw [ho] at ho'; cases ho'
    exact ⟨_, es', ep', hL, r'⟩) hok I.bare
theorem Inv.call {g' : Array GenState} {t' : Nat} {d' : Drawn} {ch : List Addr} (I : Inv X pins σ H s) (u : Un (frs X.stack) ch H H' s.heap h') (hok : HOk X.prog X.w H' h') (hg : AllBare g')
    (hch : ∀ b ∈ ch, (b ∈ X.ex ∨ X.s₀.heap.objs.size ≤ b) ∧ b ≠ X.env.locals ∧ (∀ x c, X.env.cells.lookup x = some c → c ≠ b) ∧ ∀ p ∈ X.pn ++ pins, p.1 ≠ b) :
    Inv X pins σ H' { s with heap := h', gens := g', drawn := d', toks := t' } := by
  obtain ⟨m, ⟨o, es, ep, ho, r⟩, _⟩ := id I.loc
  obtain ⟨sl, hL⟩ := u.any ho I.free fun z => (hch _ z).2.1 rfl
  exact I.step (ch := ch) hch (fun b o hL hb hc e n => u.keep b o e n (fun z => (List.mem_cons.mp (I.stkSub b z)).elim hL hb) hc) (fun b o _ _ hc e n => u.any e n hc) (fun b o hc e n => u.free b o e n hc) (fun b o hc e => u.there b o e hc) u.tups u.frzs u.tbls (fun m' hm => by
    obtain ⟨o', es', ep', ho', r'⟩ := hm
    rw [ho] at ho'; cases ho'
    exact ⟨_, es', ep', hL, r'⟩) hok hg
theorem Inv.turned {t' : Nat} {it : Addr} (I : Inv X pins σ H s) (k : ∀ b o, b ≠ it → s.heap.get? b = some o → h'.get? b = some o) (hn : H it = none) (hL : it ≠ X.env.locals)
    (h1 : it ∈ X.ex ∨ X.s₀.heap.objs.size ≤ it) (h2 : ∀ x c, X.env.cells.lookup x = some c → c ≠ it) (h3 : ∀ p ∈ X.pn ++ pins, p.1 ≠ it) : Inv X pins σ H { s with heap := h', toks := t' } := by
  have nit : ∀ b u, H b = some u → b ≠ it := fun b u e z => by rw [z, hn] at e; cases e
  refine I.step (g' := s.gens) (d' := s.drawn) (ch := [it]) (fun b hb => ?_) (fun b o _ _ hc e _ => k b o (fun z => hc (by simp [z])) e) (fun b o _ _ hc e _ => ⟨o.slots, k b o (fun z => hc (by simp [z])) e⟩) (fun _ _ _ _ n => n)
    (fun b o hc e => ⟨o, k b o (fun z => hc (by simp [z])) e⟩) (fun _ _ e => e) (fun _ _ _ e => e) (fun b ps e => ⟨#[], by rw [e]; simp⟩) (fun m hm => ?_) (fun b u e => ?_) I.bare
  · have e : b = it := by simpa using hb
    subst e
    exact ⟨h1, hL, h2, h3⟩
  · obtain ⟨o, es, ep, ho, r⟩ := hm
    exact ⟨o, es, ep, k _ o (Ne.symm hL) ho, r⟩
  · refine (I.hok b u e).stay (fun c v hc q => k c v ?_ q) (fun _ q => q) fun _ _ q => q
    rcases hc with z | z
    · rw [z]; exact nit b u e
    · exact nit c _ z
theorem Inv.tok (I : Inv X pins σ H s) (t : Nat) : Inv X pins σ H { s with toks := t } := I.un (h' := s.heap) (t' := t) Un.refl I.hok
theorem Inv.kept {t' : Nat} (I : Inv X pins σ H s) (k : ∀ b u, s.heap.get? b = some u → h'.get? b = some u) : Inv X pins σ H { s with heap := h', toks := t' } := I.un (Un.kept k) (I.hok.kept k)
theorem Inv.laid {a : Addr} {o : HO} {t' : Nat} (I : Inv X pins σ H s) (k : ∀ b u, s.heap.get? b = some u → h'.get? b = some u) (hp : s.heap.objs.size ≤ a) (new : ObjOk X.prog X.w (upd H a o) h' a o) :
    Inv X pins σ (upd H a o) { s with heap := h', toks := t' } := I.un (Un.laid k hp (I.hok.fresh hp)) (I.hok.laid k hp new)
theorem Inv.write {x e : Addr} {o : HO} {t' : Nat} (I : Inv X pins σ H s) (mu : Mut (H x)) (he : e = x ∨ H e = some (.own x)) (k : ∀ b u, b ≠ e → s.heap.get? b = some u → h'.get? b = some u) (heo : ∃ u, h'.get? e = some u)
    (new : ObjOk X.prog X.w (upd H x o) h' x o) : Inv X pins σ (upd H x o) { s with heap := h', toks := t' } := I.un (Un.write mu he k heo) (I.hok.write mu he k heo new)
theorem Inv.weak {σ' : List (Option V)} (I : Inv X pins σ H s) (hl : σ'.length = σ.length) (w : ∀ (i : Nat) v, σ'[i]? = some (some v) → σ[i]? = some (some v)) : Inv X pins σ' H s :=
  ⟨I.ok, I.os, I.bare, I.base, let ⟨m, hn, hl'⟩ := I.loc; ⟨m, hn, fun i x v e1 e2 e3 => hl' i x v e1 (w i v e2) e3⟩, I.cell, I.free, I.freeC, I.pin, I.hok, hl.trans I.len⟩
theorem Inv.pins_of {pins' : List (Addr × Obj)} (I : Inv X pins σ H s) (h : ∀ p ∈ pins', s.heap.get? p.1 = some p.2 ∧ H p.1 = none ∧ p.1 ≠ X.env.locals ∧ p.1 ∉ X.fs ∧ ∀ v, p.2.data ≠ .cell v) : Inv X pins' σ H s :=
  ⟨I.ok, I.os, I.bare, I.base, I.loc, I.cell, I.free, I.freeC, fun p hp => (List.mem_append.mp hp).elim (fun z => I.pin p (List.mem_append_left _ z)) (h p), I.hok, I.len⟩

theorem nodup_ix {N : List Str} (hN : N.Nodup) {i j : Nat} {x : Str} (a : N[i]? = some x) (b : N[j]? = some x) : i = j := by
  obtain ⟨h1, e1⟩ := List.getElem?_eq_some_iff.mp a
  obtain ⟨h2, e2⟩ := List.getElem?_eq_some_iff.mp b
  exact (List.getElem_inj hN).mp (e1.trans e2.symm)

theorem store_ok2 {M : Model} {A : Around} {E : Value → Shared → Prop} {i : Nat} {x : Str} {v : V} {u : Value} {Q : Unit → Shared → Prop} (I : Inv X pins σ H s) (hN : X.N.Nodup) (hi : X.N[i]? = some x) (hx : Loc X.env.scope x) (r : RelV v u)
    (h : ∀ s', Inv X pins (σ.set i (some v)) H s' → (∃ a, Heap.SameBut a s.heap s'.heap ∧ (a = X.env.locals ∨ X.env.cells.lookup x = some a)) → Q () s') (hf : X.fn x = true ∨ X.env.scope.names.lookup x = some .local := by first | exact .inl rfl | exact .inr rfl | assumption) : wpAny M A (storeName X.env x u) Q E s := by
  obtain ⟨m, hn, hl⟩ := id I.loc
  have hcls : (X.env.scope.kind == .class || (X.env.scope.kind == .module && X.env.locals != X.env.globals)) = false := by rw [I.ok.kind]; rfl
  have hiσ : i < σ.length := by rw [I.len]; exact (List.getElem?_eq_some_iff.mp hi).1
  have cne := I.cne
  have tracked : ∀ {a : Addr} {h' : Heap}, (∃ o, s.heap.get? a = some o ∧ H a = none) → Heap.SameBut a s.heap h' → HOk X.prog X.w H h' := fun {a h'} ha hs b ob e => by
    obtain ⟨_, _, hfree⟩ := ha
    refine (I.hok b ob e).stay (fun c w' hc q => (hs.2 c ?_).trans q) (fun _ q => q) fun _ _ q => q
    rintro rfl
    rcases hc with rfl | hc
    · rw [hfree] at e; cases e
    · rw [hfree] at hc; cases hc
  rcases hx with hk | hk
  · refine wpAny_storeName_local hk hn (fun h' hn' hs => ?_) hcls
    obtain ⟨oL, _, _, hoL, _⟩ := id hn
    refine h _ ⟨I.ok, I.os, I.bare, ⟨fun b o e n hb hx => ?_, fun b o e n hb hx => ?_, I.base.free, fun b o e hx => ?_, I.base.tups, I.base.frzs, I.base.tbls⟩, ⟨_, hn', fun j y v' e1 e2 e3 => ?_⟩, fun y c e => ?_, I.free, I.freeC, fun p hp => ?_, tracked ⟨oL, hoL, I.free⟩ hs, by simpa using I.len⟩ ⟨_, hs, .inl rfl⟩
    · exact (hs.2 b (Nat.ne_of_lt (Nat.lt_of_lt_of_le (Heap.lt_size e) I.ok.above))).trans (I.base.keep b o e n hb hx)
    · obtain ⟨sl, e1⟩ := I.base.slot b o e n hb hx
      exact ⟨sl, (hs.2 b (Nat.ne_of_lt (Nat.lt_of_lt_of_le (Heap.lt_size e) I.ok.above))).trans e1⟩
    · obtain ⟨o', e1⟩ := I.base.there b o e hx
      exact ⟨o', (hs.2 b (Nat.ne_of_lt (Nat.lt_of_lt_of_le (Heap.lt_size e) I.ok.above))).trans e1⟩
    · by_cases hj : j = i
      · subst hj
        rw [hi] at e1; cases e1
        rw [List.getElem?_set_self hiσ] at e2
        cases e2
        exact ⟨u, r, .inl ⟨hk, by simp⟩⟩
      · rw [List.getElem?_set_ne (Ne.symm hj)] at e2
        obtain ⟨u', r', q⟩ := hl j y v' e1 e2 e3
        refine ⟨u', r', ?_⟩
        rcases q with ⟨k, e⟩ | ⟨k, c, e, z⟩
        · refine .inl ⟨k, ?_⟩
          have : y ≠ x := fun e => hj (nodup_ix hN e1 (e ▸ hi))
          simp [this, e]
        · exact .inr ⟨k, c, e, z.sameBut hs (cne y c e)⟩
    · obtain ⟨w', z⟩ := I.cell y c e
      exact ⟨w', z.sameBut hs (cne y c e)⟩
    · obtain ⟨e, n, ne, nf, d⟩ := I.pin p hp
      exact ⟨(hs.2 p.1 ne).trans e, n, ne, nf, d⟩
  · have hfn : X.fn x = true := by
      rcases hf with z | z
      · exact z
      · rw [z] at hk; cases hk
    obtain ⟨c, hc⟩ := I.ok.has x (.inl hk)
    obtain ⟨w', z⟩ := I.cell x c hc
    refine wpAny_storeName_cell I.ok.kind hk hc z (fun h' hc' hs => ?_)
    obtain ⟨oc, hoc, hocd⟩ := id z
    refine h { s with heap := h' } ⟨I.ok, I.os, I.bare, ⟨fun b o e n hb hx => ?_, fun b o e n hb hx => ?_, I.base.free, fun b o e hx => ?_, I.base.tups, I.base.frzs, I.base.tbls⟩, ⟨m, hn.sameBut hs (Ne.symm (cne x c hc)), fun j y v' e1 e2 e3 => ?_⟩, fun y c' e => ?_, I.free, I.freeC, fun p hp => ?_, tracked ⟨oc, hoc, I.freeC x c hc⟩ hs, by simpa using I.len⟩ ⟨c, hs, .inr hc⟩
    · exact (hs.2 b (Nat.ne_of_lt (Nat.lt_of_lt_of_le (Heap.lt_size e) (I.ok.cab x c hfn hc)))).trans (I.base.keep b o e n hb hx)
    · obtain ⟨sl, e1⟩ := I.base.slot b o e n hb hx
      exact ⟨sl, (hs.2 b (Nat.ne_of_lt (Nat.lt_of_lt_of_le (Heap.lt_size e) (I.ok.cab x c hfn hc)))).trans e1⟩
    · obtain ⟨o', e1⟩ := I.base.there b o e hx
      exact ⟨o', (hs.2 b (Nat.ne_of_lt (Nat.lt_of_lt_of_le (Heap.lt_size e) (I.ok.cab x c hfn hc)))).trans e1⟩
    · by_cases hj : j = i
      · subst hj
        rw [hi] at e1; cases e1
        rw [List.getElem?_set_self hiσ] at e2
        cases e2
        exact ⟨u, r, .inr ⟨.inl hk, c, hc, hc'⟩⟩
      · rw [List.getElem?_set_ne (Ne.symm hj)] at e2
        obtain ⟨u', r', q⟩ := hl j y v' e1 e2 e3
        refine ⟨u', r', ?_⟩
        rcases q with q | ⟨k, c', e, z'⟩
        · exact .inl q
        · refine .inr ⟨k, c', e, z'.sameBut hs ?_⟩
          rintro rfl
          exact hj (nodup_ix hN e1 (I.ok.inj _ _ _ e hc ▸ hi))
    · by_cases hcc : c' = c
      · subst hcc; exact ⟨_, hc'⟩
      · obtain ⟨w2, z2⟩ := I.cell y c' e
        exact ⟨w2, z2.sameBut hs hcc⟩
    · obtain ⟨e, n, ne, nf, d⟩ := I.pin p hp
      refine ⟨(hs.2 p.1 ?_).trans e, n, ne, nf, d⟩
      intro q
      rw [q, hoc] at e
      have q' : oc = p.2 := Option.some.inj e
      exact d w' (by rw [← q']; exact hocd)
theorem store_ok {M : Model} {A : Around} {E : Value → Shared → Prop} {i : Nat} {x : Str} {v : V} {u : Value} {Q : Unit → Shared → Prop} (I : Inv X pins σ H s) (hN : X.N.Nodup) (hi : X.N[i]? = some x) (hx : Loc X.env.scope x) (r : RelV v u)
    (h : ∀ s', Inv X pins (σ.set i (some v)) H s' → Q () s') (hf : X.fn x = true ∨ X.env.scope.names.lookup x = some .local := by first | exact .inl rfl | exact .inr rfl | assumption) : wpAny M A (storeName X.env x u) Q E s :=
  store_ok2 I hN hi hx r (fun s' I' _ => h s' I') hf
theorem Inv.call' {s' : Shared} {ch : List Addr} (I : Inv X pins σ H s) (ho : s'.os = s.os) (u : Un (frs X.stack) ch H H' s.heap s'.heap) (hok : HOk X.prog X.w H' s'.heap) (hg : AllBare s'.gens)
    (hch : ∀ b ∈ ch, (b ∈ X.ex ∨ X.s₀.heap.objs.size ≤ b) ∧ b ≠ X.env.locals ∧ (∀ x c, X.env.cells.lookup x = some c → c ≠ b) ∧ ∀ p ∈ X.pn ++ pins, p.1 ≠ b) : Inv X pins σ H' s' := by
  obtain ⟨h', g', d', t', o'⟩ := s'
  have e : o' = s.os := ho
  subst e
  exact I.call (g' := g') (t' := t') (d' := d') u hok hg hch
end

/-! ### the judgements -/
abbrev XK := Value → Option Addr → Hp → Prop
abbrev St := List (Option V)
abbrev VK := V → Hp → Prop
abbrev TE := St → Hp → VK → Prop
abbrev TT := St → Hp → (Bool → Hp → Prop) → Prop
abbrev TA := St → Hp → (List V → Hp → Prop) → Prop
structure Ends where
  nx : St → Hp → Prop
  rt : VK
  bk : St → Hp → Prop := fun _ _ => False
  ct : St → Hp → Prop := fun _ _ => False
abbrev TS := Ends → St → Hp → Prop

def EP (X : Cx) (pins : List (Addr × Obj)) (σ : St) (Q : VK) (u : Value) (s' : Shared) : Prop := ∃ v H', Inv X pins σ H' s' ∧ RelV v u ∧ Q v H'
def TP (X : Cx) (pins : List (Addr × Obj)) (σ : St) (Q : Bool → Hp → Prop) (b : Bool) (s' : Shared) : Prop := ∃ H', Inv X pins σ H' s' ∧ Q b H'
def AP (X : Cx) (pins : List (Addr × Obj)) (σ : St) (Q : List V → Hp → Prop) (us : List Value) (s' : Shared) : Prop := ∃ vs H', Inv X pins σ H' s' ∧ Vals vs us ∧ Q vs H'
def SP (X : Cx) (pins : List (Addr × Obj)) (D : Ends) (f : Flow) (s' : Shared) : Prop :=
  match f with
  | .next => ∃ σ' H', Inv X pins σ' H' s' ∧ D.nx σ' H'
  | .brk => ∃ σ' H', Inv X pins σ' H' s' ∧ D.bk σ' H'
  | .cont => ∃ σ' H', Inv X pins σ' H' s' ∧ D.ct σ' H'
  | .ret u => ∃ v σ' H', Inv X pins σ' H' s' ∧ RelV v u ∧ D.rt v H'

def PE (X : Cx) (e : Expr) (t : TE) : Prop :=
  ∀ (pins : List (Addr × Obj)) (s : Shared) (σ : St) (H : Hp) (Q : VK), Inv X pins σ H s → t σ H Q → wpAny (model X.prog X.w) X.A (eval e X.env) (EP X pins σ Q) X.xe s
def PT (X : Cx) (e : Expr) (t : TT) : Prop :=
  ∀ (pins : List (Addr × Obj)) (s : Shared) (σ : St) (H : Hp) (Q : Bool → Hp → Prop), Inv X pins σ H s → t σ H Q → wpAny (model X.prog X.w) X.A (isTrue e X.env (eval e X.env)) (TP X pins σ Q) X.xe s
def PW (X : Cx) (e : Expr) (t : TT) : Prop :=
  ∀ (whole : Sem Value) (pins : List (Addr × Obj)) (s : Shared) (σ : St) (H : Hp) (Q : Bool → Hp → Prop), Inv X pins σ H s → t σ H Q → wpAny (model X.prog X.w) X.A (isTrue e X.env whole) (TP X pins σ Q) X.xe s
theorem PW.pt {X : Cx} {e : Expr} {t : TT} (h : PW X e t) : PT X e t := h _
def PA (X : Cx) (es : List Expr) (t : TA) : Prop :=
  ∀ (pos : Pos) (pins : List (Addr × Obj)) (s : Shared) (σ : St) (H : Hp) (Q : List V → Hp → Prop), Inv X pins σ H s → t σ H Q → wpAny (model X.prog X.w) X.A (spliced (backTo pos (starEach es X.env))) (AP X pins σ Q) X.xe s
def PS (X : Cx) (st : Stmt) (t : TS) : Prop :=
  ∀ (pins : List (Addr × Obj)) (s : Shared) (σ : St) (H : Hp) (D : Ends), Inv X pins σ H s → t D σ H → wpAny (model X.prog X.w) X.A (exec st X.env) (SP X pins D) X.xe s
def PSs (X : Cx) (st : List Stmt) (t : TS) : Prop :=
  ∀ (pins : List (Addr × Obj)) (s : Shared) (σ : St) (H : Hp) (D : Ends), Inv X pins σ H s → t D σ H → wpAny (model X.prog X.w) X.A (execs st X.env) (SP X pins D) X.xe s
theorem thn {α : Type} {t : Sem α} {Q Q' : α → Shared → Prop} {M : Model} {A : Around} {E : Value → Shared → Prop} {s : Shared} (h : wpAny M A t Q E s) (hQ : ∀ a s, Q a s → Q' a s) : wpAny M A t Q' E s := wpAny_mono h hQ fun _ _ x => x
end L2

namespace L2
open PySem PySem.Spec PyProof.Rows
section
variable {X : Cx}

/-! ### names and constants -/
def tVar (i : Nat) : TE := fun σ H Q => ∃ v, σ[i]? = some (some v) ∧ Q v H
def tC (v : V) : TE := fun _ H Q => Q v H
theorem pe_var {i : Nat} {x : Str} {pos : Pos} (hN : X.N[i]? = some x) (hv : Vis X.env.scope x) (hd : (x == ("__debug__" : Str)) = false := by decide) (hcd : (x == ("__classdict__" : Str)) = false := by decide) : PE X (.Name x pos) (tVar i) := by
  intro pins s σ H Q I h
  obtain ⟨v, e, h⟩ := h
  obtain ⟨m, hn, hl⟩ := I.loc
  obtain ⟨u, r, l⟩ := hl i x v hN e hv
  have fin : EP X pins σ Q u s := ⟨v, H, I, r, h⟩
  rcases l with ⟨hk, hm⟩ | ⟨hk, c, hc, hcell⟩
  · exact wpAny_Name (wpAny_loadName_local I.ok.kind hk hn hm fin) hd
  · rcases hk with hk | hk
    · exact wpAny_Name (wpAny_loadName_cell I.ok.kind hk hc hcell fin) hd
    · exact wpAny_Name (wpAny_loadName_free I.ok.kind hk hc hcell fin hcd) hd
theorem pe_int {i j pos} : PE X (.Constant (.int i) j pos) (tC (.int i)) := fun _ _ _ H _ I h => wpAny_Constant_int ⟨.int i, H, I.tok _, ⟨_, rfl⟩, h⟩
theorem pe_bl {b j pos} : PE X (.Constant (.bool b) j pos) (tC (.bl b)) := fun _ _ _ H _ I h => Constant_bool ⟨.bl b, H, I, rfl, h⟩
theorem pe_non {j pos} : PE X (.Constant .none j pos) (tC .non) := fun _ _ _ H _ I h => Constant_none ⟨.non, H, I, rfl, h⟩
theorem pe_str {x j pos} : PE X (.Constant (.str x) j pos) (tC (.str x)) := fun _ _ _ H _ I h => Calls.Constant_str ⟨.str x, H, I.tok _, ⟨_, rfl⟩, h⟩

def Gl (X : Cx) (x : Str) : Prop := X.env.kindOf x = some .globalImplicit
theorem ld_glob {E : Value → Shared → Prop} {pins : List (Addr × Obj)} {s : Shared} {σ : St} {H : Hp} {x : Str} {u : Value} {pos : Pos} {Q : Value → Shared → Prop} (I : Inv X pins σ H s) (hg : Gl X x) (hm : X.mg x = some u) (h : Q u s)
    (hd : (x == ("__debug__" : Str)) = false := by decide) : wpAny (model X.prog X.w) X.A (eval (.Name x pos) X.env) Q E s :=
  Calls.Name_function_global I.ok.kind hg (Calls.loadGlobal_global (by rw [I.ok.glob]; exact I.mod.glob.keeps I.bk) hm h) hd
theorem ld_blt {E : Value → Shared → Prop} {pins : List (Addr × Obj)} {s : Shared} {σ : St} {H : Hp} {x : Str} {u : Value} {pos : Pos} {Q : Value → Shared → Prop} (I : Inv X pins σ H s) (hg : Gl X x) (hm : X.mg x = none) (hv : bootBuiltins x = some u) (h : Q u s)
    (hn : x ≠ "__name__" := by decide) (hd : (x == ("__debug__" : Str)) = false := by decide) : wpAny (model X.prog X.w) X.A (eval (.Name x pos) X.env) Q E s := by
  obtain ⟨mb, h1, h2⟩ := I.mod.blt
  exact Calls.Name_function_global I.ok.kind hg (Calls.loadGlobal_builtin (by rw [I.ok.glob]; exact I.mod.glob.keeps I.bk) hm (by rw [I.ok.blt]; exact h1.keeps I.bk) ((h2 x hn).trans hv) h) hd
theorem pe_bltn {x : Str} {v : V} {u : Value} {pos : Pos} (hg : Gl X x) (hm : X.mg x = none) (hv : bootBuiltins x = some u) (r : RelV v u) (hn : x ≠ "__name__" := by decide) (hd : (x == ("__debug__" : Str)) = false := by decide) : PE X (.Name x pos) (tC v) :=
  fun _ _ _ H _ I h => ld_blt I hg hm hv ⟨v, H, I, r, h⟩ hn hd

/-! ### arithmetic -/
variable {a b : Expr} {ta tb : TE} {pos : Pos}
/-! ### comparisons -/
def tB (t : TE) : TT := fun σ H Q => t σ H fun x H1 => ∃ c, x = .bl c ∧ Q c H1
theorem pt_val {e : Expr} {t : TE} (h : PE X e t) (he : ∀ whole, isTrue e X.env whole = (do let v ← whole; standAt e.pos; holding [v] (truthy v)) := by intro _; rfl) : PT X e (tB t) := by
  intro pins s σ H Q I hw
  refine isTrue_plain (thn (h pins s σ H _ I hw) fun v s1 ⟨x, H1, I1, r1, q1⟩ => ?_) (he _)
  obtain ⟨d, rfl, q⟩ := q1
  cases r1
  exact wpAny_truthy_bool ⟨H1, I1, q⟩

/-! ### and, or, not -/
variable {tA tB' : TT} {rest : List Expr}
def tOr (t u : TT) : TT := fun σ H Q => t σ H fun c H1 => if c = true then Q true H1 else u σ H1 Q
def tNot (t : TT) : TT := fun σ H Q => t σ H fun c H1 => Q (!c) H1
theorem pw_or1 (ha : PT X a tA) : PW X (.BoolOp .Or [a] pos) tA := by
  intro wh pins s σ H Q I h
  refine isTrue_or (thn (ha pins s σ H Q I h) fun c s1 e => ?_)
  cases c with
  | false => exact isTrue_or_nil e
  | true => exact e
theorem pw_or (ha : PT X a tA) (hb : PW X (.BoolOp .Or (b :: rest) pos) tB') : PW X (.BoolOp .Or (a :: b :: rest) pos) (tOr tA tB') := by
  intro wh pins s σ H Q I h
  refine isTrue_or (thn (ha pins s σ H _ I h) fun c s1 ⟨H1, I1, q1⟩ => ?_)
  cases c with
  | true => exact ⟨H1, I1, q1⟩
  | false => exact hb wh pins s1 σ H1 Q I1 q1
theorem pt_not (ha : PT X a tA) : PT X (.UnaryOp .Not a pos) (tNot tA) := by
  intro pins s σ H Q I h
  exact isTrue_not (ha pins s σ H (fun c H1 => Q (!c) H1) I h)
def tAndV (ta tb : TE) : TE := fun σ H Q => ta σ H fun x H1 => ∃ c, x = .bl c ∧ if c = true then tb σ H1 Q else Q (.bl false) H1
theorem pe_one {op} {t : TE} (h : PE X a t) : PE X (.BoolOp op [a] pos) t := fun pins s σ H Q I hw => BoolOp_one (h pins s σ H Q I hw)
theorem pe_and (ha : PE X a ta) (hb : PE X (.BoolOp .And (b :: rest) pos) tb) : PE X (.BoolOp .And (a :: b :: rest) pos) (tAndV ta tb) := by
  intro pins s σ H Q I h
  refine BoolOp_and (thn (ha pins s σ H _ I h) fun v s1 ⟨x, H1, I1, r1, q1⟩ => ?_)
  obtain ⟨c, rfl, q1⟩ := q1
  cases r1
  refine wpAny_truthy_bool ?_
  cases c with
  | true => exact hb pins s1 σ H1 Q I1 q1
  | false => exact ⟨.bl false, H1, I1, rfl, q1⟩
def tIf (t : TT) (ta tb : TE) : TE := fun σ H Q => t σ H fun c H1 => if c = true then ta σ H1 Q else tb σ H1 Q
theorem pe_ifExp {c : Expr} (hc : PT X c tA) (ha : PE X a ta) (hb : PE X b tb) : PE X (.IfExp c a b pos) (tIf tA ta tb) := by
  intro pins s σ H Q I h
  refine wpAny_IfExp (thn (hc pins s σ H _ I h) fun d s1 ⟨H1, I1, q1⟩ => ?_)
  cases d with
  | true => exact ha pins s1 σ H1 Q I1 q1
  | false => exact hb pins s1 σ H1 Q I1 q1
end
end L2

namespace L2
open PySem PySem.Spec PyProof.Rows

/-! ### a list, a tuple that is read: tracked, frozen, or an object of the module -/
def SqL (K : PySem.W.Frag) (H : Hp) (a : Addr) (xs : List V) : Prop :=
  Rd H a (.lst xs) ∨
    ∃ (o : Obj) (its : Array Value) (n : Nat), K.lookup a = some o ∧ o.cls = .type "list" ∧ o.dict = none ∧ o.data = .seq its n ∧ its.size ≤ sizeLine ∧ Vals xs its.toList
def SqT (K : PySem.W.Frag) (H : Hp) (a : Addr) (xs : List V) : Prop :=
  Rd H a (.tup xs) ∨
    ∃ (o : Obj) (its : Array Value) (n : Nat), K.lookup a = some o ∧ o.cls = .type "tuple" ∧ o.data = .seq its n ∧ its.size ≤ sizeLine ∧ Vals xs its.toList
def absV : Value → Option V
  | .none => some .non
  | .bool b => some (.bl b)
  | .int i _ => some (.int i)
  | .str x _ => some (.str x)
  | .bytes b _ => some (.byt b)
  | .float b _ => some (.flt b)
  | .ref a => some (.ref a)
  | .type n => some (.ty n)
  | _ => none
theorem RelV.abs {x : V} {u : Value} (r : RelV x u) : absV u = some x := by
  cases x with
  | non => cases r; rfl
  | bl _ => cases r; rfl
  | int _ => obtain ⟨t, rfl⟩ := r; rfl
  | str _ => obtain ⟨t, rfl⟩ := r; rfl
  | byt _ => obtain ⟨t, rfl⟩ := r; rfl
  | flt _ => obtain ⟨t, rfl⟩ := r; rfl
  | ref _ => cases r; rfl
  | ty _ => cases r; rfl
theorem RelV.inj {x y : V} {u : Value} (r : RelV x u) (q : RelV y u) : x = y := Option.some.inj (r.abs.symm.trans q.abs)
theorem Vals.inj : ∀ {xs ys : List V} {us : List Value}, Vals xs us → Vals ys us → xs = ys
  | _, _, _, .nil, .nil => rfl
  | _, _, _, .cons r t, .cons r' t' => by rw [r.inj r', Vals.inj t t']
section
variable {X : Cx} {pins : List (Addr × Obj)} {σ : St} {H : Hp} {s : Shared} {a : Addr} {xs ys : List V}
theorem SqL.of {K : PySem.W.Frag} (h : H a = some (.lst xs)) : SqL K H a xs := .inl (.inl h)
theorem SqT.of {K : PySem.W.Frag} (h : H a = some (.tup xs)) : SqT K H a xs := .inl (.inl h)
theorem Inv.list (I : Inv X pins σ H s) (h : SqL X.K H a xs) : ∃ its : List Value, Vals xs its ∧ PlainL s.heap a its.toArray ∧ xs.length ≤ sizeLine := by
  rcases h with h | ⟨o, its, n, hk, hc, hd, hs, hz, r⟩
  · obtain ⟨z, its, n, r, e⟩ := h.ok I.hok
    exact ⟨its, r, ⟨_, n, e, rfl, rfl, rfl⟩, z⟩
  · refine ⟨its.toList, r, ⟨o, n, I.kIn a o hk, hc, hd, by simpa using hs⟩, ?_⟩
    have e := r.length
    simp only [Array.length_toList] at e
    omega
theorem Inv.tuple (I : Inv X pins σ H s) (h : SqT X.K H a xs) : ∃ its : List Value, Vals xs its ∧ IsTup s.heap a its.toArray ∧ xs.length ≤ sizeLine := by
  rcases h with h | ⟨o, its, n, hk, hc, hs, hz, r⟩
  · obtain ⟨z, its, r, p⟩ := h.ok I.hok
    exact ⟨its, r, p, z⟩
  · refine ⟨its.toList, r, ⟨o, I.kIn a o hk, hc, n, by simpa using hs⟩, ?_⟩
    have e := r.length
    simp only [Array.length_toList] at e
    omega
theorem Inv.list_inj (I : Inv X pins σ H s) (h : SqL X.K H a xs) (h' : SqL X.K H a ys) : xs = ys := by
  obtain ⟨its, r, ⟨o, n, e, _, _, d⟩, _⟩ := I.list h
  obtain ⟨its', r', ⟨o', n', e', _, _, d'⟩, _⟩ := I.list h'
  rw [e] at e'; cases e'
  rw [d] at d'
  injection d' with d1 _
  have : its = its' := by simpa using congrArg Array.toList d1
  subst this
  exact r.inj r'
theorem Inv.tuple_inj (I : Inv X pins σ H s) (h : SqT X.K H a xs) (h' : SqT X.K H a ys) : xs = ys := by
  obtain ⟨its, r, ⟨o, e, _, n, d⟩, _⟩ := I.tuple h
  obtain ⟨its', r', ⟨o', e', _, n', d'⟩, _⟩ := I.tuple h'
  rw [e] at e'; cases e'
  rw [d] at d'
  injection d' with d1 _
  have : its = its' := by simpa using congrArg Array.toList d1
  subst this
  exact r.inj r'
end

/-! ### another wish about exceptions -/
abbrev Cx.wish (X : Cx) (E : Value → Shared → Prop) : Cx := { X with xe := E }
abbrev Cx.nox (X : Cx) : Cx := X.wish fun _ _ => False
theorem Cx.Ok.wish {X : Cx} (ok : X.Ok) (E : Value → Shared → Prop) : (X.wish E).Ok :=
  ⟨ok.mod, ok.kind, ok.glob, ok.blt, ok.above, ok.inj, ok.has, ok.cab, ok.hd, ok.frames, ok.stk, ok.exf, ok.bs, ok.bsz, ok.noex, ok.exfs, ok.funs, ok.frf⟩
theorem Cx.Ok.unwish {X : Cx} {E : Value → Shared → Prop} (ok : (X.wish E).Ok) : X.Ok :=
  ⟨ok.mod, ok.kind, ok.glob, ok.blt, ok.above, ok.inj, ok.has, ok.cab, ok.hd, ok.frames, ok.stk, ok.exf, ok.bs, ok.bsz, ok.noex, ok.exfs, ok.funs, ok.frf⟩
section
variable {X : Cx} {pins : List (Addr × Obj)} {σ : St} {H : Hp} {s : Shared} {E : Value → Shared → Prop}
theorem Inv.wish (I : Inv X pins σ H s) (E : Value → Shared → Prop) : Inv (X.wish E) pins σ H s := ⟨I.ok.wish E, I.os, I.bare, I.base, I.loc, I.cell, I.free, I.freeC, I.pin, I.hok, I.len⟩
theorem Inv.unwish (I : Inv (X.wish E) pins σ H s) : Inv X pins σ H s := ⟨I.ok.unwish, I.os, I.bare, I.base, I.loc, I.cell, I.free, I.freeC, I.pin, I.hok, I.len⟩
theorem SP.unwish {D : Ends} {f : Flow} {s' : Shared} (h : SP (X.wish E) pins D f s') : SP X pins D f s' := by
  cases f with
  | next => obtain ⟨σ', H', I, q⟩ := h; exact ⟨σ', H', I.unwish, q⟩
  | brk => obtain ⟨σ', H', I, q⟩ := h; exact ⟨σ', H', I.unwish, q⟩
  | cont => obtain ⟨σ', H', I, q⟩ := h; exact ⟨σ', H', I.unwish, q⟩
  | ret u => obtain ⟨v, σ', H', I, r, q⟩ := h; exact ⟨v, σ', H', I.unwish, r, q⟩
theorem PE.nox {e : Expr} {t : TE} (h : PE X.nox e t) : PE X e t := fun pins s σ H Q I hw =>
  wpAny_mono (h pins s σ H Q (I.wish _) hw) (fun _ _ ⟨v, H', I', r, q⟩ => ⟨v, H', I'.unwish, r, q⟩) fun _ _ z => False.elim z
theorem PT.nox {e : Expr} {t : TT} (h : PT X.nox e t) : PT X e t := fun pins s σ H Q I hw =>
  wpAny_mono (h pins s σ H Q (I.wish _) hw) (fun _ _ ⟨H', I', q⟩ => ⟨H', I'.unwish, q⟩) fun _ _ z => False.elim z
theorem PSs.nox {st : List Stmt} {t : TS} (h : PSs X.nox st t) : PSs X st t := fun pins s σ H D I hw =>
  wpAny_mono (h pins s σ H D (I.wish _) hw) (fun _ _ q => q.unwish) fun _ _ z => False.elim z
end

/-! ### blocks and small statements -/
section
variable {X : Cx} {st : Stmt} {rest : List Stmt} {t u : TS} {e : Expr} {te : TE} {pos : Pos}
def tNext : TS := fun D σ H => D.nx σ H
def tSeq (t u : TS) : TS := fun D σ H => t { D with nx := u D } σ H
theorem pss_nil : PSs X [] tNext := fun _ _ σ H _ I h => wpAny_execs_nil ⟨σ, H, I, h⟩
theorem pss_cons (h1 : PS X st t) (h2 : PSs X rest u) : PSs X (st :: rest) (tSeq t u) := by
  intro pins s σ H D I h
  refine wpAny_execs_cons (thn (h1 pins s σ H { D with nx := u D } I h) fun f s1 q => ?_)
  cases f with
  | next =>
    obtain ⟨σ', H', I', q⟩ := q
    exact h2 pins s1 σ' H' D I' q
  | ret v => exact q
  | brk => exact q
  | cont => exact q
theorem pss_one (h1 : PS X st t) : PSs X [st] t := by
  intro pins s σ H D I h
  refine wpAny_execs_cons (thn (h1 pins s σ H D I h) fun f s1 q => ?_)
  cases f with
  | next => exact wpAny_execs_nil q
  | ret v => exact q
  | brk => exact q
  | cont => exact q
theorem Inv.quiet {pins : List (Addr × Obj)} {σ : St} {H : Hp} {s : Shared} (I : Inv X pins σ H s) : interactive X.env = false := by simp [interactive, I.ok.kind]
def tDrop (te : TE) : TS := fun D σ H => te σ H fun _ H1 => D.nx σ H1
theorem ps_expr (he : PE X e te) (hs : swapsWith e none pos.line X.env = pure false := by rfl) : PS X (.Expr e pos) (tDrop te) := by
  intro pins s σ H D I h
  exact wpAny_Expr_any (thn (he pins s σ H _ I h) fun v s1 ⟨x, H1, I1, r1, q1⟩ => ⟨σ, H1, I1, q1⟩) I.quiet hs
def tRet (te : TE) : TS := fun D σ H => te σ H D.rt
theorem ps_ret (he : PE X e te) : PS X (.Return (some e) pos) (tRet te) := by
  intro pins s σ H D I h
  exact wpAny_Return_some (thn (he pins s σ H _ I h) fun v s1 ⟨x, H1, I1, r1, q1⟩ => ⟨x, σ, H1, I1, r1, q1⟩)
def tIfS (c : TT) (t u : TS) : TS := fun D σ H => c σ H fun b H1 => if b = true then t D σ H1 else u D σ H1
theorem ps_if {c : Expr} {a b : List Stmt} {tc : TT} (hc : PT X c tc) (ha : PSs X a t) (hb : PSs X b u) : PS X (.If c a b pos) (tIfS tc t u) := by
  intro pins s σ H D I h
  refine wpAny_If (thn (hc pins s σ H _ I h) fun d s1 ⟨H1, I1, q1⟩ => ?_)
  cases d with
  | true => exact ha pins s1 σ H1 D I1 q1
  | false => exact hb pins s1 σ H1 D I1 q1
end

/-! ### targets -/
abbrev TG := V → St → Hp → (St → Hp → Prop) → Prop
abbrev TGs := List V → St → Hp → (St → Hp → Prop) → Prop
def PG (X : Cx) (target : Expr) (t : TG) : Prop :=
  ∀ (pins : List (Addr × Obj)) (s : Shared) (σ : St) (H : Hp) (v : V) (u : Value) (Q : St → Hp → Prop), Inv X pins σ H s → RelV v u → t v σ H Q →
    wpAny (model X.prog X.w) X.A (assign target X.env u) (fun _ s' => ∃ σ' H', Inv X pins σ' H' s' ∧ Q σ' H') X.xe s
def PGs (X : Cx) (ts : List Expr) (t : TGs) : Prop :=
  ∀ (pins : List (Addr × Obj)) (s : Shared) (σ : St) (H : Hp) (vs : List V) (us : List Value) (Q : St → Hp → Prop), Inv X pins σ H s → Vals vs us → t vs σ H Q →
    wpAny (model X.prog X.w) X.A (assignInOrder ((assignEach ts X.env).map (·.2)) us) (fun _ s' => ∃ σ' H', Inv X pins σ' H' s' ∧ Q σ' H') X.xe s
abbrev TSet := V → V → V → Hp → (Hp → Prop) → Prop
def PSet (X : Cx) (t : TSet) : Prop :=
  ∀ (pins : List (Addr × Obj)) (s : Shared) (σ : St) (H : Hp) (o i v : V) (ov iv u : Value) (Q : Hp → Prop), Inv X pins σ H s → RelV o ov → RelV i iv → RelV v u → t o i v H Q →
    wpAny (model X.prog X.w) X.A (setItem ov iv u) (fun _ s' => ∃ H', Inv X pins σ H' s' ∧ Q H') X.xe s
section
variable {X : Cx} {pos : Pos}
def gName (i : Nat) : TG := fun v σ H Q => Q (σ.set i (some v)) H
theorem pg_name {i : Nat} {x : Str} (hN : X.N.Nodup) (hi : X.N[i]? = some x) (hx : Loc X.env.scope x) (hf : X.fn x = true ∨ X.env.scope.names.lookup x = some .local := by first | exact .inl rfl | exact .inr rfl | assumption) : PG X (.Name x pos) (gName i) := by
  intro pins s σ H v u Q I r h
  exact wpAny_assign_Name (store_ok I hN hi hx r (fun s' I' => ⟨_, H, I', h⟩) hf)
def gNil : TGs := fun vs σ H Q => vs = [] ∧ Q σ H
def gCons (t : TG) (u : TGs) : TGs := fun vs σ H Q => ∃ v r, vs = v :: r ∧ t v σ H fun σ' H' => u r σ' H' Q
theorem pgs_nil : PGs X [] gNil := by
  intro pins s σ H vs us Q I r h
  obtain ⟨e, h⟩ := h
  subst e
  cases r
  exact assignInOrder_nil ⟨σ, H, I, h⟩
theorem pgs_cons {e : Expr} {es : List Expr} {t : TG} {u : TGs} (h1 : PG X e t) (h2 : PGs X es u)
    (hs : (assignEach (e :: es) X.env).map (·.2) = assign e X.env :: (assignEach es X.env).map (·.2) := by rfl) : PGs X (e :: es) (gCons t u) := by
  intro pins s σ H vs us Q I r h
  obtain ⟨v, vr, e1, h⟩ := h
  subst e1
  cases r with
  | cons r rr =>
    rw [hs]
    refine assignInOrder_cons (thn (h1 pins s σ H _ _ _ I r h) fun _ s1 ⟨σ1, H1, I1, q1⟩ => ?_)
    exact h2 pins s1 σ1 H1 _ _ Q I1 rr q1
def gTup (K : PySem.W.Frag) (n : Nat) (t : TGs) : TG := fun v σ H Q => ∃ a xs, v = .ref a ∧ SqT K H a xs ∧ xs.length = n ∧ t xs σ H Q
theorem pg_tup {es : List Expr} {k : Nat} {t : TGs} {n : Nat} (hc : X.calm = true) (h : PGs X es t)
    (hn : (assignEach es X.env).length = n := by rfl) (hst : (assignEach es X.env).findIdx? (·.1) = none := by rfl) : PG X (.Tuple es k pos) (gTup X.K n t) := by
  intro pins s σ H v u Q I r hw
  obtain ⟨a, xs, e1, hq, hl, hw⟩ := hw
  subst e1
  cases r
  obtain ⟨its, rv, ht, hz⟩ := I.tuple hq
  refine assign_Tuple_tuple (I.ok.hd hc) ht (by simp [hn, ← hl, rv.length]) hst fun h' hx => ?_
  have I1 : Inv X pins σ H { s with heap := h' } := I.kept (t' := s.toks) fun b o e => hx b o (Nat.ne_of_lt (Heap.lt_size e)) e
  exact h pins _ σ H xs _ Q I1 (by simpa using rv) hw
def gSub (to ti : TE) (t : TSet) : TG := fun v σ H Q => to σ H fun o H1 => ti σ H1 fun i H2 => t o i v H2 fun H3 => Q σ H3
theorem pg_sub {o i : Expr} {to ti : TE} {t : TSet} (ho : PE X o to) (hi : PE X i ti) (hs : PSet X t)
    (ha : ∀ v, assign (.Subscript o i pos) X.env v = (do
      let ov ← holding [v] (eval o X.env)
      let iv ← holding [v, ov] (eval i X.env)
      standAt pos
      holding [v, ov, iv] (setItem ov iv v)
      release [v, ov, iv] []) := by intro _; rfl) : PG X (.Subscript o i pos) (gSub to ti t) := by
  intro pins s σ H v u Q I r h
  rw [ha]
  refine wpAny_bind (wpAny_holding (thn (ho pins s σ H _ I h) fun ov s1 ⟨x, H1, I1, r1, q1⟩ => ?_))
  refine wpAny_bind (wpAny_holding (thn (hi pins s1 σ H1 _ I1 q1) fun iv s2 ⟨y, H2, I2, r2, q2⟩ => ?_))
  refine wpAny_bind (wpAny_standAt (wpAny_bind (wpAny_holding (thn (hs pins s2 σ H2 x y v ov iv u _ I2 r1 r2 r q2) fun _ s3 ⟨H3, I3, q3⟩ => ?_))))
  exact wpAny_release ⟨σ, H3, I3, q3⟩
def tAsg (te : TE) (g : TG) : TS := fun D σ H => te σ H fun x H1 => g x σ H1 D.nx
theorem ps_asg {tg e : Expr} {te : TE} {g : TG} (he : PE X e te) (hg : PG X tg g) (hs : swapsWithSole [tg] e pos.line X.env = pure false := by rfl) (hw : swappedStores [tg] e X.env = pure none := by rfl)
    (h1 : (assignEach [tg] X.env).map (·.2) = [assign tg X.env] := by rfl) : PS X (.Assign [tg] e pos) (tAsg te g) := by
  intro pins s σ H D I h
  refine wpAny_Assign_stores (thn (he pins s σ H _ I h) fun v s1 ⟨x, H1, I1, r1, q1⟩ => ?_) hs hw
  rw [h1]
  exact thn (hg pins s1 σ H1 x v _ I1 r1 q1) fun _ s2 q => q
theorem ps_set {i : Nat} {x : Str} {e : Expr} {te : TE} {pos' : Pos} (hN : X.N.Nodup) (hi : X.N[i]? = some x) (hx : Loc X.env.scope x) (he : PE X e te) (hs : swapsWith e (some (.Name x pos')) pos.line X.env = pure false := by rfl) (hf : X.fn x = true ∨ X.env.scope.names.lookup x = some .local := by first | exact .inl rfl | exact .inr rfl | assumption) :
    PS X (.Assign [.Name x pos'] e pos) (tAsg te (gName i)) := by
  intro pins s σ H D I h
  refine wpAny_Assign_Name (thn (he pins s σ H _ I h) fun v s1 ⟨y, H1, I1, r1, q1⟩ => ?_) hs
  exact store_ok I1 hN hi hx r1 (fun s2 I2 => ⟨_, H1, I2, q1⟩) hf
def tPar (i j : Nat) (ta : TA) : TS := fun D σ H => ta σ H fun vs H1 => ∃ v w, vs = [v, w] ∧ D.nx ((σ.set i (some v)).set j (some w)) H1
theorem ps_par {i j : Nat} {x y : Str} {a b : Expr} {ta : TA} {px py pt : Pos} {kt k2 pt2} (hc : X.calm = true) (hN : X.N.Nodup) (hi : X.N[i]? = some x) (hj : X.N[j]? = some y) (hij : i ≠ j)
    (hx : X.env.scope.names.lookup x = some .local) (hy : X.env.scope.names.lookup y = some .local) (ha : PA X [a, b] ta)
    (hw : swappedStores [.Tuple [.Name x px, .Name y py] kt pt] (.Tuple [a, b] k2 pt2) X.env = pure (some [x, y]))
    (hs : swapsWithSole [.Tuple [.Name x px, .Name y py] kt pt] (.Tuple [a, b] k2 pt2) pos.line X.env = pure false := by rfl) :
    PS X (.Assign [.Tuple [.Name x px, .Name y py] kt pt] (.Tuple [a, b] k2 pt2) pos) (tPar i j ta) := by
  intro pins s σ H D I h
  rw [exec_Assign_arm]
  refine wpAny_bind (wpAny_standAt ?_)
  rw [hs]
  refine wpAny_bind (wpAny_pure ?_)
  rw [if_neg (by decide)]
  refine wpAny_bind (Tuple_ (thn (ha _ pins s σ H _ I h) fun us s1 ⟨vs, H1, I1, r1, q1⟩ => ?_))
  obtain ⟨v, w, e1, q1⟩ := q1
  subst e1
  obtain ⟨u1, u2, rfl, rv, rw'⟩ : ∃ u1 u2, us = [u1, u2] ∧ RelV v u1 ∧ RelV w u2 := by
    cases r1 with
    | cons p q =>
      cases q with
      | cons p' q' =>
        cases q'
        exact ⟨_, _, rfl, p, p'⟩
  refine wpAny_newObj_type ?_ (by show 2 ≤ sizeLine; decide)
  have I2 : Inv X pins σ H1 { s1 with heap := s1.heap.push { cls := .type "tuple", data := .seq [u1, u2].toArray } } := I1.kept (t' := s1.toks) fun b o e => Heap.get?_push_of_some _ e
  rw [hw]
  refine wpAny_bind (wpAny_pure ?_)
  show wpAny (model X.prog X.w) X.A (do rule "assign.swapped-stores"; let items ← unpackItems (.ref s1.heap.objs.size) 2 none; assignInOrder [fun v => bindName X.env y v, fun v => bindName X.env x v] items.reverse; pure Flow.next) _ _ _
  refine wpAny_bind (wpAny_rule (wpAny_bind (unpackItems_tuple (items := #[u1, u2]) (I.ok.hd hc) (IsTup.new s1.heap _) fun h' hx' => ?_)))
  have I3 := I2.kept (h' := h') (t' := s1.toks) fun b o e => hx' b o (Nat.ne_of_lt (Heap.lt_size e)) e
  show wpAny _ _ (assignInOrder [fun v => bindName X.env y v, fun v => bindName X.env x v] [u2, u1] >>= fun _ => pure Flow.next) _ _ _
  refine wpAny_bind (assignInOrder_cons (wpAny_bindName (store_ok I3 hN hj (.inl hy) rw' (fun s2 I4 => ?_) (.inr hy))))
  refine assignInOrder_cons (wpAny_bindName (store_ok I4 hN hi (.inl hx) rv (fun s3 I5 => assignInOrder_nil (wpAny_pure ?_)) (.inr hx)))
  rw [List.set_comm _ _ (Ne.symm hij)] at I5
  exact ⟨_, H1, I5, q1⟩
end

/-! ### while -/
section
variable {X : Cx} {pos : Pos}
end

/-! ### what a loop or a comprehension walks -/
structure It where
  go : Nat → Hp → Prop
  yld : Nat → Hp → V → Hp → Prop
  stop : Nat → Hp → Prop
def FpOk (X : Cx) (pins : List (Addr × Obj)) (H : Hp) (b : Addr) : Prop :=
  H b = none ∧ b ≠ X.env.locals ∧ b ∉ X.fs ∧ (b ∈ X.ex ∨ X.s₀.heap.objs.size ≤ b) ∧ (∀ x c, X.env.cells.lookup x = some c → c ≠ b) ∧ ∀ p ∈ X.pn ++ pins, p.1 ≠ b
theorem Inv.fpOk {X : Cx} {pins : List (Addr × Obj)} {σ : St} {H H' : Hp} {s : Shared} {b : Addr} (I : Inv X pins σ H s) (hb : s.heap.objs.size ≤ b) (hn : H' b = none) : FpOk X pins H' b := by
  refine ⟨hn, Nat.ne_of_gt (Nat.lt_of_lt_of_le I.lt hb), I.nofs hb, .inr (Nat.le_trans I.sz hb), fun x c e z => ?_, fun p hp z => ?_⟩
  · obtain ⟨v, q⟩ := I.cell x c e
    exact absurd (Nat.lt_of_lt_of_le q.lt (by rw [z]; exact hb)) (Nat.lt_irrefl _)
  · exact absurd (Nat.lt_of_lt_of_le (Heap.lt_size (I.pin p hp).1) (by rw [z]; exact hb)) (Nat.lt_irrefl _)
structure Turn (P : Program) (w : World) (K : PySem.W.Frag) (tg : Expr) (J : It) (fp : List Addr) (it : Addr) (tn : Nat → Heap → Prop) : Prop where
  mem : it ∈ fp
  obj : ∀ i h, tn i h → ∀ b ∈ fp, ∃ o, h.get? b = some o ∧ ∀ v, o.data ≠ .cell v
  keep : ∀ i h h', tn i h → (∀ b ∈ fp, ∀ o, h.get? b = some o → h'.get? b = some o) → tn i h'
  item : ∀ (X : Cx), X.prog = P → X.w = w → X.K = K → X.calm = true → ∀ (i : Nat) (pins : List (Addr × Obj)) (s : Shared) (σ : St) (H : Hp) (E : Value → Shared → Prop), Inv X pins σ H s → (∀ b ∈ fp, FpOk X pins H b) → tn i s.heap → J.go i H →
    wpAny (model P w) X.A (pyNext (.ref it)) (fun r s1 => ∃ u, r = some u ∧
      wpAny (model P w) X.A (letOwnedTupleGo tg (.ref it) u) (fun _ s2 => ∃ x H', Inv X pins σ H' s2 ∧ RelV x u ∧ J.yld i H x H' ∧ tn (i + 1) s2.heap ∧ ∀ b ∈ fp, H' b = none) E s1) E s
  done : ∀ (X : Cx), X.prog = P → X.w = w → X.K = K → X.calm = true → ∀ (i : Nat) (pins : List (Addr × Obj)) (s : Shared) (σ : St) (H : Hp) (E : Value → Shared → Prop), Inv X pins σ H s → (∀ b ∈ fp, FpOk X pins H b) → tn i s.heap → J.stop i H →
    wpAny (model P w) X.A (pyNext (.ref it)) (fun r s1 => r = none ∧ Inv X pins σ H s1) E s
  self : ∀ (A : Around) (i : Nat) (s : Shared) (Q : Value → Shared → Prop) (E : Value → Shared → Prop), tn i s.heap → Q (.ref it) s → wpAny (model P w) A (pyIter (.ref it)) Q E s
abbrev TI := St → Hp → (It → Hp → Prop) → Prop
def PIE (X : Cx) (pins : List (Addr × Obj)) (σ : St) (tg : Expr) (R : It → Hp → Prop) (itv : Value) (s2 : Shared) : Prop :=
  ∃ (it : Addr) (fp : List Addr) (tn : Nat → Heap → Prop) (J : It) (H' : Hp), itv = .ref it ∧ Inv X pins σ H' s2 ∧ Turn X.prog X.w X.K tg J fp it tn ∧ tn 0 s2.heap ∧ (∀ b ∈ fp, FpOk X pins H' b) ∧ R J H'
def PI (X : Cx) (tg iter : Expr) (wi : TI) : Prop :=
  ∀ (pins : List (Addr × Obj)) (s : Shared) (σ : St) (H : Hp) (R : It → Hp → Prop), Inv X pins σ H s → wi σ H R →
    wpAny (model X.prog X.w) X.A (eval iter X.env) (fun v s1 => wpAny (model X.prog X.w) X.A (pyIter v) (PIE X pins σ tg R) X.xe s1) X.xe s

theorem go_of {M : Model} {A : Around} {E : Value → Shared → Prop} {s : Shared} {tg : Expr} {it : Addr} {u : Value} {o : Obj} {n : String} {vs : Array Value} {Q : Unit → Shared → Prop} (ho : s.heap.get? it = some o) (hc : o.cls = .type n) (hd : o.data = .fields vs)
    (hn : ["enumerate", "zip", "dict_itemiterator", "dict_reverseitemiterator", "odict_iterator", "itertools.zip_longest", "itertools.pairwise"].contains n = false) (hQ : Q () s) : wpAny M A (letOwnedTupleGo tg (.ref it) u) Q E s := by
  unfold letOwnedTupleGo
  cases tg <;> first
    | exact wpAny_pure hQ
    | (cases u <;> first
        | exact wpAny_pure hQ
        | (refine wpAny_bind (wpAny_load ho ?_)
           rw [hc, hd]
           show wpAny M A (if (["enumerate", "zip", "dict_itemiterator", "dict_reverseitemiterator", "odict_iterator", "itertools.zip_longest", "itertools.pairwise"].contains n && vs[0]? == some (rawInt _)) = true then _ else _) Q E s
           rw [if_neg (by intro h; rw [hn, Bool.false_and] at h; cases h)]
           exact wpAny_pure hQ))

def Itl (K : PySem.W.Frag) (a : Addr) : It :=
  ⟨fun i H => ∃ xs x, SqL K H a xs ∧ xs[i]? = some x, fun i H x H' => H' = H ∧ ∀ xs, SqL K H a xs → xs[i]? = some x, fun i H => ∃ xs, SqL K H a xs ∧ xs.length ≤ i⟩
def Itt (K : PySem.W.Frag) (a : Addr) : It :=
  ⟨fun i H => ∃ xs x, SqT K H a xs ∧ xs[i]? = some x, fun i H x H' => H' = H ∧ ∀ xs, SqT K H a xs → xs[i]? = some x, fun i H => ∃ xs, SqT K H a xs ∧ xs.length ≤ i⟩
def Itr (lo : Int) (n : Nat) : It := ⟨fun i _ => i < n, fun i H x H' => H' = H ∧ x = .int (lo + i), fun i _ => n ≤ i⟩
theorem turn_list {P : Program} {w : World} {K : PySem.W.Frag} {tg : Expr} (a it : Addr) : Turn P w K tg (Itl K a) [it] it (fun i h => h.IsListIter it a i) where
  mem := by simp
  obj := fun i h st b hb => by
    have e : b = it := by simpa using hb
    subst e
    obtain ⟨o, e, c, d⟩ := st
    exact ⟨o, e, fun v z => by rw [d] at z; cases z⟩
  keep := fun i h h' st k => st.at fun o e => k it (by simp) o e
  item := by
    intro X hP hw hK hc i pins s σ H E I hf st hg
    subst hP hw hK
    obtain ⟨xs, x, hq, hx⟩ := hg
    obtain ⟨its, rv, p, hz⟩ := I.list hq
    obtain ⟨u, hu, ru⟩ := rv.get hx
    obtain ⟨f0, f1, f2, f3, f4, f5⟩ := hf it (by simp)
    refine wpAny_pyNext_list_item st p.isList (x := u) (by simpa using hu) fun h' st' sb => ?_
    have I1 : Inv X pins σ H { s with heap := h' } := I.turned (t' := s.toks) (fun b o hb e => (sb.2 b hb).trans e) f0 f1 f3 f4 f5
    obtain ⟨o, e, c, d⟩ := id st'
    exact ⟨u, rfl, go_of (s := { s with heap := h' }) e c d (by decide) ⟨x, H, I1, ru, ⟨rfl, fun ys hy => by rw [I.list_inj hy hq]; exact hx⟩, st', fun b hb => (hf b hb).1⟩⟩
  done := by
    intro X hP hw hK hc i pins s σ H E I hf st hg
    subst hP hw hK
    obtain ⟨xs, hq, hx⟩ := hg
    obtain ⟨its, rv, p, hz⟩ := I.list hq
    obtain ⟨f0, f1, f2, f3, f4, f5⟩ := hf it (by simp)
    have hl := rv.length
    exact wpAny_pyNext_list_end (I.ok.hd hc) st p.isList (by simp; omega) fun h' eb => ⟨rfl, I.turned (t' := s.toks) (fun b o hb e => eb b o hb e) f0 f1 f3 f4 f5⟩
  self := fun _ _ _ _ _ st h => wpAny_pyIter_listiter st h
theorem turn_tuple {P : Program} {w : World} {K : PySem.W.Frag} {tg : Expr} (a it : Addr) : Turn P w K tg (Itt K a) [it] it (fun i h => h.IsTupleIter it a i) where
  mem := by simp
  obj := fun i h st b hb => by
    have e : b = it := by simpa using hb
    subst e
    obtain ⟨o, e, c, d⟩ := st
    exact ⟨o, e, fun v z => by rw [d] at z; cases z⟩
  keep := fun i h h' st k => st.at fun o e => k it (by simp) o e
  item := by
    intro X hP hw hK hc i pins s σ H E I hf st hg
    subst hP hw hK
    obtain ⟨xs, x, hq, hx⟩ := hg
    obtain ⟨its, rv, p, hz⟩ := I.tuple hq
    obtain ⟨u, hu, ru⟩ := rv.get hx
    obtain ⟨f0, f1, f2, f3, f4, f5⟩ := hf it (by simp)
    refine wpAny_pyNext_tuple_item st (show s.heap.IsTuple a its.toArray from p) (x := u) (by simpa using hu) fun h' st' sb => ?_
    have I1 : Inv X pins σ H { s with heap := h' } := I.turned (t' := s.toks) (fun b o hb e => (sb.2 b hb).trans e) f0 f1 f3 f4 f5
    obtain ⟨o, e, c, d⟩ := id st'
    exact ⟨u, rfl, go_of (s := { s with heap := h' }) e c d (by decide) ⟨x, H, I1, ru, ⟨rfl, fun ys hy => by rw [I.tuple_inj hy hq]; exact hx⟩, st', fun b hb => (hf b hb).1⟩⟩
  done := by
    intro X hP hw hK hc i pins s σ H E I hf st hg
    subst hP hw hK
    obtain ⟨xs, hq, hx⟩ := hg
    obtain ⟨its, rv, p, hz⟩ := I.tuple hq
    obtain ⟨f0, f1, f2, f3, f4, f5⟩ := hf it (by simp)
    have hl := rv.length
    exact wpAny_pyNext_tuple_end (I.ok.hd hc) st (show s.heap.IsTuple a its.toArray from p) (by simp; omega) fun h' eb => ⟨rfl, I.turned (t' := s.toks) (fun b o hb e => eb b o hb e) f0 f1 f3 f4 f5⟩
  self := fun _ _ _ _ _ st h => wpAny_pyIter_tupleiter st h
theorem turn_range {P : Program} {w : World} {K : PySem.W.Frag} {tg : Expr} (it : Addr) (lo : Int) (n : Nat) : Turn P w K tg (Itr lo n) [it] it (fun i h => IsRangeIter h it (lo + (i : Nat) * 1) ((n : Int) - (i : Nat)) 1) where
  mem := by simp
  obj := fun i h st b hb => by
    have e : b = it := by simpa using hb
    subst e
    exact ⟨_, st, fun v z => by
      have z' : Data.fields _ = Data.cell v := z
      cases z'⟩
  keep := fun i h h' st k => k it (by simp) _ st
  item := by
    intro X hP hw hK hc i pins s σ H E I hf st hg
    subst hP hw hK
    obtain ⟨f0, f1, f2, f3, f4, f5⟩ := hf it (by simp)
    have W := Walks.range (prog := X.prog) (w := X.w) (I.ok.hd hc) it lo 1 n
    refine W.item i s _ _ hg st fun v h' tk hv st' kk => ?_
    obtain ⟨t, rfl⟩ := hv
    have I1 : Inv X pins σ H { s with heap := h', toks := tk } := I.turned (fun b o hb e => kk b o (by simpa using hb) e) f0 f1 f3 f4 f5
    refine ⟨_, rfl, go_of (s := { s with heap := h', toks := tk }) (n := "range_iterator") st' rfl rfl (by decide) ⟨.int (lo + i), H, I1, ⟨t, ?_⟩, ⟨rfl, rfl⟩, st', fun b hb => (hf b hb).1⟩⟩
    rw [Int.mul_one]
  done := by
    intro X hP hw hK hc i pins s σ H E I hf st hg
    subst hP hw hK
    obtain ⟨f0, f1, f2, f3, f4, f5⟩ := hf it (by simp)
    exact wpAny_pyNext_range_end (I.ok.hd hc) st (by have : n ≤ i := hg; omega) fun h' eb => ⟨rfl, I.turned (t' := s.toks) (fun b o hb e => eb b o hb e) f0 f1 f3 f4 f5⟩
  self := fun _ _ _ _ _ st h => wpAny_pyIter_rangeiter st h
end L2

namespace L2
open PySem PySem.Spec PyProof.Rows
section
variable {X : Cx} {tg : Expr}
def iList (K : PySem.W.Frag) (tl : TE) : TI := fun σ H R => tl σ H fun x H1 => ∃ a, x = .ref a ∧ (∃ xs, SqL K H1 a xs) ∧ R (Itl K a) H1
def iTup (K : PySem.W.Frag) (tl : TE) : TI := fun σ H R => tl σ H fun x H1 => ∃ a, x = .ref a ∧ (∃ xs, SqT K H1 a xs) ∧ R (Itt K a) H1
theorem pi_list {l : Expr} {tl : TE} (hl : PE X l tl) : PI X tg l (iList X.K tl) := by
  intro pins s σ H R I h
  refine thn (hl pins s σ H _ I h) fun v s1 ⟨x, H1, I1, r1, q1⟩ => ?_
  obtain ⟨a, e, ⟨xs, hq⟩, q⟩ := q1
  subst e
  cases r1
  obtain ⟨its, rv, p, hz⟩ := I1.list hq
  refine wpAny_pyIter_list p.isList ?_
  refine ⟨s1.heap.objs.size, [s1.heap.objs.size], _, _, H1, rfl, I1.kept (t' := s1.toks) fun b o e => Heap.get?_push_of_some _ e, turn_list a _, ⟨_, Heap.get?_push_size _ rfl, rfl, rfl⟩, fun b hb => ?_, q⟩
  have e : b = s1.heap.objs.size := by simpa using hb
  subst e
  exact I1.fpOk (Nat.le_refl _) (I1.hok.fresh (Nat.le_refl _))
theorem pi_tup {l : Expr} {tl : TE} (hl : PE X l tl) : PI X tg l (iTup X.K tl) := by
  intro pins s σ H R I h
  refine thn (hl pins s σ H _ I h) fun v s1 ⟨x, H1, I1, r1, q1⟩ => ?_
  obtain ⟨a, e, ⟨xs, hq⟩, q⟩ := q1
  subst e
  cases r1
  obtain ⟨its, rv, p, hz⟩ := I1.tuple hq
  refine wpAny_pyIter_tuple (show s1.heap.IsTuple a its.toArray from p) ?_
  refine ⟨s1.heap.objs.size, [s1.heap.objs.size], _, _, H1, rfl, I1.kept (t' := s1.toks) fun b o e => Heap.get?_push_of_some _ e, turn_tuple a _, ⟨_, Heap.get?_push_size _ rfl, rfl, rfl⟩, fun b hb => ?_, q⟩
  have e : b = s1.heap.objs.size := by simpa using hb
  subst e
  exact I1.fpOk (Nat.le_refl _) (I1.hok.fresh (Nat.le_refl _))
theorem range_it {pins : List (Addr × Obj)} {σ : St} {H : Hp} {s : Shared} {R : It → Hp → Prop} {E : Value → Shared → Prop} {lo hi : Int} {t u v : Tok} {tk : Nat} (I : Inv X pins σ H s) (h1 : -(2 ^ 62) ≤ lo) (h2 : lo < 2 ^ 62) (h3 : -(2 ^ 62) ≤ hi) (h4 : hi < 2 ^ 62)
    (q : R (Itr lo (hi - lo).toNat) H) : wpAny (model X.prog X.w) X.A (pyIter (.ref s.heap.objs.size)) (PIE X pins σ tg R) E { s with heap := s.heap.push { cls := .type "range", data := .fields #[.int lo t, .int hi u, .int 1 v] }, toks := tk } := by
  refine wpAny_pyIter_range (IsRange.new ..) (small_one h1 h2 h3 h4) ?_
  have I1 : Inv X pins σ H { s with heap := s.heap.push { cls := .type "range", data := .fields #[.int lo t, .int hi u, .int 1 v] }, toks := tk } := I.kept fun b o e => Heap.get?_push_of_some _ e
  refine ⟨(s.heap.push { cls := .type "range", data := .fields #[.int lo t, .int hi u, .int 1 v] }).objs.size, [(s.heap.push { cls := .type "range", data := .fields #[.int lo t, .int hi u, .int 1 v] }).objs.size], _, _, H, rfl,
    I1.kept (t' := tk) fun b o e => Heap.get?_push_of_some _ e, turn_range _ lo (hi - lo).toNat, ?_, fun b hb => ?_, q⟩
  · have e1 : lo + ((0 : Nat) : Int) * 1 = lo := by simp
    have e2 : (((hi - lo).toNat : Nat) : Int) - ((0 : Nat) : Int) = Builtin.Range.rangeSize lo hi 1 := by rw [rangeSize_one]; split <;> omega
    show IsRangeIter _ _ (lo + ((0 : Nat) : Int) * 1) ((((hi - lo).toNat : Nat) : Int) - ((0 : Nat) : Int)) 1
    rw [e1, e2]
    exact Heap.get?_push_size _ rfl
  · have e : b = (s.heap.push { cls := .type "range", data := .fields #[.int lo t, .int hi u, .int 1 v] }).objs.size := by simpa using hb
    subst e
    exact I1.fpOk (Nat.le_refl _) (I1.hok.fresh (Nat.le_refl _))
def iRng1 (ta : TA) : TI := fun σ H R => ta σ H fun vs H1 => ∃ j : Int, vs = [.int j] ∧ -(2 ^ 62) ≤ j ∧ j < 2 ^ 62 ∧ R (Itr 0 j.toNat) H1
theorem pi_range1 {a : Expr} {ta : TA} {p pos : Pos} (hg : Gl X "range") (hm : X.mg "range" = none) (ha : PA X [a] ta) (hs : starEach [a] X.env = [(false, eval a X.env)] := by rfl) : PI X tg (.Call (.Name "range" p) [a] [] pos) (iRng1 ta) := by
  intro pins s σ H R I h
  refine Call_ (ld_blt I hg hm boot_range (PyProof.Rows.callWith_type1 (thn (ha pos pins s σ H _ I h) fun us s1 ⟨vs, H1, I1, r1, q1⟩ => ?_) hs rfl))
  obtain ⟨j, e, q1, q2, q⟩ := q1
  subst e
  cases r1 with
  | cons r rr =>
    cases rr
    obtain ⟨t, rfl⟩ := r
    exact call_range_1 (range_it I1 (by omega) (by omega) q1 q2 (by simpa using q))
/-! ### for -/
def tFor (wi : TI) (g : TG) (tb : TS) : TS := fun D σ H => wi σ H fun J H1 => ∃ W : Nat → Nat → St → Hp → Prop, (∃ m, W 0 m σ H1) ∧ ∀ i m σ H, W i m σ H →
  (J.stop i H ∧ D.nx σ H) ∨ (J.go i H ∧ ∃ N : St → Hp → Prop, (∀ σ' H', N σ' H' → ∃ m', m' < m ∧ W (i + 1) m' σ' H') ∧ ∀ x H', J.yld i H x H' → g x σ H' fun σ2 H2 => tb { D with nx := N, ct := N, bk := D.nx } σ2 H2)
def pinsAt (fp : List Addr) (h : Heap) : List (Addr × Obj) := fp.filterMap fun b => (h.get? b).map fun o => (b, o)
theorem mem_pinsAt {fp : List Addr} {h : Heap} {b : Addr} {o : Obj} (hb : b ∈ fp) (e : h.get? b = some o) : (b, o) ∈ pinsAt fp h := List.mem_filterMap.mpr ⟨b, hb, by rw [e]; rfl⟩
theorem of_pinsAt {fp : List Addr} {h : Heap} {p : Addr × Obj} (hp : p ∈ pinsAt fp h) : p.1 ∈ fp ∧ h.get? p.1 = some p.2 := by
  obtain ⟨b, hb, e⟩ := List.mem_filterMap.mp hp
  cases q : h.get? b with
  | none => rw [q] at e; cases e
  | some o =>
    rw [q] at e
    have e' : (b, o) = p := Option.some.inj e
    subst e'
    exact ⟨hb, q⟩
theorem Inv.pinned {pins : List (Addr × Obj)} {σ : St} {H : Hp} {s : Shared} {fp : List Addr} (I : Inv X pins σ H s) (hf : ∀ b ∈ fp, FpOk X pins H b) (ho : ∀ b ∈ fp, ∃ o, s.heap.get? b = some o ∧ ∀ v, o.data ≠ .cell v) : Inv X (pins ++ pinsAt fp s.heap) σ H s :=
  I.pins_of fun p hp => (List.mem_append.mp hp).elim (fun z => I.pin p (List.mem_append_right _ z)) fun z => by
    obtain ⟨hb, e⟩ := of_pinsAt z
    obtain ⟨f0, f1, f2, _⟩ := hf p.1 hb
    obtain ⟨o, e', d⟩ := ho p.1 hb
    rw [e] at e'; cases e'
    exact ⟨e, f0, f1, f2, d⟩
theorem Inv.unpinned {pins pl : List (Addr × Obj)} {σ : St} {H : Hp} {s : Shared} (I : Inv X (pins ++ pl) σ H s) : Inv X pins σ H s := I.pins_of fun p hp => I.pin p (List.mem_append_right _ (List.mem_append_left _ hp))
theorem ps_for {iter : Expr} {body : List Stmt} {wi : TI} {g : TG} {tb : TS} {pos : Pos} (hp : PassesOwn (model X.prog X.w) X.A X.env X.xe) (hc : X.calm = true) (hi : PI X tg iter wi) (hg : PG X tg g) (hb : PSs X body tb)
    (hs : ∀ x, foldedSetIterable iter X.env x = pure x := by intro _; rfl) : PS X (.For tg iter body [] pos) (tFor wi g tb) := by
  intro pins s σ H D I h
  refine wpAny_For (thn (hi pins s σ H _ I h) fun v s1 h1 => thn h1 fun itv s2 h2 => ?_) hs
  obtain ⟨it, fp, tn, J, H2, e, I2, T, st2, f2, W, ⟨m0, w0⟩, turn⟩ := h2
  subst e
  -- what stays true of the iterator's objects through the loop
  have stat : ∀ {H' : Hp}, (∀ b ∈ fp, H' b = none) → ∀ b ∈ fp, FpOk X pins H' b := fun hn b hb => ⟨hn b hb, (f2 b hb).2⟩
  refine codeAny_forLoop_any (fun n s' => ∃ i σ' H', Inv X pins σ' H' s' ∧ tn i s'.heap ∧ (∀ b ∈ fp, H' b = none) ∧ W i n σ' H') ?_ m0 ⟨0, σ, H2, I2, st2, fun b hb => (f2 b hb).1, w0⟩
  rintro n s3 ⟨i, σ3, H3, I3, st3, fr3, w3⟩
  rcases turn i n σ3 H3 w3 with ⟨stop, qn⟩ | ⟨go, N, hN, step⟩
  · refine wpAny_passesOwn hp (thn (T.done X rfl rfl rfl hc i pins s3 σ3 H3 X.xe I3 (stat fr3) st3 stop) fun r s4 ⟨hr, I4⟩ => ?_)
    subst hr
    exact wpAny_execs_nil ⟨σ3, H3, I4, qn⟩
  · refine wpAny_passesOwn hp (thn (T.item X rfl rfl rfl hc i pins s3 σ3 H3 X.xe I3 (stat fr3) st3 go) fun r s4 ⟨u, hr, h4⟩ => ?_)
    subst hr
    refine wpAny_passesOwn hp (thn h4 fun _ s5 ⟨x, H5, I5, r5, y5, st5, fr5⟩ => ?_)
    have I5' := I5.pinned (stat fr5) (T.obj _ _ st5)
    refine wpAny_passesOwn hp (thn (hg _ s5 σ3 H5 x u _ I5' r5 (step x H5 y5)) fun _ s6 ⟨σ6, H6, I6, q6⟩ => ?_)
    refine wpAny_passesOwn hp (thn (hb _ s6 σ6 H6 _ I6 q6) fun f s7 q7 => ?_)
    have again : ∀ {σ7 : St} {H7 : Hp}, Inv X (pins ++ pinsAt fp s5.heap) σ7 H7 s7 → N σ7 H7 → ∃ m, m < n ∧ ∃ i σ' H', Inv X pins σ' H' s7 ∧ tn i s7.heap ∧ (∀ b ∈ fp, H' b = none) ∧ W i m σ' H' := fun {σ7 H7} I7 n7 => by
      obtain ⟨m', hm, w7⟩ := hN σ7 H7 n7
      refine ⟨m', hm, i + 1, σ7, H7, I7.unpinned, T.keep _ _ _ st5 fun b hb o e => (I7.pin (b, o) (List.mem_append_right _ (List.mem_append_right _ (mem_pinsAt hb e)))).1, fun b hb => ?_, w7⟩
      obtain ⟨o, e, d⟩ := T.obj _ _ st5 b hb
      exact (I7.pin (b, o) (List.mem_append_right _ (List.mem_append_right _ (mem_pinsAt hb e)))).2.1
    cases f with
    | next => obtain ⟨σ7, H7, I7, n7⟩ := q7; exact again I7 n7
    | cont => obtain ⟨σ7, H7, I7, n7⟩ := q7; exact again I7 n7
    | brk => obtain ⟨σ7, H7, I7, q7⟩ := q7; exact ⟨σ7, H7, I7.unpinned, q7⟩
    | ret v => obtain ⟨x7, σ7, H7, I7, r7, q7⟩ := q7; exact ⟨x7, σ7, H7, I7.unpinned, r7, q7⟩
end

/-! ### the forms one uses -/
theorem for_list {K : PySem.W.Frag} {a : Addr} {xs : List V} {g : TG} {tb : TS} {D : Ends} {σ : St} {H : Hp} (Pv : Nat → St → Hp → Prop) (h0 : Pv 0 σ H) (hl : ∀ i σ H, i ≤ xs.length → Pv i σ H → SqL K H a xs)
    (hs : ∀ i x σ H, xs[i]? = some x → Pv i σ H → g x σ H fun σ2 H2 => tb { D with nx := Pv (i + 1), ct := Pv (i + 1), bk := D.nx } σ2 H2) (hd : ∀ σ H, Pv xs.length σ H → D.nx σ H) :
    ∃ W : Nat → Nat → St → Hp → Prop, (∃ m, W 0 m σ H) ∧ ∀ i m σ H, W i m σ H →
      ((Itl K a).stop i H ∧ D.nx σ H) ∨ ((Itl K a).go i H ∧ ∃ N : St → Hp → Prop, (∀ σ' H', N σ' H' → ∃ m', m' < m ∧ W (i + 1) m' σ' H') ∧ ∀ x H', (Itl K a).yld i H x H' → g x σ H' fun σ2 H2 => tb { D with nx := N, ct := N, bk := D.nx } σ2 H2) := by
  refine ⟨fun i m σ H => m = xs.length - i ∧ i ≤ xs.length ∧ Pv i σ H, ⟨xs.length, by simp, Nat.zero_le _, h0⟩, ?_⟩
  rintro i m σ H ⟨rfl, hi, p⟩
  have q := hl i σ H hi p
  by_cases hlt : i < xs.length
  · refine .inr ⟨⟨xs, xs[i], q, by simp [hlt]⟩, Pv (i + 1), fun σ' H' p' => ⟨xs.length - (i + 1), by omega, rfl, hlt, p'⟩, fun x H' y => ?_⟩
    obtain ⟨e, y⟩ := y
    subst e
    exact hs i x σ _ (y xs q) p
  · have e : i = xs.length := by omega
    subst e
    exact .inl ⟨⟨xs, q, Nat.le_refl _⟩, hd σ H p⟩
theorem for_tup {K : PySem.W.Frag} {a : Addr} {xs : List V} {g : TG} {tb : TS} {D : Ends} {σ : St} {H : Hp} (Pv : Nat → St → Hp → Prop) (h0 : Pv 0 σ H) (hl : ∀ i σ H, i ≤ xs.length → Pv i σ H → SqT K H a xs)
    (hs : ∀ i x σ H, xs[i]? = some x → Pv i σ H → g x σ H fun σ2 H2 => tb { D with nx := Pv (i + 1), ct := Pv (i + 1), bk := D.nx } σ2 H2) (hd : ∀ σ H, Pv xs.length σ H → D.nx σ H) :
    ∃ W : Nat → Nat → St → Hp → Prop, (∃ m, W 0 m σ H) ∧ ∀ i m σ H, W i m σ H →
      ((Itt K a).stop i H ∧ D.nx σ H) ∨ ((Itt K a).go i H ∧ ∃ N : St → Hp → Prop, (∀ σ' H', N σ' H' → ∃ m', m' < m ∧ W (i + 1) m' σ' H') ∧ ∀ x H', (Itt K a).yld i H x H' → g x σ H' fun σ2 H2 => tb { D with nx := N, ct := N, bk := D.nx } σ2 H2) := by
  refine ⟨fun i m σ H => m = xs.length - i ∧ i ≤ xs.length ∧ Pv i σ H, ⟨xs.length, by simp, Nat.zero_le _, h0⟩, ?_⟩
  rintro i m σ H ⟨rfl, hi, p⟩
  have q := hl i σ H hi p
  by_cases hlt : i < xs.length
  · refine .inr ⟨⟨xs, xs[i], q, by simp [hlt]⟩, Pv (i + 1), fun σ' H' p' => ⟨xs.length - (i + 1), by omega, rfl, hlt, p'⟩, fun x H' y => ?_⟩
    obtain ⟨e, y⟩ := y
    subst e
    exact hs i x σ _ (y xs q) p
  · have e : i = xs.length := by omega
    subst e
    exact .inl ⟨⟨xs, q, Nat.le_refl _⟩, hd σ H p⟩
theorem for_range {lo : Int} {n : Nat} {g : TG} {tb : TS} {D : Ends} {σ : St} {H : Hp} (Pv : Nat → St → Hp → Prop) (h0 : Pv 0 σ H)
    (hs : ∀ i σ H, i < n → Pv i σ H → g (.int (lo + i)) σ H fun σ2 H2 => tb { D with nx := Pv (i + 1), ct := Pv (i + 1), bk := D.nx } σ2 H2) (hd : ∀ σ H, Pv n σ H → D.nx σ H) :
    ∃ W : Nat → Nat → St → Hp → Prop, (∃ m, W 0 m σ H) ∧ ∀ i m σ H, W i m σ H →
      ((Itr lo n).stop i H ∧ D.nx σ H) ∨ ((Itr lo n).go i H ∧ ∃ N : St → Hp → Prop, (∀ σ' H', N σ' H' → ∃ m', m' < m ∧ W (i + 1) m' σ' H') ∧ ∀ x H', (Itr lo n).yld i H x H' → g x σ H' fun σ2 H2 => tb { D with nx := N, ct := N, bk := D.nx } σ2 H2) := by
  refine ⟨fun i m σ H => m = n - i ∧ i ≤ n ∧ Pv i σ H, ⟨n, by simp, Nat.zero_le _, h0⟩, ?_⟩
  rintro i m σ H ⟨rfl, hi, p⟩
  by_cases hlt : i < n
  · refine .inr ⟨hlt, Pv (i + 1), fun σ' H' p' => ⟨n - (i + 1), by omega, rfl, hlt, p'⟩, fun x H' y => ?_⟩
    obtain ⟨e, y⟩ := y
    subst e y
    exact hs i σ _ hlt p
  · have e : i = n := by omega
    subst e
    exact .inl ⟨Nat.le_refl _, hd σ H p⟩
end L2

namespace L2
open PySem PySem.Spec PyProof.Rows

abbrev R2 := V → V → Hp → VK → Prop
def OpR (X : Cx) (f : Value → Value → Sem Value) (r : R2) : Prop :=
  ∀ (pins : List (Addr × Obj)) (s : Shared) (σ : St) (H : Hp) (x y : V) (v u : Value) (Q : VK), Inv X pins σ H s → RelV x v → RelV y u → r x y H Q →
    wpAny (model X.prog X.w) X.A (f v u) (EP X pins σ Q) X.xe s
def UnR (X : Cx) (f : Value → Sem Value) (r : V → Hp → VK → Prop) : Prop :=
  ∀ (pins : List (Addr × Obj)) (s : Shared) (σ : St) (H : Hp) (x : V) (v : Value) (Q : VK), Inv X pins σ H s → RelV x v → r x H Q →
    wpAny (model X.prog X.w) X.A (f v) (EP X pins σ Q) X.xe s
def CallR (X : Cx) (f : Value) (r : List V → Hp → VK → Prop) : Prop :=
  ∀ (pins : List (Addr × Obj)) (s : Shared) (σ : St) (H : Hp) (xs : List V) (us : List Value) (Q : VK), Inv X pins σ H s → Vals xs us → r xs H Q →
    wpAny (model X.prog X.w) X.A (call f us) (EP X pins σ Q) X.xe s
def tOp (r : R2) (ta tb : TE) : TE := fun σ H Q => ta σ H fun x H1 => tb σ H1 fun y H2 => r x y H2 Q
def tUn (r : V → Hp → VK → Prop) (ta : TE) : TE := fun σ H Q => ta σ H fun x H1 => r x H1 Q
def rI (C : Int → Int → Prop) (g : Int → Int → V) : R2 := fun x y H Q => ∃ i j, x = .int i ∧ y = .int j ∧ C i j ∧ Q (g i j) H
def rI0 (g : Int → Int → V) : R2 := fun x y H Q => ∃ i j, x = .int i ∧ y = .int j ∧ Q (g i j) H
def rU (g : Int → V) : V → Hp → VK → Prop := fun x H Q => ∃ i, x = .int i ∧ Q (g i) H

section
variable {X : Cx} {a b c : Expr} {ta tb tc : TE} {pos : Pos}

theorem binT (ha : PE X a ta) (hb : PE X b tb) {pins : List (Addr × Obj)} {s : Shared} {σ : St} {H : Hp} {R : V → V → Hp → Prop} (I : Inv X pins σ H s)
    (h : ta σ H fun x H1 => tb σ H1 fun y H2 => R x y H2) {Q : Value → Shared → Prop} {f : Value → Value → Sem Value}
    (hf : ∀ v u s2 x y H2, Inv X pins σ H2 s2 → RelV x v → RelV y u → R x y H2 → wpAny (model X.prog X.w) X.A (f v u) Q X.xe s2) :
    wpAny (model X.prog X.w) X.A (eval a X.env) (fun v s₁ => wpAny (model X.prog X.w) X.A (eval b X.env) (fun u s₂ => wpAny (model X.prog X.w) X.A (f v u) Q X.xe s₂) X.xe s₁) X.xe s := by
  refine thn (ha pins s σ H _ I h) fun v s1 ⟨x, H1, I1, r1, q1⟩ => ?_
  refine thn (hb pins s1 σ H1 _ I1 q1) fun u s2 ⟨y, H2, I2, r2, q2⟩ => ?_
  exact hf v u s2 x y H2 I2 r1 r2 q2

theorem pe_op {op : Operator} {r : R2} (ho : OpR X (binaryOp op) r) (ha : PE X a ta) (hb : PE X b tb) : PE X (.BinOp a op b pos) (tOp r ta tb) := by
  intro pins s σ H Q I h
  exact wpAny_BinOp (binT ha hb I h fun v u s2 x y H2 I2 rx ry q => ho pins s2 σ H2 x y v u Q I2 rx ry q)
theorem pe_un {op : UnaryOp} {r : V → Hp → VK → Prop} (ho : UnR X (unaryOp op) r) (ha : PE X a ta) : PE X (.UnaryOp op a pos) (tUn r ta) := by
  intro pins s σ H Q I h
  exact UnaryOp_ (thn (ha pins s σ H _ I h) fun v s1 ⟨x, H1, I1, r1, q1⟩ => ho pins s1 σ H1 x v Q I1 r1 q1)
/-! ### ints -/
theorem opI {f : Value → Value → Sem Value} {C : Int → Int → Prop} {g : Int → Int → Int}
    (rule : ∀ (i j : Int) (t u : Tok) (s : Shared) (Q : Value → Shared → Prop) (E : Value → Shared → Prop), C i j → Q (.int (g i j) s.toks) { s with toks := s.toks + 1 } → wpAny (model X.prog X.w) X.A (f (.int i t) (.int j u)) Q E s) :
    OpR X f (rI C fun i j => .int (g i j)) := by
  intro pins s σ H x y v u Q I rx ry h
  obtain ⟨i, j, rfl, rfl, hc, q⟩ := h
  obtain ⟨t, rfl⟩ := rx
  obtain ⟨t', rfl⟩ := ry
  exact rule i j t t' s _ _ hc ⟨.int (g i j), H, I.tok _, ⟨_, rfl⟩, q⟩
theorem opI0 {f : Value → Value → Sem Value} {g : Int → Int → Int}
    (rule : ∀ (i j : Int) (t u : Tok) (s : Shared) (Q : Value → Shared → Prop) (E : Value → Shared → Prop), Q (.int (g i j) s.toks) { s with toks := s.toks + 1 } → wpAny (model X.prog X.w) X.A (f (.int i t) (.int j u)) Q E s) :
    OpR X f (rI0 fun i j => .int (g i j)) := by
  intro pins s σ H x y v u Q I rx ry h
  obtain ⟨i, j, rfl, rfl, q⟩ := h
  obtain ⟨t, rfl⟩ := rx
  obtain ⟨t', rfl⟩ := ry
  exact rule i j t t' s _ _ ⟨.int (g i j), H, I.tok _, ⟨_, rfl⟩, q⟩
theorem opB0 {f : Value → Value → Sem Value} {g : Int → Int → Bool}
    (rule : ∀ (i j : Int) (t u : Tok) (s : Shared) (Q : Value → Shared → Prop) (E : Value → Shared → Prop), Q (.bool (g i j)) s → wpAny (model X.prog X.w) X.A (f (.int i t) (.int j u)) Q E s) :
    OpR X f (rI0 fun i j => .bl (g i j)) := by
  intro pins s σ H x y v u Q I rx ry h
  obtain ⟨i, j, rfl, rfl, q⟩ := h
  obtain ⟨t, rfl⟩ := rx
  obtain ⟨t', rfl⟩ := ry
  exact rule i j t t' s _ _ ⟨.bl (g i j), H, I, rfl, q⟩

def CDiv (i j : Int) : Prop := 0 < j ∧ j < 1073741824
def CPow (i j : Int) : Prop := 0 ≤ j ∧ j ≤ 1000000 ∧ i.natAbs < 2 ^ 64
def CMul (i j : Int) : Prop := (-(2 ^ 64) < i ∧ i < 2 ^ 64) ∨ (-(2 ^ 64) < j ∧ j < 2 ^ 64)
theorem CMul.ok {i j : Int} (h : CMul i j) : IntMulOk i j := by
  rcases h with ⟨h1, h2⟩ | ⟨h1, h2⟩
  · exact .of_left (intBits_le_64 h1 h2)
  · exact .of_right (intBits_le_64 h1 h2)
theorem op_add : OpR X (binaryOp .Add) (rI0 fun i j => .int (i + j)) := opI0 fun _ _ _ _ _ _ _ q => add_int q
theorem op_sub : OpR X (binaryOp .Sub) (rI0 fun i j => .int (i - j)) := opI0 fun _ _ _ _ _ _ _ q => sub_int q
theorem op_mul : OpR X (binaryOp .Mult) (rI CMul fun i j => .int (i * j)) := opI fun _ _ _ _ _ _ _ hc q => mul_int q hc.ok
theorem op_fdiv : OpR X (binaryOp .FloorDiv) (rI CDiv fun i j => .int (i / j)) := opI fun i j _ _ _ _ _ hc q => by
  have h1 : (0 : Int) < j := hc.1
  have h2 : j < 1073741824 := hc.2
  exact floordiv_int (by omega) (by rw [Int.fdiv_eq_ediv_of_nonneg i (by omega)]; exact q) (.inl (PyProof.noPylong_small (by omega)))
theorem op_mod : OpR X (binaryOp .Mod) (rI (fun _ j => 0 < j) fun i j => .int (i % j)) := opI fun i j _ _ _ _ _ hc q => by
  have h1 : (0 : Int) < j := hc
  exact mod_int' (by omega) (by rw [Int.fmod_eq_emod_of_nonneg i (by omega)]; exact q)
theorem op_pow : OpR X (binaryOp .Pow) (rI CPow fun i j => .int (i ^ j.toNat)) := opI fun _ _ _ _ _ _ _ hc q => pow_int_small hc.1 hc.2.1 hc.2.2 q
theorem unI {f : Value → Sem Value} {g : Int → Int}
    (rule : ∀ (i : Int) (t : Tok) (s : Shared) (Q : Value → Shared → Prop) (E : Value → Shared → Prop), Q (.int (g i) s.toks) { s with toks := s.toks + 1 } → wpAny (model X.prog X.w) X.A (f (.int i t)) Q E s) :
    UnR X f (rU fun i => .int (g i)) := by
  intro pins s σ H x v Q I rx h
  obtain ⟨i, rfl, q⟩ := h
  obtain ⟨t, rfl⟩ := rx
  exact rule i t s _ _ ⟨.int (g i), H, I.tok _, ⟨_, rfl⟩, q⟩
theorem un_neg : UnR X (unaryOp .USub) (rU fun i => .int (-i)) := unI fun _ _ _ _ _ q => neg_int q
/-! ### bools among ints: n += (a < b) -/
end

/-! ### comparisons -/
def scal : V → V → Bool
  | .non, .non => true | .non, .int _ => true | .int _, .non => true | .non, .bl _ => true | .bl _, .non => true | .non, .str _ => true | .str _, .non => true
  | .int _, .int _ => true | .bl _, .bl _ => true | .str _, .str _ => true | .byt _, .byt _ => true
  | .int _, .str _ => true | .str _, .int _ => true | .bl _, .str _ => true | .str _, .bl _ => true
  | _, _ => false
def rEq : R2 := fun x y H Q => scal x y = true ∧ Q (.bl (decide (x = y))) H
def rNe : R2 := fun x y H Q => scal x y = true ∧ Q (.bl (!decide (x = y))) H

theorem dec_int {i j : Int} : decide (V.int i = V.int j) = (i == j) := by
  rw [Bool.eq_iff_iff]
  simp
theorem dec_bl {i j : Bool} : decide (V.bl i = V.bl j) = (i == j) := by
  rw [Bool.eq_iff_iff]
  simp
theorem dec_str {i j : Str} : decide (V.str i = V.str j) = (i == j) := by
  rw [Bool.eq_iff_iff]
  simp
theorem dec_byt {i j : Array UInt8} : decide (V.byt i = V.byt j) = (i.toList == j.toList) := by
  rw [Bool.eq_iff_iff]
  cases i
  cases j
  simp

section
variable {X : Cx} {a b c : Expr} {ta tb tc : TE} {pos : Pos}
theorem fin_bl {pins : List (Addr × Obj)} {σ : St} {H : Hp} {s : Shared} {Q : VK} {k k' : Bool} (I : Inv X pins σ H s) (q : Q (.bl k) H) (e : k = k') : EP X pins σ Q (.bool k') s := by
  subst e
  exact ⟨.bl k, H, I, rfl, q⟩
theorem op_eq : OpR X (compareOp .Eq) rEq := by
  intro pins s σ H x y v u Q I rx ry h
  obtain ⟨hs, q⟩ := h
  cases x with
  | non =>
    cases rx
    cases y with
    | non => cases ry; exact PySem.EqNone.eq_none_none (fin_bl I q (by simp))
    | bl j => cases ry; exact PySem.EqNone.eq_none_bool (fin_bl I q (by simp))
    | int j => obtain ⟨t', rfl⟩ := ry; exact PySem.EqNone.eq_none_int (fin_bl I q (by simp))
    | str j => obtain ⟨t', rfl⟩ := ry; exact PySem.EqNone.eq_none_str (fin_bl I q (by simp))
    | _ => exact absurd (show false = true from hs) Bool.false_ne_true
  | bl i =>
    cases rx
    cases y with
    | non => cases ry; exact PySem.EqNone.eq_bool_none (fin_bl I q (by simp))
    | bl j => cases ry; exact eq_bool (fin_bl I q dec_bl)
    | str j => obtain ⟨t', rfl⟩ := ry; exact PySem.EqMixed.eq_bool_str (fin_bl I q (by simp))
    | _ => exact absurd (show false = true from hs) Bool.false_ne_true
  | int i =>
    obtain ⟨t, rfl⟩ := rx
    cases y with
    | non => cases ry; exact PySem.EqNone.eq_int_none (fin_bl I q (by simp))
    | int j => obtain ⟨t', rfl⟩ := ry; exact eq_int (fin_bl I q dec_int)
    | str j => obtain ⟨t', rfl⟩ := ry; exact PySem.EqMixed.eq_int_str (fin_bl I q (by simp))
    | _ => exact absurd (show false = true from hs) Bool.false_ne_true
  | str i =>
    obtain ⟨t, rfl⟩ := rx
    cases y with
    | non => cases ry; exact PySem.EqNone.eq_str_none (fin_bl I q (by simp))
    | bl j => cases ry; exact PySem.EqMixed.eq_str_bool (fin_bl I q (by simp))
    | int j => obtain ⟨t', rfl⟩ := ry; exact PySem.EqMixed.eq_str_int (fin_bl I q (by simp))
    | str j => obtain ⟨t', rfl⟩ := ry; exact eq_str (fin_bl I q dec_str)
    | _ => exact absurd (show false = true from hs) Bool.false_ne_true
  | byt i =>
    obtain ⟨t, rfl⟩ := rx
    cases y with
    | byt j => obtain ⟨t', rfl⟩ := ry; exact PySem.W.eq_bytes (fin_bl I q dec_byt)
    | _ => exact absurd (show false = true from hs) Bool.false_ne_true
  | _ => cases y <;> exact absurd (show false = true from hs) Bool.false_ne_true
theorem op_ne : OpR X (compareOp .NotEq) rNe := by
  intro pins s σ H x y v u Q I rx ry h
  obtain ⟨hs, q⟩ := h
  cases x with
  | non =>
    cases rx
    cases y with
    | non => cases ry; exact PySem.EqNone.ne_none_none (fin_bl I q (by simp))
    | bl j => cases ry; exact PySem.EqNone.ne_none_bool (fin_bl I q (by simp))
    | int j => obtain ⟨t', rfl⟩ := ry; exact PySem.EqNone.ne_none_int (fin_bl I q (by simp))
    | str j => obtain ⟨t', rfl⟩ := ry; exact PySem.EqNone.ne_none_str (fin_bl I q (by simp))
    | _ => exact absurd (show false = true from hs) Bool.false_ne_true
  | bl i =>
    cases rx
    cases y with
    | non => cases ry; exact PySem.EqNone.ne_bool_none (fin_bl I q (by simp))
    | bl j => cases ry; exact ne_bool (fin_bl I q (congrArg not dec_bl))
    | str j => obtain ⟨t', rfl⟩ := ry; exact PySem.EqMixed.ne_bool_str (fin_bl I q (by simp))
    | _ => exact absurd (show false = true from hs) Bool.false_ne_true
  | int i =>
    obtain ⟨t, rfl⟩ := rx
    cases y with
    | non => cases ry; exact PySem.EqNone.ne_int_none (fin_bl I q (by simp))
    | int j => obtain ⟨t', rfl⟩ := ry; exact ne_int (fin_bl I q (congrArg not dec_int))
    | str j => obtain ⟨t', rfl⟩ := ry; exact PySem.EqMixed.ne_int_str (fin_bl I q (by simp))
    | _ => exact absurd (show false = true from hs) Bool.false_ne_true
  | str i =>
    obtain ⟨t, rfl⟩ := rx
    cases y with
    | non => cases ry; exact PySem.EqNone.ne_str_none (fin_bl I q (by simp))
    | bl j => cases ry; exact PySem.EqMixed.ne_str_bool (fin_bl I q (by simp))
    | int j => obtain ⟨t', rfl⟩ := ry; exact PySem.EqMixed.ne_str_int (fin_bl I q (by simp))
    | str j => obtain ⟨t', rfl⟩ := ry; exact ne_str (fin_bl I q (congrArg not dec_str))
    | _ => exact absurd (show false = true from hs) Bool.false_ne_true
  | byt i =>
    obtain ⟨t, rfl⟩ := rx
    cases y with
    | byt j => obtain ⟨t', rfl⟩ := ry; exact PySem.W.ne_bytes (fin_bl I q (congrArg not dec_byt))
    | _ => exact absurd (show false = true from hs) Bool.false_ne_true
  | _ => cases y <;> exact absurd (show false = true from hs) Bool.false_ne_true

theorem op_lt : OpR X (compareOp .Lt) (rI0 fun i j => .bl (decide (i < j))) := opB0 fun _ _ _ _ _ _ _ q => lt_int q
theorem op_gt : OpR X (compareOp .Gt) (rI0 fun i j => .bl (decide (j < i))) := opB0 fun _ _ _ _ _ _ _ q => gt_int q
theorem op_ge : OpR X (compareOp .GtE) (rI0 fun i j => .bl (decide (j ≤ i))) := opB0 fun _ _ _ _ _ _ _ q => ge_int q
theorem op_isN : OpR X (compareOp .Is) (fun x y H Q => y = .non ∧ Q (.bl (decide (x = .non))) H) := by
  intro pins s σ H x y v u Q I rx ry h
  obtain ⟨rfl, q⟩ := h
  cases ry
  refine is_none_gen (fin_bl I q ?_)
  cases x <;> first
    | (cases rx; rfl)
    | (obtain ⟨t, rfl⟩ := rx; rfl)
theorem OpR.or {f : Value → Value → Sem Value} {r r' : R2} (h : OpR X f r) (h' : OpR X f r') : OpR X f (fun x y H Q => r x y H Q ∨ r' x y H Q) := by
  intro pins s σ H x y v u Q I rx ry q
  rcases q with q | q
  · exact h pins s σ H x y v u Q I rx ry q
  · exact h' pins s σ H x y v u Q I rx ry q

theorem nomark (b : Expr) {op : CmpOp} (h : op ≠ .In := by decide) (h2 : op ≠ .NotIn := by decide) : behindInMarks op b = false := by
  have e1 : (op == CmpOp.In) = false := by cases op <;> first | rfl | exact absurd rfl h
  have e2 : (op == CmpOp.NotIn) = false := by cases op <;> first | rfl | exact absurd rfl h2
  cases b <;> simp [behindInMarks, e1, e2]
theorem pe_cmpR {op : CmpOp} {r : R2} (ho : OpR X (compareOp op) r) (ha : PE X a ta) (hb : PE X b tb) (hm : behindInMarks op b = false) : PE X (.Compare a [op] [b] pos) (tOp r ta tb) := by
  intro pins s σ H Q I h
  exact wpAny_Compare1 (binT ha hb I h fun v u s2 x y H2 I2 rx ry q => ho pins s2 σ H2 x y v u Q I2 rx ry q) hm
def tTest (t : TE) : TT := fun σ H Q => t σ H fun x H' => ∃ k, x = .bl k ∧ Q k H'
theorem pt_cmpR {op : CmpOp} {r : R2} (ho : OpR X (compareOp op) r) (ha : PE X a ta) (hb : PE X b tb) (hm : behindInMarks op b = false) : PT X (.Compare a [op] [b] pos) (tTest (tOp r ta tb)) := by
  intro pins s σ H Q I h
  refine wpAny_isTrue_Compare1 (thn (ha pins s σ H _ I h) fun v s1 ⟨x, H1, I1, r1, q1⟩ => thn (hb pins s1 σ H1 _ I1 q1) fun u s2 ⟨y, H2, I2, r2, q2⟩ =>
    thn (ho pins s2 σ H2 x y v u _ I2 r1 r2 q2) fun c s3 ⟨z, H3, I3, r3, k, e, q3⟩ => ?_) hm
  subst e
  cases r3
  exact wpAny_truthy_bool ⟨H3, I3, q3⟩
/-! ### truth -/
theorem line63 : (sizeLine : Nat) < 2 ^ 63 := by rw [sizeLine_eq]; decide
/-! ### strs and bytes -/
theorem op_add_str : OpR X (binaryOp .Add) (fun x y H Q => ∃ i j, x = .str i ∧ y = .str j ∧ i.length + j.length ≤ sizeLine ∧ Q (.str (i ++ j)) H) := by
  intro pins s σ H x y v u Q I rx ry h
  obtain ⟨i, j, rfl, rfl, hz, q⟩ := h
  obtain ⟨t, rfl⟩ := rx
  obtain ⟨t', rfl⟩ := ry
  exact add_str (fun t' tk => ⟨.str (i ++ j), H, I.tok _, ⟨_, rfl⟩, q⟩) hz
/-! ### scalar builtins, by CallR -/
theorem vals1 {x : V} {us : List Value} (r : Vals [x] us) : ∃ u, us = [u] ∧ RelV x u := by
  cases r with
  | cons r1 r2 => cases r2; exact ⟨_, rfl, r1⟩
theorem vals2 {x y : V} {us : List Value} (r : Vals [x, y] us) : ∃ u w', us = [u, w'] ∧ RelV x u ∧ RelV y w' := by
  cases r with
  | cons r1 r2 =>
    cases r2 with
    | cons r3 r4 => cases r4; exact ⟨_, _, rfl, r1, r3⟩
theorem call_abs : CallR X (.builtin "abs") (fun xs H Q => ∃ i, xs = [.int i] ∧ Q (.int (if i < 0 then -i else i)) H) := by
  intro pins s σ H xs us Q I r h
  obtain ⟨i, rfl, q⟩ := h
  obtain ⟨u, rfl, t, rfl⟩ := vals1 r
  exact call_abs_int fun u tk => ⟨.int (if i < 0 then -i else i), H, I.tok _, ⟨_, rfl⟩, q⟩
theorem call_max2 (hc : X.calm = true) : CallR X (.builtin "max") (fun xs H Q => ∃ i j, xs = [.int i, .int j] ∧ Q (.int (if j > i then j else i)) H) := by
  intro pins s σ H xs us Q I r h
  obtain ⟨i, j, rfl, q⟩ := h
  obtain ⟨u, w', rfl, ⟨t, rfl⟩, ⟨t', rfl⟩⟩ := vals2 r
  refine max_two_ints (I.ok.hd hc) fun h' tk k => ⟨_, H, I.kept k, ?_, q⟩
  by_cases hj : j > i
  · rw [if_pos hj, if_pos hj]; exact ⟨_, rfl⟩
  · rw [if_neg hj, if_neg hj]; exact ⟨_, rfl⟩
theorem call_min2 (hc : X.calm = true) : CallR X (.builtin "min") (fun xs H Q => ∃ i j, xs = [.int i, .int j] ∧ Q (.int (if j < i then j else i)) H) := by
  intro pins s σ H xs us Q I r h
  obtain ⟨i, j, rfl, q⟩ := h
  obtain ⟨u, w', rfl, ⟨t, rfl⟩, ⟨t', rfl⟩⟩ := vals2 r
  refine min_two_ints (I.ok.hd hc) fun h' tk k => ⟨_, H, I.kept k, ?_, q⟩
  by_cases hj : j < i
  · rw [if_pos hj, if_pos hj]; exact ⟨_, rfl⟩
  · rw [if_neg hj, if_neg hj]; exact ⟨_, rfl⟩
theorem call_int1 : CallR X (.type "int") (fun xs H Q => (∃ i, xs = [.int i] ∧ Q (.int i) H) ∨ ∃ k, xs = [.bl k] ∧ Q (.int (if k then 1 else 0)) H) := by
  intro pins s σ H xs us Q I r h
  rcases h with ⟨i, rfl, q⟩ | ⟨k, rfl, q⟩
  · obtain ⟨u, rfl, t, rfl⟩ := vals1 r
    exact call_int_int ⟨.int i, H, I, ⟨_, rfl⟩, q⟩
  · obtain ⟨u, rfl, r1⟩ := vals1 r
    cases r1
    exact call_int_bool ⟨.int (if k then 1 else 0), H, I.tok _, ⟨_, rfl⟩, q⟩
theorem call_divmod : CallR X (.builtin "divmod") (fun xs H Q => ∃ i j, xs = [.int i, .int j] ∧ CDiv i j ∧ ∀ p, H p = none → Q (.ref p) (upd H p (.tup [.int (i / j), .int (i % j)]))) := by
  intro pins s σ H xs us Q I r h
  obtain ⟨i, j, rfl, ⟨h1, h2⟩, q⟩ := h
  obtain ⟨u, w', rfl, ⟨t, rfl⟩, ⟨t', rfl⟩⟩ := vals2 r
  refine divmod_int (by omega) ?_ (.inl (PyProof.noPylong_small (by omega)))
  rw [Int.fdiv_eq_ediv_of_nonneg i (by omega), Int.fmod_eq_emod_of_nonneg i (by omega)]
  have hn : H s.heap.objs.size = none := I.hok.fresh (Nat.le_refl _)
  refine ⟨.ref s.heap.objs.size, _, ?_, rfl, q _ hn⟩
  refine I.laid (fun b o e => Heap.get?_push_of_some _ e) (Nat.le_refl _) ⟨by simp only [List.length_cons, List.length_nil]; rw [sizeLine_eq]; decide, [.int (i / j) s.toks, .int (i % j) (s.toks + 1)], .cons ⟨_, rfl⟩ (.cons ⟨_, rfl⟩ .nil), ?_⟩
  exact ⟨_, Heap.get?_push_size s.heap rfl, rfl, 0, rfl⟩
end
end L2

namespace L2
open PySem PySem.Spec PyProof.Rows

/-! ### an instance, its attributes a map -/
structure ObjM (h : Heap) (x dx C : Addr) (mA : Str → Option Value) : Prop where
  obj : h.get? x = some (PySem.W.instObj C dx)
  ns : h.Ns1 dx mA
  ne : dx ≠ x

theorem lookIn_ns {h : Heap} {dx : Addr} {mA : Str → Option Value} (n : h.Ns1 dx mA) : ∃ od, h.get? dx = some od ∧ ∀ name, PySem.W.lookIn name od = some (mA name) := by
  obtain ⟨o, es, ep, ho, hd, hk, _, hm⟩ := n
  refine ⟨o, ho, fun name => ?_⟩
  have e := hm name
  unfold nsFind findBy at e
  rw [← Array.find?_toList] at e
  unfold PySem.W.lookIn
  rw [hd]
  dsimp only
  split
  · rename_i y q
    rw [q] at e
    exact congrArg some e
  · rename_i q
    rw [q] at e
    have a : es.toList.any (·.refKey) = false := by
      rw [List.any_eq_false]
      intro y hy
      obtain ⟨z, t, hkey⟩ := hk y (Array.mem_toList_iff.mp hy)
      simp [DictEntry.refKey, hkey]
    have a' : ¬ es.toList.any (·.refKey) = true := by rw [a]; exact Bool.false_ne_true
    rw [if_neg a']
    exact congrArg some e

theorem ObjM.look {h : Heap} {x dx C : Addr} {mA : Str → Option Value} (I : ObjM h x dx C mA) : ∃ od, PySem.W.InstAt h x (PySem.W.instObj C dx) C (some od) ∧ ∀ name, PySem.W.lookIn name od = some (mA name) :=
  let ⟨od, ho, hl⟩ := lookIn_ns I.ns
  ⟨od, ⟨I.obj, rfl, rfl, ho⟩, hl⟩

section
variable {prog : Program} {w : World} {A : Around} {E : Value → Shared → Prop} {s : Shared} {K : PySem.W.Frag} {x dx C f : Addr} {mA : Str → Option Value} {name : Str} {v : Value}

end

/-! ### the attributes as a list of pairs -/
theorem RelO.none_of {o : Option Value} (r : RelO none o) : o = none := by
  cases o with
  | none => rfl
  | some u => exact (show False from r).elim
section
variable {P : Program} {w : World} {H H' : Hp} {h h' : Heap} {a C dx : Addr} {fs fs' : List (Str × V)}
end

/-! ### what of the text a class must have -/
structure Cls (K : PySem.W.Frag) (C : Addr) : Prop where
  pg : PySem.W.plainGet K C Str.empty = true
  hd : PySem.W.hasDictIn K C = true
  po : PySem.W.plainOver K C = true
  sa : PySem.W.findIn K (.ref C) "__setattr__" = some (some (.builtin "object.__setattr__"))
theorem Cls.get {K : PySem.W.Frag} {C : Addr} (c : Cls K C) (f : Str) : PySem.W.plainGet K C f = true := c.pg
structure Con (K : PySem.W.Frag) (C : Addr) (f : Str) (v : V) (u : Value) : Prop where
  at_ : PySem.W.findIn K (.ref C) f = some (some u)
  rel : RelV v u
  get : PySem.W.specialIn K u "__get__" = some none
  cp : PySem.W.copiedNames.contains f = false
structure Meth (K : PySem.W.Frag) (C : Addr) (m : Str) (f : Addr) : Prop where
  at_ : PySem.W.findIn K (.ref C) m = some (some (.ref f))
  fn : PySem.W.isFn K (.ref f) = true
  kp : PySem.W.keepIn K (.ref f) = true

section
variable {X : Cx} {pins : List (Addr × Obj)} {σ : St} {H : Hp} {s : Shared} {a C dx : Addr} {fs : List (Str × V)} {f : Str} {v : V} {A : Around} {E : Value → Shared → Prop}

theorem Inv.made (I : Inv X pins σ H s) : Inv X pins σ (upd (upd H s.heap.objs.size (.own (s.heap.objs.size + 1))) (s.heap.objs.size + 1) (.ins C s.heap.objs.size []))
    { s with heap := (s.heap.push PySem.W.emptyDict).push (PySem.W.instObj C s.heap.objs.size) } := by
  have e1 : (s.heap.push PySem.W.emptyDict).get? s.heap.objs.size = some PySem.W.emptyDict := Heap.get?_push_size s.heap rfl
  have e2 : ((s.heap.push PySem.W.emptyDict).push (PySem.W.instObj C s.heap.objs.size)).get? (s.heap.objs.size + 1) = some (PySem.W.instObj C s.heap.objs.size) := by
    have := Heap.get?_push_size (s.heap.push PySem.W.emptyDict) (o := PySem.W.instObj C s.heap.objs.size) rfl
    rwa [Heap.size_push] at this
  have e3 : (s.heap.push PySem.W.emptyDict).Ns s.heap.objs.size (fun _ => none) := ⟨PySem.W.emptyDict, #[], _, e1, rfl, (fun e he => absurd he (by simp)), fun _ => rfl⟩
  have I1 := I.laid (a := s.heap.objs.size) (o := .own (s.heap.objs.size + 1)) (h' := s.heap.push PySem.W.emptyDict) (t' := s.toks) (fun b u q => Heap.get?_push_of_some _ q) (Nat.le_refl _) ⟨_, e1⟩
  refine I1.laid (a := s.heap.objs.size + 1) (o := .ins C s.heap.objs.size []) (t' := s.toks) (fun b u q => Heap.get?_push_of_some _ q) (Nat.le_of_eq (Heap.size_push _ _)) ?_
  have ne : s.heap.objs.size ≠ s.heap.objs.size + 1 := Nat.ne_of_lt (Nat.lt_succ_self _)
  refine ⟨by rw [upd_ne ne, upd_same], Nat.zero_le _, ne, e2, fun _ => none, (Heap.Ns1.of_empty e3).at fun o q => Heap.get?_push_of_some _ q, fun _ => True.intro, fun y hy => absurd rfl hy⟩

end

/-! ### readings and rules -/
section
variable {X : Cx} {o e value : Expr} {f : Str} {pos pos' tpos : Pos} {ta tv : TE}
end

/-! ### isinstance -/
section
variable {X : Cx} {pins : List (Addr × Obj)} {σ : St} {H : Hp} {s : Shared} {A : Around} {E : Value → Shared → Prop} {Q : Value → Shared → Prop} {c : Value} {b : Bool}
inductive TyOf (K : PySem.W.Frag) (H : Hp) : V → Value → Prop where
  | non : TyOf K H .non (.type "NoneType")
  | bl (x : Bool) : TyOf K H (.bl x) (.type "bool")
  | int (i : Int) : TyOf K H (.int i) (.type "int")
  | str (x : Str) : TyOf K H (.str x) (.type "str")
  | flt (x : UInt64) : TyOf K H (.flt x) (.type "float")
  | lst {a : Addr} {xs : List V} (e : H a = some (.lst xs)) : TyOf K H (.ref a) (.type "list")
  | frz {a : Addr} {o : Obj} {xs : List V} (e : H a = some (.frz o (.lst xs))) : TyOf K H (.ref a) (.type "list")
  | tup {a : Addr} {xs : List V} (e : H a = some (.tup xs)) : TyOf K H (.ref a) (.type "tuple")
  | dK {a : Addr} {kvs : List (Key × V)} (e : H a = some (.dK kvs)) : TyOf K H (.ref a) (.type "dict")
  | dT {a : Addr} {kvs : List (List Key × V)} (e : H a = some (.dT kvs)) : TyOf K H (.ref a) (.type "dict")
  | ins {a C dx : Addr} {fs : List (Str × V)} (e : H a = some (.ins C dx fs)) (cl : Cls K C) (ha : PySem.W.findIn K (.ref C) "__class__" = some (some (.builtin "object.__class__")))
      (hn : PySem.W.specialIn K (.builtin "object.__class__") "__get__" = some (some (.builtin "getset_descriptor.__get__"))) (htk : PySem.W.takesIn K (.builtin "object.__class__") = some true)
      (hm : PySem.W.mroIn K C (.type "object") = some true) : TyOf K H (.ref a) (.ref C)
end
end L2

namespace L2
open PySem PySem.Spec PyProof.Rows

/-! ### room -/
structure Room (k : Nat) (A : Around) : Prop where
  hd : A.handled = none
  dp : A.depth + 3 * k + 5 < recursionLimit
  un : A.units + 16 * k + 200 < cLine
  gd : A.guards = some []
theorem Room.mono {j k : Nat} {A : Around} (r : Room k A) (h : j ≤ k) : Room j A := ⟨r.hd, by have := r.dp; omega, by have := r.un; omega, r.gd⟩
theorem Room.deeper {k : Nat} {A : Around} (r : Room (k + 1) A) (env : Env) : Room k (A.deeper env) :=
  ⟨r.hd, by have := r.dp; show A.depth + 1 + 3 * k + 5 < _; omega, by have := r.un; show A.units + 3 + 16 * k + 200 < _; omega, r.gd⟩
theorem Room.in1 {k : Nat} {A : Around} (r : Room (k + 1) A) : Room k A.in1 :=
  ⟨r.hd, by have := r.dp; show A.depth + 3 * k + 5 < _; omega, by have := r.un; show A.units + 1 + 16 * k + 200 < _; omega, r.gd⟩
theorem Room.depth {k : Nat} {A : Around} (r : Room k A) : A.depth < recursionLimit := by have := r.dp; omega
theorem Room.units {k : Nat} {A : Around} (r : Room k A) : A.units + 64 < cLine := by have := r.un; omega
theorem Room.units0 {k : Nat} {A : Around} (r : Room k A) : A.units < cLine := by have := r.un; omega

/-! ### argument lists and displays -/
def tNil : TA := fun _ H Q => Q [] H
def tCons (ta : TE) (tr : TA) : TA := fun σ H Q => ta σ H fun x H1 => tr σ H1 fun xs H2 => Q (x :: xs) H2
section
variable {X : Cx} {e : Expr} {es : List Expr} {te : TE} {t : TA} {pos : Pos}
theorem pa_nil : PA X [] tNil := fun _ _ _ _ H Q I h => Calls.spliced_nil ⟨[], H, I, .nil, h⟩
theorem pa_cons (ha : PE X e te) (hr : PA X es t) (hs : starEach (e :: es) X.env = (false, eval e X.env) :: starEach es X.env := by rfl) : PA X (e :: es) (tCons te t) := by
  intro pos pins s σ H Q I h
  rw [hs]
  show wpAny _ _ (spliced ((false, eval e X.env) :: backTo pos (starEach es X.env))) _ _ s
  refine Calls.spliced_cons (thn (ha pins s σ H _ I h) fun u s1 ⟨x, H1, I1, r1, q1⟩ => ?_)
  exact thn (hr pos pins s1 σ H1 _ I1 q1) fun us s2 ⟨xs, H2, I2, r2, q2⟩ => ⟨x :: xs, H2, I2, .cons r1 r2, q2⟩

def tTup (t : TA) : TE := fun σ H Q => t σ H fun xs H1 => xs.length ≤ sizeLine ∧ ∀ p, H1 p = none → Q (.ref p) (upd H1 p (.tup xs))
def tLst (t : TA) : TE := fun σ H Q => t σ H fun xs H1 => xs.length ≤ sizeLine ∧ ∀ p, H1 p = none → Q (.ref p) (upd H1 p (.lst xs))
theorem pe_tup {x1} (h : PA X es t) : PE X (.Tuple es x1 pos) (tTup t) := by
  intro pins s σ H Q I hq
  refine wpAny_Tuple_spliced (thn (h pos pins s σ H _ I hq) fun us s1 ⟨xs, H1, I1, r, z, q⟩ => ⟨by rw [← r.length]; exact z, ?_⟩)
  have hf : H1 s1.heap.objs.size = none := I1.hok.fresh (Nat.le_refl _)
  refine ⟨.ref s1.heap.objs.size, upd H1 s1.heap.objs.size (.tup xs), I1.laid (t' := s1.toks) (fun b u e => Heap.get?_push_of_some _ e) (Nat.le_refl _) ?_, rfl, q _ hf⟩
  exact ⟨z, us, r, ⟨_, Heap.get?_push_size _ rfl, rfl, _, rfl⟩⟩
theorem pe_lst (h : PA X es t) : PE X (.List es pos) (tLst t) := by
  intro pins s σ H Q I hq
  refine wpAny_List_spliced (thn (h pos pins s σ H _ I hq) fun us s1 ⟨xs, H1, I1, r, z, q⟩ => ⟨by rw [← r.length]; exact z, ?_⟩)
  have hf : H1 s1.heap.objs.size = none := I1.hok.fresh (Nat.le_refl _)
  refine ⟨.ref s1.heap.objs.size, upd H1 s1.heap.objs.size (.lst xs), I1.laid (t' := s1.toks) (fun b u e => Heap.get?_push_of_some _ e) (Nat.le_refl _) ?_, rfl, q _ hf⟩
  exact ⟨z, us, 0, r, Heap.get?_push_size _ rfl⟩
end

/-! ### what a def promises -/
abbrev Sp := List V → Hp → VK → XK → Prop
abbrev CXT := List Env → Hp → Shared → XK → Value → Shared → Prop

structure Env0 (P : Program) (w : World) (K : PySem.W.Frag) (mg : Str → Option Value) (base : Heap) (A : Around) (outer : List Env) (s : Shared) (H : Hp) : Prop where
  frames : A.frames = some outer
  mod : Mod K mg base
  bs : ∀ b o, base.get? b = some o → s.heap.get? b = some o ∧ H b = none
  bsz : base.objs.size ≤ s.heap.objs.size
  funs : s.heap.FunFrames base outer
  frf : ∀ b ∈ frs outer, H b = none
  hok : HOk P w H s.heap
  bare : AllBare s.gens
def CE (outer : List Env) (P : Program) (w : World) (H : Hp) (s : Shared) (Q : VK) (u : Value) (s' : Shared) : Prop :=
  ∃ v H', s'.os = s.os ∧ AllBare s'.gens ∧ Un (frs outer) [] H H' s.heap s'.heap ∧ HOk P w H' s'.heap ∧ RelV v u ∧ Q v H'
def CR (CX : CXT) (outer : List Env) (P : Program) (w : World) (H : Hp) (s : Shared) (Q : VK) (E : XK) (r : Result) (s' : Shared) : Prop :=
  match r with
  | .ok (.ret u) => CE outer P w H s Q u s'
  | .ok _ => False
  | .error e => CX outer H s E e s'
structure FnOk (P : Program) (w : World) (K : PySem.W.Frag) (mg : Str → Option Value) (base : Heap) (CX : CXT) (k : Nat) (f : Addr) (fd : FuncData) (ps : List Str) (sp : Sp) : Prop where
  len : ∀ vs H Q E, sp vs H Q E → vs.length = ps.length
  run : ∀ (A : Around) (outer : List Env) (s : Shared) (H : Hp) (args : Args) (us : List Value) (vs : List V) (Q : VK) (E : XK), Room k A → Env0 P w K mg base A outer s H → BindsTo s fd args (ps.zip us) → Vals vs us → sp vs H Q E →
    codeAny (model P w) A (.call (.ref f) args) (CR CX outer P w H s Q E) s
theorem FnOk.mono {P : Program} {w : World} {K : PySem.W.Frag} {mg : Str → Option Value} {base : Heap} {CX : CXT} {j k : Nat} {f : Addr} {fd : FuncData} {ps : List Str} {sp : Sp} (F : FnOk P w K mg base CX j f fd ps sp) (h : j ≤ k) :
    FnOk P w K mg base CX k f fd ps sp := ⟨F.len, fun A outer s H args us vs Q E hr => F.run A outer s H args us vs Q E (hr.mono h)⟩
theorem FnOk.imp {P : Program} {w : World} {K : PySem.W.Frag} {mg : Str → Option Value} {base : Heap} {CX : CXT} {k : Nat} {f : Addr} {fd : FuncData} {ps : List Str} {sp sp' : Sp} (F : FnOk P w K mg base CX k f fd ps sp)
    (h : ∀ vs H Q E, sp' vs H Q E → sp vs H Q E) : FnOk P w K mg base CX k f fd ps sp' :=
  ⟨fun vs H Q E q => F.len vs H Q E (h _ _ _ _ q), fun A outer s H args us vs Q E hr he hb hv hs => F.run A outer s H args us vs Q E hr he hb hv (h _ _ _ _ hs)⟩

theorem Env0.in1 {P : Program} {w : World} {K : PySem.W.Frag} {mg : Str → Option Value} {base : Heap} {A : Around} {outer : List Env} {s : Shared} {H : Hp} (e : Env0 P w K mg base A outer s H) :
    Env0 P w K mg base A.in1 outer s H := ⟨e.frames, e.mod, e.bs, e.bsz, e.funs, e.frf, e.hok, e.bare⟩

section
variable {X : Cx} {pins : List (Addr × Obj)} {σ : St} {H : Hp} {s s' : Shared}
theorem Inv.env0 (I : Inv X pins σ H s) : Env0 X.prog X.w X.K X.mg X.base X.A X.stack s H :=
  ⟨I.ok.frames, I.ok.mod, I.bs, Nat.le_trans I.ok.bsz I.sz, I.stack, I.stkFree, I.hok, I.bare⟩
theorem Inv.after {Q : VK} {u : Value} (I : Inv X pins σ H s) (h : CE X.stack X.prog X.w H s Q u s') : EP X pins σ Q u s' := by
  obtain ⟨v, H', os, bare, un, hok, r, q⟩ := h
  obtain ⟨hh, g, d, t, os'⟩ := s'
  obtain rfl : os' = s.os := os
  exact ⟨v, H', I.call (h' := hh) (g' := g) (d' := d) (t' := t) (ch := []) un hok bare (fun b z => absurd z (by simp)), r, q⟩
end

/-! ### calls -/
def tCall (sp : Sp) (dvs : List V) (E : XK) (t : TA) : TE := fun σ H Q => t σ H fun vs H1 => sp (vs ++ dvs) H1 Q E
def Binds (K : PySem.W.Frag) (fd : FuncData) (ps : List Str) (ds : List Value) : Prop :=
  ∀ (s : Shared) (us : List Value), K.In s.heap → (us ++ ds).length = ps.length → BindsTo s fd ⟨us, []⟩ (ps.zip (us ++ ds))
theorem Binds.all {K : PySem.W.Frag} {fd : FuncData} {ps : List Str} (h : ∀ us : List Value, us.length = ps.length → bindArgs fd ⟨us, []⟩ = pure (ps.zip us)) : Binds K fd ps [] := fun s us _ hl => by
  rw [List.append_nil] at hl ⊢
  exact .of_eq (h us hl)

def Passes (CX : CXT) (X : Cx) (E : XK) : Prop := ∀ (pins : List (Addr × Obj)) (σ : St) (H : Hp) (s : Shared) (e : Value) (s' : Shared), Inv X pins σ H s → CX X.stack H s E e s' → X.xe e s'

section
variable {X : Cx} {CX : CXT} {k : Nat} {f C : Addr} {fd : FuncData} {ps : List Str} {sp : Sp} {dvs : List V} {ds : List Value} {E : XK} {x m : Str} {p pos apos : Pos} {e o : Expr} {es : List Expr} {ta : TE} {t : TA}

theorem run_fn {pins : List (Addr × Obj)} {σ : St} {H : Hp} {s : Shared} {Q : VK} {us : List Value} {vs : List V} (F : FnOk X.prog X.w X.K X.mg X.base CX k f fd ps sp) (hr : Room k X.A) (hb : Binds X.K fd ps ds) (hd : Vals dvs ds) (hx : Passes CX X E)
    (I : Inv X pins σ H s) (r : Vals vs us) (h : sp (vs ++ dvs) H Q E) : wpAny (model X.prog X.w) X.A (call (.ref f) us) (EP X pins σ Q) X.xe s := by
  have r2 : Vals (vs ++ dvs) (us ++ ds) := r.append hd
  have hl : (us ++ ds).length = ps.length := by rw [← r2.length]; exact F.len _ _ _ _ h
  refine wpAny_call (codeAny_mono (F.run X.A X.stack s H ⟨us, []⟩ (us ++ ds) (vs ++ dvs) Q E hr I.env0 (hb s us I.kIn hl) r2 h) fun r s' hq => ?_)
  cases r with
  | error e => exact hx pins σ H s e s' I hq
  | ok fl =>
    cases fl with
    | ret u => exact I.after hq
    | next => exact False.elim hq
    | brk => exact False.elim hq
    | cont => exact False.elim hq

theorem pe_call (F : FnOk X.prog X.w X.K X.mg X.base CX k f fd ps sp) (hr : Room k X.A) (hg : Gl X x) (hm : X.mg x = some (.ref f)) (hk : PySem.W.keepIn X.K (.ref f) = true) (hb : Binds X.K fd ps ds) (hd : Vals dvs ds) (hx : Passes CX X E)
    (ha : PA X (e :: es) t) (hdb : (x == ("__debug__" : Str)) = false := by decide) (he : starEach (e :: es) X.env = (false, eval e X.env) :: starEach es X.env := by rfl) (hpl : (backTo pos (starEach es X.env)).any (·.1) = false := by rfl) :
    PE X (.Call (.Name x p) (e :: es) [] pos) (tCall sp dvs E t) := by
  intro pins s σ H Q I h
  refine wpAny_Call_Name_kw (ld_glob I hg hm ?_ hdb)
  refine PySem.W.callWith_K (h₀ := X.base) I.ok.mod.kin hk (thn (ha pos pins s σ H _ I h) fun us s1 ⟨vs, H1, I1, r, q⟩ => ⟨I1.kIn, ?_⟩) he hpl
  exact run_fn F hr hb hd hx I1 r q
structure Mk (K : PySem.W.Frag) (C f : Addr) : Prop where
  makes : PySem.W.makesIn K C = true
  init : PySem.W.findIn K (.ref C) "__init__" = some (some (.ref f))
  fn : PySem.W.isFn K (.ref f) = true
  kp : PySem.W.keepIn K (.ref C) = true

end

/-! ### keywords -/
section
variable {X : Cx} {CX : CXT} {k : Nat} {f C : Addr} {fd : FuncData} {ps ks : List Str} {sp : Sp} {E : XK} {x m : Str} {p pos apos kpos : Pos} {e o : Expr} {es : List Expr} {kws : List Keyword} {te ta : TE} {t tk : TA} {nm : Option Str}
structure KBinds (K : PySem.W.Frag) (fd : FuncData) (ps ks : List Str) (g : List Value → List Value → List Value) (gV : List V → List V → List V) : Prop where
  to : ∀ (s : Shared) (us ws : List Value), K.In s.heap → (g us ws).length = ps.length → BindsTo s fd ⟨us, ks.zip ws⟩ (ps.zip (g us ws))
  rel : ∀ {vs : List V} {us : List Value} {zs : List V} {ws : List Value}, Vals vs us → Vals zs ws → Vals (gV vs zs) (g us ws)
variable {g : List Value → List Value → List Value} {gV : List V → List V → List V}
end

/-! ### a def's body keeps its promise -/
structure FnScope (N P : List Str) (sc : Scope) : Prop where
  kind : sc.kind = .function
  co : sc.isCoroutine = false
  gen : sc.isGenerator = false
  nd : N.Nodup
  pre : N.take P.length = P
  par : ∀ x ∈ P, sc.names.lookup x = some .local ∨ sc.names.lookup x = some .cell
  nofree : ∀ y ∈ sc.names, y.2 ≠ .free

theorem bindL_out {kindOf : Str → Option NameKind} {x : Str} : ∀ {binds : List (Str × Value)} {m : Str → Option Value}, (∀ v, (x, v) ∉ binds) → bindL kindOf binds m x = m x
  | [], _, _ => rfl
  | (n, v) :: r, m, h => by
    unfold bindL
    rw [bindL_out fun w hw => h w (List.mem_cons_of_mem _ hw)]
    split
    · have : x ≠ n := by rintro rfl; exact h v List.mem_cons_self
      simp [this]
    · rfl
theorem bindC_out {kindOf : Str → Option NameKind} {x : Str} : ∀ {binds : List (Str × Value)} {m : Str → Option Value}, (∀ v, (x, v) ∉ binds) → bindC kindOf binds m x = m x
  | [], _, _ => rfl
  | (n, v) :: r, m, h => by
    unfold bindC
    rw [bindC_out fun w hw => h w (List.mem_cons_of_mem _ hw)]
    split
    · rfl
    · have : x ≠ n := by rintro rfl; exact h v List.mem_cons_self
      simp [this]
theorem bindL_get {kindOf : Str → Option NameKind} {x : Str} {v : Value} : ∀ {P : List Str} {vs : List Value} {i : Nat} {m : Str → Option Value}, P.Nodup → P[i]? = some x → vs[i]? = some v → kindOf x = some .local →
    bindL kindOf (P.zip vs) m x = some v
  | [], _, _, _, _, h, _, _ => by simp at h
  | _ :: _, [], _, _, _, _, h, _ => by simp at h
  | p :: P, w :: vs, 0, m, nd, h1, h2, hk => by
    simp at h1 h2; subst h1; subst h2
    show bindL kindOf ((p, w) :: P.zip vs) m p = _
    unfold bindL
    rw [bindL_out fun v hv => (List.nodup_cons.mp nd).1 (List.of_mem_zip hv).1, if_pos hk]
    simp
  | p :: P, w :: vs, i + 1, m, nd, h1, h2, hk => by
    show bindL kindOf ((p, w) :: P.zip vs) m x = _
    unfold bindL
    exact bindL_get (i := i) (List.nodup_cons.mp nd).2 (by simpa using h1) (by simpa using h2) hk
theorem bindC_get {kindOf : Str → Option NameKind} {x : Str} {v : Value} : ∀ {P : List Str} {vs : List Value} {i : Nat} {m : Str → Option Value}, P.Nodup → P[i]? = some x → vs[i]? = some v → kindOf x ≠ some .local →
    bindC kindOf (P.zip vs) m x = some v
  | [], _, _, _, _, h, _, _ => by simp at h
  | _ :: _, [], _, _, _, _, h, _ => by simp at h
  | p :: P, w :: vs, 0, m, nd, h1, h2, hk => by
    simp at h1 h2; subst h1; subst h2
    show bindC kindOf ((p, w) :: P.zip vs) m p = _
    unfold bindC
    rw [bindC_out fun v hv => (List.nodup_cons.mp nd).1 (List.of_mem_zip hv).1, if_neg hk]
    simp
  | p :: P, w :: vs, i + 1, m, nd, h1, h2, hk => by
    show bindC kindOf ((p, w) :: P.zip vs) m x = _
    unfold bindC
    exact bindC_get (i := i) (List.nodup_cons.mp nd).2 (by simpa using h1) (by simpa using h2) hk

def start (N : List Str) (vs : List V) : St := vs.map some ++ List.replicate (N.length - vs.length) none

def cxOf (CX : CXT) (P : Program) (w : World) (K : PySem.W.Frag) (mg : Str → Option Value) (base : Heap) (N : List Str) (qual : Str) (scope : Scope) (f : Addr) (cd : Value) (A : Around) (outer : List Env) (s : Shared) (H : Hp) (E : XK) : Cx where
  prog := P
  w := w
  K := K
  mg := mg
  base := base
  A := A.deeper (envOfC qual scope s.heap.objs.size f cd)
  N := N
  s₀ := s
  H₀ := H
  env := envOfC qual scope s.heap.objs.size f cd
  outer := outer
  stack := envOfC qual scope s.heap.objs.size f cd :: outer
  ex := []
  calm := true
  fn := fun _ => true
  pn := []
  xe := fun e s' => wpAny (model P w) (A.deeper (envOfC qual scope s.heap.objs.size f cd)) (leaving (envOfC qual scope s.heap.objs.size f cd) e) (fun _ s'' => CX outer H s E e s'') (fun e' s'' => CX outer H s E e' s'') s'

theorem cell_has {sc : Scope} {n : Nat} {x : Str} (h : sc.names.lookup x = some .cell) : ∃ c, (cellsFrom n sc.names []).lookup x = some c := by
  have q := PySem.W.cellsFrom_some sc.names n [] (.inl h)
  exact Option.isSome_iff_exists.mp q

theorem inv_start {CX : CXT} {P : Program} {w : World} {K : PySem.W.Frag} {mg : Str → Option Value} {base : Heap} {N ps : List Str} {qual : Str} {scope : Scope} {f : Addr} {cd : Value} {A : Around} {outer : List Env} {s s1 : Shared} {H : Hp} {E : XK} {us : List Value} {vs : List V}
    (S : FnScope N ps scope) (hd : A.handled = none) (e0 : Env0 P w K mg base A outer s H) (hl : vs.length = ps.length) (r : Vals vs us)
    (x : InCallC s s.heap.objs.size (bindL (envOfC qual scope s.heap.objs.size f cd).kindOf (ps.zip us) fun _ => none) (cellsFrom (s.heap.objs.size + 1) scope.names []) (bindC (envOfC qual scope s.heap.objs.size f cd).kindOf (ps.zip us) fun _ => none) s1) :
    Inv (cxOf CX P w K mg base N qual scope f cd A outer s H E) [] (start N vs) H s1 := by
  have hpl : ps.length ≤ N.length := by have := congrArg List.length S.pre; rw [List.length_take] at this; omega
  obtain ⟨h1, tk, rfl, hk⟩ := x.done
  have noA : ∀ b : Addr, b ∉ (cxOf CX P w K mg base N qual scope f cd A outer s H E).ex := fun b z => absurd (show b ∈ ([] : List Addr) from z) (by simp)
  refine ⟨⟨e0.mod, S.kind, rfl, rfl, Nat.le_refl _, fun y z c h1 h2 => ?_, fun y hy => ?_, fun y c _ h => ?_, fun _ => hd, Around.frames_deeper e0.frames, .inr ⟨rfl, rfl⟩, fun b z => absurd z (noA b), e0.bs, e0.bsz, fun b _ _ => noA b, fun b z => absurd z (noA b), e0.funs, e0.frf⟩,
    rfl, e0.bare, Un.kept hk, ⟨_, x.toInCall.ns, fun i y v h1 h2 h3 => ?_⟩, fun y c h => ⟨_, x.cell y c h⟩, e0.hok.fresh (Nat.le_refl _), fun y c h => ?_, fun p hp => absurd (show p ∈ ([] : List (Addr × Obj)) from hp) (by simp), e0.hok.kept hk, ?_⟩
  · exact name_of_addr x.apart (PySem.mem_of_lookup h1) (PySem.mem_of_lookup h2)
  · have hy : scope.names.lookup y = some .cell ∨ scope.names.lookup y = some .free := hy
    rcases hy with hy | hy
    · exact cell_has hy
    · exact absurd rfl (S.nofree _ (PySem.mem_of_lookup hy))
  · exact Nat.le_of_lt (x.above y c (PySem.mem_of_lookup h))
  · have hi : i < vs.length := by
      unfold start at h2
      by_cases hi : i < vs.length
      · exact hi
      · rw [List.getElem?_append_right (by simpa using hi)] at h2
        rw [List.getElem?_replicate] at h2
        split at h2 <;> cases h2
    have ha : vs[i]? = some v := by
      unfold start at h2
      rw [List.getElem?_append_left (by simpa using hi), List.getElem?_map] at h2
      cases e : vs[i]? with
      | none => rw [e] at h2; cases h2
      | some a => rw [e] at h2; cases h2; rfl
    obtain ⟨u, hu, rv⟩ := r.get ha
    have hp : ps[i]? = some y := by
      rw [← S.pre, List.getElem?_take_of_lt (by omega)]; exact h1
    have ndP : ps.Nodup := by rw [← S.pre]; exact S.nd.sublist (List.take_sublist _ _)
    refine ⟨u, rv, ?_⟩
    rcases S.par y (List.mem_of_getElem? hp) with k | k
    · exact .inl ⟨k, bindL_get ndP hp hu k⟩
    · obtain ⟨c, e⟩ := cell_has (n := s.heap.objs.size + 1) k
      refine .inr ⟨.inl k, c, e, ?_⟩
      have q := x.cell y c e
      rw [bindC_get ndP hp hu (by show scope.names.lookup y ≠ _; rw [k]; decide)] at q
      exact q
  · exact e0.hok.fresh (Nat.le_of_lt (x.above y c (PySem.mem_of_lookup h)))
  · unfold start
    show _ = N.length
    rw [List.length_append, List.length_map, List.length_replicate]
    omega

theorem fn_of {CX : CXT} {P : Program} {w : World} {K : PySem.W.Frag} {mg : Str → Option Value} {base : Heap} {k : Nat} {f : Addr} {name qual : Str} {params : Arguments} {body : List Stmt} {scope : Scope} {dV kV doc pm cdv ct oc : Value} {an od : Option Addr}
    {osl : Array (Option Value)} {N ps : List Str} {sp : Sp} (lk : K.lookup f = some ⟨oc, od, .func (PySem.W.fnOf name qual params body scope dV kV doc pm an cdv ct), osl⟩) (hcd : PySem.W.codeIn K cdv qual = true) (S : FnScope N ps scope)
    (len : ∀ vs H Q E, sp vs H Q E → vs.length = ps.length)
    (hbody : ∀ (A : Around) (outer : List Env) (s : Shared) (H : Hp) (vs : List V) (Q : VK) (E : XK), Room k (A.deeper (envOfC qual scope s.heap.objs.size f cdv)) → sp vs H Q E →
      ∃ t, PSs (cxOf CX P w K mg base N qual scope f cdv A outer s H E) body t ∧ t { nx := fun _ H' => Q .non H', rt := Q } (start N vs) H) :
    FnOk P w K mg base CX (k + 1) f (PySem.W.fnOf name qual params body scope dV kV doc pm an cdv ct) ps sp := by
  refine ⟨len, fun A outer s H args us vs Q E hr e0 hb r hsp => ?_⟩
  have hl := len _ _ _ _ hsp
  have KX : K.In s.heap := e0.mod.kin.keeps fun b o e => (e0.bs b o e).1
  have lim : s.heap.NoLimit := e0.mod.nolimit.keeps fun b o e => (e0.bs b o e).1
  have hkind : ∀ y ∈ ps.zip us, scope.names.lookup y.1 = some .local ∨ (scope.names.lookup y.1 = some .cell ∧ ((cellsFrom (s.heap.objs.size + 1) scope.names []).lookup y.1).isSome = true) := fun ⟨n, v⟩ hy => by
    rcases S.par n (List.of_mem_zip hy).1 with q | q
    · exact .inl q
    · exact .inr ⟨q, PySem.W.cellsFrom_some _ _ _ (.inl q)⟩
  refine codeAny_call_function hr.depth (KX _ _ lk) rfl S.co S.gen rfl (PySem.W.codeRec_of KX hcd) (hb _ _ _ _ ?_)
  refine wpAny_newFunctionEnv_cells S.kind hkind fun env he s1 x => ?_
  subst he
  refine ⟨lim.keeps x.toInCall.keep, codeAny_func ?_⟩
  obtain ⟨t, ht, hq⟩ := hbody A outer s H vs Q E (hr.deeper _) hsp
  have I : Inv (cxOf CX P w K mg base N qual scope f cdv A outer s H E) [] (start N vs) H s1 := inv_start S hr.hd e0 hl r x
  refine wpAny_mono (ht [] s1 (start N vs) H _ I hq) (fun fl s' hs => ?_) fun e s' hs => hs
  have fin : ∀ {σ' : St} {H' : Hp} {v : V} {u : Value}, Inv (cxOf CX P w K mg base N qual scope f cdv A outer s H E) [] σ' H' s' → RelV v u → Q v H' → CE outer P w H s Q u s' :=
    fun {σ' H' v u} J rv q => ⟨v, H', J.os, J.bare, J.base, J.hok, rv, q⟩
  cases fl with
  | ret u =>
    obtain ⟨v, σ', H', J, rv, q⟩ := hs
    exact fin J rv q
  | next =>
    obtain ⟨σ', H', J, q⟩ := hs
    exact fin (v := V.non) (u := Value.none) J rfl q
  | brk =>
    obtain ⟨_, _, _, q⟩ := hs
    exact False.elim q
  | cont =>
    obtain ⟨_, _, _, q⟩ := hs
    exact False.elim q
end L2

namespace L2
open PySem PySem.Spec PyProof.Rows
section
variable {X : Cx} {x : Str} {p pos : Pos} {e : Expr} {es : List Expr} {t : TA} {id T : String} {r : List V → Hp → VK → Prop}

def tCB (r : List V → Hp → VK → Prop) (t : TA) : TE := fun σ H Q => t σ H fun vs H1 => r vs H1 Q
theorem pe_callB (hc : CallR X (.builtin id) r) (hg : Gl X x) (hm : X.mg x = none) (hv : bootBuiltins x = some (.builtin id)) (ha : PA X (e :: es) t) (hn : x ≠ "__name__" := by decide) (hdb : (x == ("__debug__" : Str)) = false := by decide)
    (he : starEach (e :: es) X.env = (false, eval e X.env) :: starEach es X.env := by rfl) (hpl : (backTo pos (starEach es X.env)).any (·.1) = false := by rfl) : PE X (.Call (.Name x p) (e :: es) [] pos) (tCB r t) := by
  intro pins s σ H Q I h
  refine wpAny_Call_Name_kw (ld_blt I hg hm hv ?_ hn hdb)
  exact PyProof.Rows.callWith_builtin1 (thn (ha pos pins s σ H _ I h) fun us s1 ⟨vs, H1, I1, r1, q1⟩ => hc pins s1 σ H1 vs us Q I1 r1 q1) he hpl
theorem pe_callTy (hc : CallR X (.type T) r) (hg : Gl X x) (hm : X.mg x = none) (hv : bootBuiltins x = some (.type T)) (ha : PA X (e :: es) t) (hn : x ≠ "__name__" := by decide) (hdb : (x == ("__debug__" : Str)) = false := by decide)
    (he : starEach (e :: es) X.env = (false, eval e X.env) :: starEach es X.env := by rfl) (hpl : (backTo pos (starEach es X.env)).any (·.1) = false := by rfl) : PE X (.Call (.Name x p) (e :: es) [] pos) (tCB r t) := by
  intro pins s σ H Q I h
  refine wpAny_Call_Name_kw (ld_blt I hg hm hv ?_ hn hdb)
  exact PyProof.Rows.callWith_type1 (thn (ha pos pins s σ H _ I h) fun us s1 ⟨vs, H1, I1, r1, q1⟩ => hc pins s1 σ H1 vs us Q I1 r1 q1) he hpl
end
end L2

namespace HT
open PySem PyProof.Rows

section
open PySem.SeqAt
open PySem.AutoSeq1 (wpAny_loadPart')
open PySem.MeetsSeq PySem.MeetsSeq2 PySem.MeetsSeq3

end

section
variable {prog : Program} {w : World} {A : Around} {E : Value → Shared → Prop} {s : Shared}

/-! ### t[a:b], not the whole -/
def sIx (n d : Nat) : Option Int → Nat
  | none => d
  | some v => if v < 0 then (v + (n : Int)).toNat else min v.toNat n
theorem sIx_none (n d : Nat) : sIx n d none = d := rfl
theorem sIx_nat (n d k : Nat) : sIx n d (some (k : Int)) = min k n := by
  show (if (k : Int) < 0 then ((k : Int) + (n : Int)).toNat else min (k : Int).toNat n) = min k n
  rw [if_neg (by omega), Int.toNat_natCast]
end
end HT

namespace L2
open PySem PySem.Spec PyProof.Rows

/-! ### the parts of a slice -/
abbrev TO := St → Hp → (Option Int → Hp → Prop) → Prop
def PO (X : Cx) (e : Option Expr) (t : TO) : Prop :=
  ∀ (pins : List (Addr × Obj)) (s : Shared) (σ : St) (H : Hp) (Q : Option Int → Hp → Prop), Inv X pins σ H s → t σ H Q →
    wpAny (model X.prog X.w) X.A (evalPart e X.env) (fun u s' => ∃ o H', Inv X pins σ H' s' ∧ IsPart u o ∧ Q o H') X.xe s
def tNoPart : TO := fun _ H Q => Q none H
def tPart (t : TE) : TO := fun σ H Q => t σ H fun x H1 => ∃ i, x = .int i ∧ Q (some i) H1

section
variable {X : Cx} {e : Expr} {te : TE} {lo hi : Option Expr} {tl th : TO} {pos p2 : Pos}

theorem po_none : PO X none tNoPart := by
  intro pins s σ H Q I h
  rw [evalPart_none]
  exact wpAny_pure ⟨none, H, I, .none, h⟩
theorem po_some (h : PE X e te) : PO X (some e) (tPart te) := by
  intro pins s σ H Q I hw
  rw [evalPart_some]
  refine thn (h pins s σ H _ I hw) fun u s1 ⟨x, H1, I1, r1, q1⟩ => ?_
  obtain ⟨i, rfl, q⟩ := q1
  obtain ⟨t, rfl⟩ := r1
  exact ⟨some i, H1, I1, .int i t, q⟩

def SlR (X : Cx) (r : V → Option Int → Option Int → Hp → VK → Prop) : Prop :=
  ∀ (pins : List (Addr × Obj)) (s : Shared) (σ : St) (H : Hp) (x : V) (v vl vu : Value) (lo hi : Option Int) (sl : Addr) (Q : VK), Inv X pins σ H s → RelV x v → s.heap.IsSliceOf sl vl vu .none → IsPart vl lo → IsPart vu hi → r x lo hi H Q →
    ∃ T id, typeLookup (.type T) "__getitem__" = pure (some (.builtin id)) ∧ s.TypeIs v T ∧ wpAny (model X.prog X.w) X.A (getItem v (.ref sl)) (EP X pins σ Q) X.xe s
theorem SlR.or {r r' : V → Option Int → Option Int → Hp → VK → Prop} (h : SlR X r) (h' : SlR X r') : SlR X (fun x lo hi H Q => r x lo hi H Q ∨ r' x lo hi H Q) := by
  intro pins s σ H x v vl vu lo hi sl Q I rx hs pl pu q
  rcases q with q | q
  · exact h pins s σ H x v vl vu lo hi sl Q I rx hs pl pu q
  · exact h' pins s σ H x v vl vu lo hi sl Q I rx hs pl pu q
def tSl (r : V → Option Int → Option Int → Hp → VK → Prop) (te : TE) (tl th : TO) : TE := fun σ H Q => te σ H fun x H1 => tl σ H1 fun l H2 => th σ H2 fun u H3 => r x l u H3 Q
theorem pe_slice {r : V → Option Int → Option Int → Hp → VK → Prop} (hr : SlR X r) (he : PE X e te) (hl : PO X lo tl) (hu : PO X hi th) : PE X (.Subscript e (.Slice lo hi none p2) pos) (tSl r te tl th) := by
  intro pins s σ H Q I h
  refine Subscript_ (thn (he pins s σ H _ I h) fun v s1 ⟨x, H1, I1, r1, q1⟩ => ?_)
  refine wpAny_Slice (thn (hl pins s1 σ H1 _ I1 q1) fun vl s2 ⟨l, H2, I2, pl, q2⟩ => thn (hu pins s2 σ H2 _ I2 q2) fun vu s3 ⟨u, H3, I3, pu, q3⟩ => ?_)
  rw [evalPart_none]
  refine wpAny_pure ?_
  have I4 : Inv X pins σ H3 { s3 with heap := s3.heap.push { cls := .type "slice", data := .fields #[vl, vu, .none] } } := I3.kept (t' := s3.toks) fun b ob q => Heap.get?_push_of_some _ q
  obtain ⟨T, id, hT, ht, hg⟩ := hr pins { s3 with heap := s3.heap.push { cls := .type "slice", data := .fields #[vl, vu, .none] } } σ H3 x v vl vu l u s3.heap.objs.size Q I4 r1 (Heap.IsSliceOf.new ..) pl pu q3
  show wpAny (model X.prog X.w) X.A (subscriptTail e (.Slice lo hi none p2) v (.ref s3.heap.objs.size)) (EP X pins σ Q) X.xe { s3 with heap := s3.heap.push { cls := .type "slice", data := .fields #[vl, vu, .none] } }
  exact tail_any (ops := [.ref s3.heap.objs.size, v]) ht hT hg (by with_unfolding_all rfl)

def cutV (xs : List V) (lo hi : Option Int) : List V := (xs.drop (HT.sIx xs.length 0 lo)).take (HT.sIx xs.length xs.length hi - HT.sIx xs.length 0 lo)
theorem cutV_length (xs : List V) (lo hi : Option Int) : (cutV xs lo hi).length ≤ xs.length := by
  unfold cutV
  rw [List.length_take, List.length_drop]
  omega
/-! ### t < u, t + u -/
end
end L2

namespace L2
open PySem PySem.Spec PyProof.Rows

/-! ### places -/
def ixN (n : Nat) (i : Int) : Option Nat := if 0 ≤ i then (if i < n then some i.toNat else none) else if -(n : Int) ≤ i then some (i + n).toNat else none
def atI {α : Type} (xs : List α) (i : Int) : Option α := (ixN xs.length i).bind fun j => xs[j]?
theorem ixN_seq {n : Nat} {i : Int} {j : Nat} (h : ixN n i = some j) : seqIndex? i n = some j ∧ j < n ∧ -(n : Int) ≤ i ∧ i < n := by
  unfold ixN at h
  by_cases h0 : 0 ≤ i
  · rw [if_pos h0] at h
    by_cases h1 : i < n
    · rw [if_pos h1] at h
      have e : i.toNat = j := Option.some.inj h
      exact ⟨by rw [seqIndex_of h0 h1, e], by omega, by omega, h1⟩
    · rw [if_neg h1] at h; cases h
  · rw [if_neg h0] at h
    by_cases h1 : -(n : Int) ≤ i
    · rw [if_pos h1] at h
      have e : (i + n).toNat = j := Option.some.inj h
      exact ⟨by rw [seqIndex_neg (by omega) h1, e], by omega, h1, by omega⟩
    · rw [if_neg h1] at h; cases h
theorem atI_get {α : Type} {xs : List α} {i : Int} {v : α} (h : atI xs i = some v) : ∃ j, seqIndex? i xs.length = some j ∧ xs[j]? = some v ∧ j < xs.length ∧ -(xs.length : Int) ≤ i ∧ i < xs.length := by
  unfold atI at h
  cases e : ixN xs.length i with
  | none => rw [e] at h; cases h
  | some j =>
    rw [e] at h
    obtain ⟨h1, h2, h3, h4⟩ := ixN_seq e
    exact ⟨j, h1, h, h2, h3, h4⟩
theorem atI_nat {α : Type} {xs : List α} {j : Nat} {v : α} (h : xs[j]? = some v) : atI xs (j : Int) = some v := by
  have hj : j < xs.length := (List.getElem?_eq_some_iff.mp h).1
  have e : ixN xs.length (j : Int) = some j := by
    unfold ixN
    rw [if_pos (by omega), if_pos (by omega)]; simp
  unfold atI; rw [e]; exact h
/-! ### what may be subscripted -/
def PlainIx (b : Expr) : Prop := ∀ o i, subscripted b false o i = operate [o, i] (getItem o i)
def IxR (X : Cx) (r : R2) : Prop :=
  ∀ (value slice : Expr) (pins : List (Addr × Obj)) (s : Shared) (σ : St) (H : Hp) (x y : V) (v u : Value) (Q : VK), Inv X pins σ H s → RelV x v → RelV y u → r x y H Q →
    subscripted slice false v u = operate [v, u] (getItem v u) → wpAny (model X.prog X.w) X.A (subscriptTail value slice v u) (EP X pins σ Q) X.xe s
def MtR (X : Cx) (id : String) (r : V → List V → Hp → VK → Prop) : Prop :=
  ∀ (pins : List (Addr × Obj)) (s : Shared) (σ : St) (H : Hp) (x : V) (xs : List V) (v : Value) (us : List Value) (Q : VK), Inv X pins σ H s → RelV x v → Vals xs us → r x xs H Q →
    wpAny (model X.prog X.w) X.A (call (.builtin id) (v :: us)) (EP X pins σ Q) X.xe s
section
variable {X : Cx} {a b : Expr} {ta tb : TE} {pos : Pos}
theorem IxR.or {r r' : R2} (h : IxR X r) (h' : IxR X r') : IxR X (fun x y H Q => r x y H Q ∨ r' x y H Q) := by
  intro value slice pins s σ H x y v u Q I rx ry q hs
  rcases q with q | q
  · exact h value slice pins s σ H x y v u Q I rx ry q hs
  · exact h' value slice pins s σ H x y v u Q I rx ry q hs
theorem MtR.or {id : String} {r r' : V → List V → Hp → VK → Prop} (h : MtR X id r) (h' : MtR X id r') : MtR X id (fun x xs H Q => r x xs H Q ∨ r' x xs H Q) := by
  intro pins s σ H x xs v us Q I rx rs q
  rcases q with q | q
  · exact h pins s σ H x xs v us Q I rx rs q
  · exact h' pins s σ H x xs v us Q I rx rs q
theorem pe_ix {r : R2} (hr : IxR X r) (ha : PE X a ta) (hb : PE X b tb) (hs : PlainIx b) : PE X (.Subscript a b pos) (tOp r ta tb) := by
  intro pins s σ H Q I h
  exact Subscript_ (binT ha hb I h fun v u s2 x y H2 I2 rx ry q => hr a b pins s2 σ H2 x y v u Q I2 rx ry q (hs _ _))

def rIxL (K : PySem.W.Frag) : R2 := fun x y H Q => ∃ p xs i v, x = .ref p ∧ y = .int i ∧ SqL K H p xs ∧ atI xs i = some v ∧ Q v H
def rIxT (K : PySem.W.Frag) : R2 := fun x y H Q => ∃ p xs i v, x = .ref p ∧ y = .int i ∧ SqT K H p xs ∧ atI xs i = some v ∧ Q v H
def rIxS : R2 := fun x y H Q => ∃ z i c, x = .str z ∧ y = .int i ∧ z.length ≤ sizeLine ∧ atI z.cps.toList i = some c ∧ Q (.str ⟨#[c]⟩) H
theorem ix_list : IxR X (rIxL X.K) := by
  intro value slice pins s σ H x y v u Q I rx ry h hs
  obtain ⟨p, xs, i, z, rfl, rfl, hq, he, q⟩ := h
  cases rx
  obtain ⟨t, rfl⟩ := ry
  obtain ⟨its, r, pl, hz⟩ := I.list hq
  obtain ⟨j, h1, h2, h3, h4, h5⟩ := atI_get he
  obtain ⟨w, ew, rw'⟩ := r.get h2
  have hl := r.length
  have hn := line63
  have fin : EP X pins σ Q w s := ⟨z, H, I, rw', q⟩
  by_cases h0 : 0 ≤ i
  · have hj : i.toNat = j := by
      rw [seqIndex_of h0 h5] at h1
      exact Option.some.inj h1
    exact item_listR pl.isList h0 (by omega) (by rw [hj]; simpa using ew) fin hs
  · have hj : (i + (its.toArray.size : Int)).toNat = j := by
      rw [seqIndex_neg (by omega) h4] at h1
      rw [List.size_toArray, ← hl]
      exact Option.some.inj h1
    exact subscriptTail_builtinR (x := w) pl.isList.typeIs slot_list_getitem.lookup
      (wpAny_getItem_list_neg (Q := fun r s' => r = w ∧ EP X pins σ Q r s') pl.isList (by omega) (by rw [List.size_toArray] <;> omega) (by omega) (by rw [hj]; simpa using ew) ⟨rfl, fin⟩) hs
theorem ix_tup : IxR X (rIxT X.K) := by
  intro value slice pins s σ H x y v u Q I rx ry h hs
  obtain ⟨p, xs, i, z, rfl, rfl, hq, he, q⟩ := h
  cases rx
  obtain ⟨t, rfl⟩ := ry
  obtain ⟨its, r, pl, hz⟩ := I.tuple hq
  obtain ⟨j, h1, h2, h3, h4, h5⟩ := atI_get he
  obtain ⟨w, ew, rw'⟩ := r.get h2
  have hl := r.length
  have hn := line63
  have fin : EP X pins σ Q w s := ⟨z, H, I, rw', q⟩
  exact subscriptTail_builtinR (x := w) pl.typeIs slot_tuple_getitem.lookup
    (getItem_tuple (j := j) (Q := fun r s' => r = w ∧ EP X pins σ Q r s') pl (by omega) (by omega) (by rw [List.size_toArray, ← hl]; exact h1) (by simpa using ew) ⟨rfl, fin⟩) hs
theorem ix_str : IxR X rIxS := by
  intro value slice pins s σ H x y v u Q I rx ry h hs
  obtain ⟨z, i, c, rfl, rfl, hz, he, q⟩ := h
  obtain ⟨t, rfl⟩ := rx
  obtain ⟨t', rfl⟩ := ry
  obtain ⟨j, h1, h2, h3, h4, h5⟩ := atI_get he
  have hl : z.cps.toList.length = z.length := by simp [Str.length]
  rw [hl] at h1 h4 h5
  have hn := line63
  exact tail_any (typeIs_str s z t) slot_str_getitem.lookup (getItem_str (c := c) (by
    have e1 : decide (i < -(2 ^ 63 : Int)) = false := decide_eq_false (by omega)
    have e2 : decide (i ≥ 2 ^ 63) = false := decide_eq_false (by omega)
    rw [e1, e2, Bool.or_false]) (by rw [h1]; simpa using h2) ⟨.str ⟨#[c]⟩, H, I.tok _, ⟨_, rfl⟩, q⟩) hs
/-! ### xs[i] = v, any sign -/
theorem mapSeq_set (its : List Value) (n j : Nat) (u : Value) : Obj.mapSeq (·.setIfInBounds j u) { cls := .type "list", data := .seq its.toArray n } = { cls := .type "list", data := .seq (its.set j u).toArray n } := by
  simp [Obj.mapSeq]
theorem Inv.lst {pins : List (Addr × Obj)} {σ : St} {H : Hp} {s : Shared} {p : Addr} {xs : List V} (I : Inv X pins σ H s) (h : H p = some (.lst xs)) :
    ∃ (its : List Value) (n : Nat), Vals xs its ∧ s.heap.get? p = some { cls := .type "list", data := .seq its.toArray n } ∧ xs.length ≤ sizeLine := by
  obtain ⟨z, its, n, r, e⟩ := I.hok p _ h
  exact ⟨its, n, r, e, z⟩
theorem Inv.lstUpd {pins : List (Addr × Obj)} {σ : St} {H : Hp} {s : Shared} {p : Addr} {xs ys : List V} {its its' : List Value} {n n' : Nat} {f : Obj → Obj} (I : Inv X pins σ H s) (h : H p = some (.lst xs))
    (ho : s.heap.get? p = some { cls := .type "list", data := .seq its.toArray n }) (hf : f { cls := .type "list", data := .seq its.toArray n } = { cls := .type "list", data := .seq its'.toArray n' }) (r : Vals ys its') (hz : ys.length ≤ sizeLine) (t : Nat) :
    Inv X pins σ (upd H p (.lst ys)) { s with heap := s.heap.update p f, toks := t } := by
  have e : (s.heap.update p f).get? p = some { cls := .type "list", data := .seq its'.toArray n' } := by
    rw [Heap.get?_update_self f ho (by rw [hf] <;> rfl), hf]
  refine I.write (x := p) (e := p) (by rw [h]; trivial) (.inl rfl) (fun b u hb q => (Heap.get?_update_other _ _ (Ne.symm hb)).trans q) ⟨_, e⟩ ?_
  exact ⟨hz, its', n', r, e⟩
def rSetL : V → V → V → Hp → (Hp → Prop) → Prop := fun o i v H Q => ∃ p xs k j, o = .ref p ∧ i = .int k ∧ H p = some (.lst xs) ∧ ixN xs.length k = some j ∧ Q (upd H p (.lst (xs.set j v)))
theorem set_list : PSet X rSetL := by
  intro pins s σ H o i v ov iv u Q I ro ri rv h
  obtain ⟨p, xs, k, j, rfl, rfl, hp, hj, q⟩ := h
  cases ro
  obtain ⟨t, rfl⟩ := ri
  obtain ⟨its, n, r, ho, hz⟩ := I.lst hp
  obtain ⟨h1, h2, h3, h4⟩ := ixN_seq hj
  have hl := r.length
  have hn := line63
  have I' : Inv X pins σ (upd H p (.lst (xs.set j v))) { s with heap := s.heap.update p (Obj.mapSeq (·.setIfInBounds j u)) } :=
    I.lstUpd hp ho (mapSeq_set its n j u) (r.set rv j) (by rw [List.length_set]; exact hz) s.toks
  by_cases h0 : 0 ≤ k
  · have hk : k.toNat = j := by
      rw [seqIndex_of h0 h4] at h1
      exact Option.some.inj h1
    exact PySem.W.ki_setAt ho h0 (by omega) (by rw [List.size_toArray, ← hl]; exact h4) (by rw [hk]; exact ⟨_, I', q⟩)
  · have hk : (k + (its.toArray.size : Int)).toNat = j := by
      rw [seqIndex_neg (by omega) h3] at h1
      rw [List.size_toArray, ← hl]
      exact Option.some.inj h1
    exact PySem.W.ki_setBack ho (by omega) (by rw [List.size_toArray, ← hl]; exact h3) (by omega) (by rw [hk]; exact ⟨_, I', q⟩)

/-! ### slices -/
theorem slice_bounds (lo hi : Option Int) (n : Nat) : (sliceBounds lo hi none n).1 = ((HT.sIx n 0 lo : Nat) : Int) ∧ (sliceBounds lo hi none n).2.1 = ((HT.sIx n n hi : Nat) : Int) ∧ (sliceBounds lo hi none n).2.2 = 1 := by
  refine ⟨?_, ?_, rfl⟩
  · cases lo with
    | none => simp [sliceBounds, HT.sIx]
    | some i =>
      simp only [sliceBounds, HT.sIx, Option.getD_none, show (1 : Int) > 0 by decide, if_true]
      by_cases h : i < 0
      · simp only [h, if_true] <;> omega
      · simp only [h, if_false] <;> omega
  · cases hi with
    | none => simp [sliceBounds, HT.sIx]
    | some i =>
      simp only [sliceBounds, HT.sIx, Option.getD_none, show (1 : Int) > 0 by decide, if_true]
      by_cases h : i < 0
      · simp only [h, if_true] <;> omega
      · simp only [h, if_false] <;> omega
theorem slicePick_cut (its : List Value) (lo hi : Option Int) : slicePick its.toArray lo hi none = ((its.drop (HT.sIx its.length 0 lo)).take (HT.sIx its.length its.length hi - HT.sIx its.length 0 lo)).toArray := by
  obtain ⟨h1, h2, h3⟩ := slice_bounds lo hi its.toArray.size
  unfold slicePick
  rw [h1, h2, h3]
  simp only [sliceRange_one, pick_run, List.size_toArray] <;> rfl
def rSlL (K : PySem.W.Frag) : V → Option Int → Option Int → Hp → VK → Prop := fun x lo hi H Q => ∃ a xs, x = .ref a ∧ SqL K H a xs ∧ ∀ p, H p = none → Q (.ref p) (upd H p (.lst (cutV xs lo hi)))
theorem sl_list : SlR X (rSlL X.K) := by
  intro pins s σ H x v vl vu lo hi sl Q I rx hs pl pu h
  obtain ⟨a, xs, rfl, hx, q⟩ := h
  cases rx
  obtain ⟨its, r, ht, hz⟩ := I.list hx
  have hlen := r.length
  refine ⟨"list", _, slot_list_getitem.lookup, ht.isList.typeIs, ?_⟩
  refine wpAny_getItem_list_slice ht.isList hs pl pu .none (by simp) ?_ (by rw [List.size_toArray] <;> omega)
  rw [slicePick_cut, ← hlen]
  refine ⟨.ref s.heap.objs.size, _, I.laid (t' := s.toks) (o := .lst (cutV xs lo hi)) (fun b ob q => Heap.get?_push_of_some _ q) (Nat.le_refl _) ?_, rfl, q _ (I.hok.fresh (Nat.le_refl _))⟩
  exact ⟨Nat.le_trans (cutV_length xs lo hi) hz, _, 0, (r.drop (HT.sIx xs.length 0 lo)).take (HT.sIx xs.length xs.length hi - HT.sIx xs.length 0 lo), Heap.get?_push_size _ rfl⟩

/-! ### in, not in: flat items -/
def flatV : V → Bool
  | .non => true
  | .bl _ => true
  | .int _ => true
  | .str _ => true
  | _ => false
def eqV : V → V → Bool
  | .non, .non => true
  | .bl a, .bl b => a == b
  | .bl a, .int b => (if a then 1 else 0) == b
  | .int a, .bl b => a == (if b then 1 else 0)
  | .int a, .int b => a == b
  | .str a, .str b => a == b
  | _, _ => false
theorem eqAt_V {A : Around} {s : Shared} {y x : V} {u v : Value} (ry : RelV y u) (rx : RelV x v) (fy : flatV y = true) (fx : flatV x = true) : SeqAt.EqAt A s u v (eqV y x) := by
  cases y with
  | non =>
    cases ry
    cases x with
    | non => cases rx; exact SeqAt.EqAt.same _
    | bl b => cases rx; exact SeqAt.EqAt.none_bool b
    | int b => obtain ⟨t, rfl⟩ := rx; exact SeqAt.EqAt.none_int b t
    | str b => obtain ⟨t, rfl⟩ := rx; exact SeqAt.EqAt.none_str b t
    | _ => exact absurd (show false = true from fx) Bool.false_ne_true
  | bl a =>
    cases ry
    cases x with
    | non => cases rx; exact SeqAt.EqAt.bool_none a
    | bl b => cases rx; exact SeqAt.EqAt.bool_bool a b
    | int b => obtain ⟨t, rfl⟩ := rx; exact SeqAt.EqAt.bool_int a b t
    | str b => obtain ⟨t, rfl⟩ := rx; exact SeqAt.EqAt.bool_str a b t
    | _ => exact absurd (show false = true from fx) Bool.false_ne_true
  | int a =>
    obtain ⟨t', rfl⟩ := ry
    cases x with
    | non => cases rx; exact SeqAt.EqAt.int_none a t'
    | bl b => cases rx; exact SeqAt.EqAt.int_bool a t' b
    | int b => obtain ⟨t, rfl⟩ := rx; exact SeqAt.EqAt.int_int a t' b t
    | str b => obtain ⟨t, rfl⟩ := rx; exact SeqAt.EqAt.int_str a t' b t
    | _ => exact absurd (show false = true from fx) Bool.false_ne_true
  | str a =>
    obtain ⟨t', rfl⟩ := ry
    cases x with
    | non => cases rx; exact SeqAt.EqAt.str_none a t'
    | bl b => cases rx; exact SeqAt.EqAt.str_bool a t' b
    | int b => obtain ⟨t, rfl⟩ := rx; exact SeqAt.EqAt.str_int a t' b t
    | str b => obtain ⟨t, rfl⟩ := rx; exact SeqAt.EqAt.str_str a t' b t
    | _ => exact absurd (show false = true from fx) Bool.false_ne_true
  | _ => exact absurd (show false = true from fy) Bool.false_ne_true
def eqU (x : V) (u : Value) : Bool := match u with
  | .none => eqV .non x
  | .bool b => eqV (.bl b) x
  | .int i _ => eqV (.int i) x
  | .str z _ => eqV (.str z) x
  | _ => false
theorem eqU_of {x y : V} {u : Value} (r : RelV y u) (f : flatV y = true) : eqU x u = eqV y x := by
  cases y with
  | non => cases r; rfl
  | bl b => cases r; rfl
  | int i => obtain ⟨t, rfl⟩ := r; rfl
  | str z => obtain ⟨t, rfl⟩ := r; rfl
  | _ => exact absurd (show false = true from f) Bool.false_ne_true
theorem any_eqU {x : V} : ∀ {xs : List V} {us : List Value}, Vals xs us → xs.all flatV = true → us.any (eqU x) = xs.any fun y => eqV y x
  | _, _, .nil, _ => rfl
  | y :: xs, u :: us, .cons r t, f => by
    rw [List.all_cons, Bool.and_eq_true] at f
    rw [List.any_cons, List.any_cons, eqU_of r f.1, any_eqU t f.2]
theorem mem_eqAt {A : Around} {s : Shared} {x : V} {v : Value} (rx : RelV x v) (fx : flatV x = true) : ∀ {xs : List V} {us : List Value}, Vals xs us → xs.all flatV = true → ∀ u ∈ us, SeqAt.EqAt A s u v (eqU x u)
  | _, _, .nil, _ => fun u hu => by cases hu
  | y :: xs, u :: us, .cons r t, f => fun u' hu => by
    rw [List.all_cons, Bool.and_eq_true] at f
    rcases List.mem_cons.mp hu with rfl | hu
    · rw [eqU_of r f.1]; exact eqAt_V r rx f.1 fx
    · exact mem_eqAt rx fx t f.2 u' hu
def inV (x : V) (xs : List V) : Bool := xs.any fun y => eqV y x
def rIn (K : PySem.W.Frag) (neg : Bool) : R2 := fun x y H Q => ∃ p xs, y = .ref p ∧ (SqL K H p xs ∨ SqT K H p xs) ∧ flatV x = true ∧ xs.all flatV = true ∧ Q (.bl (if neg then !inV x xs else inV x xs)) H
theorem op_in_seq : OpR X (compareOp .In) (rIn X.K false) := by
  intro pins s σ H x y v u Q I rx ry h
  obtain ⟨p, xs, rfl, hq, fx, fs, q⟩ := h
  cases ry
  rcases hq with hq | hq
  · obtain ⟨its, r, pl, hz⟩ := I.list hq
    refine SeqAt.in_listAt (eqU x) pl.isList (fun w hw => mem_eqAt rx fx r fs w (by simpa using hw)) ⟨.bl _, H, I, rfl, ?_⟩
    rw [show its.toArray.any (eqU x) = its.any (eqU x) by simp, any_eqU r fs]
    exact q
  · obtain ⟨its, r, pl, hz⟩ := I.tuple hq
    refine SeqAt.in_tupleAt (eqU x) pl (fun w hw => mem_eqAt rx fx r fs w (by simpa using hw)) ⟨.bl _, H, I, rfl, ?_⟩
    rw [show its.toArray.any (eqU x) = its.any (eqU x) by simp, any_eqU r fs]
    exact q
/-! ### len, list(x), tuple(x) of any list or tuple that is read -/
theorem call_len_seq : CallR X (.builtin "len") (fun xs H Q => ∃ p ys, xs = [.ref p] ∧ (SqL X.K H p ys ∨ SqT X.K H p ys) ∧ Q (.int ys.length) H) := by
  intro pins s σ H xs us Q I r h
  obtain ⟨p, ys, rfl, hq, q⟩ := h
  obtain ⟨u, rfl, rx⟩ := vals1 r
  cases rx
  have hn := line63
  rcases hq with hq | hq
  · obtain ⟨its, r', pl, hz⟩ := I.list hq
    have hlen := r'.length
    exact Calls.call_len_list pl.isList (by simp only [List.size_toArray] <;> omega) ⟨.int ys.length, H, I.tok _, ⟨s.toks + 1, by rw [List.size_toArray, hlen]⟩, q⟩
  · obtain ⟨its, r', pl, hz⟩ := I.tuple hq
    have hlen := r'.length
    exact len_tuple pl (by simp only [List.size_toArray] <;> omega) ⟨.int ys.length, H, I.tok _, ⟨s.toks + 1, by rw [List.size_toArray, hlen]⟩, q⟩
theorem CallR.or {f : Value} {r r' : List V → Hp → VK → Prop} (h : CallR X f r) (h' : CallR X f r') : CallR X f (fun xs H Q => r xs H Q ∨ r' xs H Q) := by
  intro pins s σ H xs us Q I rs q
  rcases q with q | q
  · exact h pins s σ H xs us Q I rs q
  · exact h' pins s σ H xs us Q I rs q
theorem call_list_of : CallR X (.type "list") (fun xs H Q => ∃ p ys, xs = [.ref p] ∧ (SqL X.K H p ys ∨ SqT X.K H p ys) ∧ ∀ l, H l = none → Q (.ref l) (upd H l (.lst ys))) := by
  intro pins s σ H xs us Q I r h
  obtain ⟨p, ys, rfl, hq, q⟩ := h
  obtain ⟨u, rfl, rx⟩ := vals1 r
  cases rx
  have fin : ∀ (its : List Value), Vals ys its → ys.length ≤ sizeLine → ∀ (h' : Heap) (c' : Nat), (∀ b o', s.heap.get? b = some o' → h'.get? b = some o') →
      h'.get? s.heap.objs.size = some { cls := .type "list", dict := none, data := .seq its.toArray c', slots := #[] } → EP X pins σ Q (.ref s.heap.objs.size) { s with heap := h' } := fun its r' hz h' c' kp e =>
    ⟨.ref s.heap.objs.size, _, I.laid (t' := s.toks) kp (Nat.le_refl _) (show ObjOk X.prog X.w _ h' _ (.lst ys) from ⟨hz, its, c', r', e⟩), rfl, q _ (I.hok.fresh (Nat.le_refl _))⟩
  rcases hq with hq | hq
  · obtain ⟨its, r', pl, hz⟩ := I.list hq
    have hlen := r'.length
    obtain ⟨o, ho, hc, n, hd⟩ := pl.isList
    exact call_list_seq p (.inl rfl) ho hc hd (fun h' c' kp e => fin its r' hz h' c' kp e) (by simp only [List.size_toArray] <;> omega)
  · obtain ⟨its, r', pl, hz⟩ := I.tuple hq
    have hlen := r'.length
    obtain ⟨o, ho, hc, n, hd⟩ := pl
    exact call_list_seq p (.inr rfl) ho hc hd (fun h' c' kp e => fin its r' hz h' c' kp e) (by simp only [List.size_toArray] <;> omega)
theorem call_tuple_of : CallR X (.type "tuple") (fun xs H Q => ∃ p ys, xs = [.ref p] ∧ ((SqL X.K H p ys ∧ ∀ l, H l = none → Q (.ref l) (upd H l (.tup ys))) ∨ (SqT X.K H p ys ∧ Q (.ref p) H))) := by
  intro pins s σ H xs us Q I r h
  obtain ⟨p, ys, rfl, h⟩ := h
  obtain ⟨u, rfl, rx⟩ := vals1 r
  cases rx
  rcases h with ⟨hq, q⟩ | ⟨hq, q⟩
  · obtain ⟨its, r', pl, hz⟩ := I.list hq
    have hlen := r'.length
    refine call_tuple_list pl.isList (fun h' kp => ?_) (by simp only [List.size_toArray] <;> omega)
    have I1 : Inv X pins σ H { s with heap := h' } := I.kept (t' := s.toks) kp
    have I2 : Inv X pins σ (upd H h'.objs.size (.tup ys)) { s with heap := h'.push { cls := .type "tuple", data := .seq its.toArray } } :=
      I1.laid (t' := s.toks) (fun b o e => Heap.get?_push_of_some _ e) (Nat.le_refl _) (show ObjOk X.prog X.w _ _ _ (.tup ys) from ⟨hz, its, r', IsTup.new _ _⟩)
    exact ⟨.ref h'.objs.size, _, I2, rfl, q _ (I1.hok.fresh (Nat.le_refl _))⟩
  · obtain ⟨its, r', pl, hz⟩ := I.tuple hq
    exact call_tuple_same pl ⟨.ref p, H, I, rfl, q⟩

/-! ### the call of a builtin's method: o.m(..) -/
def tyV (K : PySem.W.Frag) (T : String) (x : V) (H : Hp) : Prop := match x with
  | .str _ => T = "str"
  | .int _ => T = "int"
  | .ref p => (T = "list" ∧ ∃ xs, SqL K H p xs) ∨ (T = "tuple" ∧ ∃ o, K.lookup p = some o ∧ o.cls = .type "tuple" ∧ o.dict = none) ∨
      (T = "dict" ∧ ((∃ kvs, H p = some (.dK kvs)) ∨ ∃ kvs, H p = some (.dT kvs))) ∨ (T = "set" ∧ ∃ S n, H p = some (.set S n))
  | _ => False
theorem tyV_is {pins : List (Addr × Obj)} {σ : St} {H : Hp} {s : Shared} {T : String} {x : V} {v : Value} (I : Inv X pins σ H s) (r : RelV x v) (ty : tyV X.K T x H) :
    s.TypeIs v T ∧ ∀ a, v = .ref a → ∃ ob, s.heap.get? a = some ob ∧ ob.dict = none := by
  cases x with
  | str z =>
    obtain ⟨t, rfl⟩ := r
    cases (show T = "str" from ty)
    exact ⟨typeIs_str s z t, fun _ e => nomatch e⟩
  | int i =>
    obtain ⟨t, rfl⟩ := r
    cases (show T = "int" from ty)
    exact ⟨typeIs_int s i t, fun _ e => nomatch e⟩
  | ref p =>
    cases r
    rcases ty with ⟨rfl, xs, hq⟩ | ⟨rfl, o, hk, hc, hd⟩ | ⟨rfl, hk⟩ | ⟨rfl, S, n, hk⟩
    · obtain ⟨its, _, pl, _⟩ := I.list hq
      refine ⟨pl.isList.typeIs, fun a e => ?_⟩
      cases e
      obtain ⟨o, n, e, c, hd, _⟩ := pl
      exact ⟨o, e, hd⟩
    · refine ⟨⟨o, I.kIn p o hk, hc⟩, fun a e => ?_⟩
      cases e
      exact ⟨o, I.kIn _ o hk, hd⟩
    · have z : ∃ o, s.heap.get? p = some o ∧ o.ExactDict := by
        rcases hk with ⟨kvs, hk⟩ | ⟨kvs, hk⟩
        · obtain ⟨_, _, _, _, o, _, _, e, ex, _⟩ := I.hok p _ hk
          exact ⟨o, e, ex⟩
        · obtain ⟨_, _, _, _, o, _, _, e, ex, _⟩ := I.hok p _ hk
          exact ⟨o, e, ex⟩
      obtain ⟨o, e, ex⟩ := z
      refine ⟨⟨o, e, ex.1⟩, fun a e2 => ?_⟩
      cases e2
      exact ⟨o, e, ex.2.1⟩
    · obtain ⟨o, _, _, _, e, ex, _⟩ := I.hok p _ hk
      refine ⟨⟨o, e, ex.1⟩, fun a e2 => ?_⟩
      cases e2
      exact ⟨o, e, ex.2.1⟩
  | _ => exact False.elim ty
def tBM0 (K : PySem.W.Frag) (T : String) (r : V → List V → Hp → VK → Prop) (to : TE) : TE := fun σ H Q => to σ H fun x H1 => tyV K T x H1 ∧ r x [] H1 Q
def tBM (K : PySem.W.Frag) (T : String) (r : V → List V → Hp → VK → Prop) (to : TE) (t : TA) : TE := fun σ H Q => to σ H fun x H1 => tyV K T x H1 ∧ t σ H1 fun xs H2 => r x xs H2 Q
variable {o e : Expr} {es : List Expr} {to : TE} {t : TA} {name : Str} {apos cpos : Pos} {T id : String} {r : V → List V → Hp → VK → Prop}
theorem pe_bm0 (pa : PlainAttrs T) (slot : Slot T name id) (hty : typeOf (.builtin id) = pure (.type "method_descriptor")) (hm : MtR X id r) (ho : PE X o to)
    (hbase : attributeBase o name X.env (eval o X.env) = eval o X.env := by rfl) (hline : (apos.endLine == cpos.line) = true := by rfl) : PE X (.Call (.Attribute o name apos) [] [] cpos) (tBM0 X.K T r to) := by
  intro pins s σ H Q I h
  refine wpAny_Call_method0_late hbase hline (thn (ho pins s σ H _ I h) fun v s1 ⟨x, H1, I1, r1, ty, q1⟩ => ?_)
  obtain ⟨h1, h2⟩ := tyV_is I1 r1 ty
  exact ⟨T, id, pa, slot, hty, h1, h2, Calls.callWith_builtin rfl (PySem.evalArgs_none (hm pins s1 σ H1 x [] v [] Q I1 r1 .nil q1))⟩
theorem pe_bm (pa : PlainAttrs T) (slot : Slot T name id) (hty : typeOf (.builtin id) = pure (.type "method_descriptor")) (hm : MtR X id r) (ho : PE X o to) (ha : PA X (e :: es) t)
    (hbase : attributeBase o name X.env (eval o X.env) = eval o X.env := by rfl)
    (hfew : ((backTo cpos (starEach (e :: es) X.env)).all (fun x => !x.1) && (backToKw cpos (keywordEach [] X.env)).all (fun x => x.1.isSome)
      && decide ((e :: es).length + ([] : List Keyword).length + (if ([] : List Keyword).isEmpty then 0 else 1) < 30)) = true := by rfl)
    (hline : (apos.endLine == cpos.line) = true := by rfl) (hs : starEach (e :: es) X.env = (false, eval e X.env) :: starEach es X.env := by rfl) (hplain : (backTo cpos (starEach es X.env)).any (·.1) = false := by rfl) :
    PE X (.Call (.Attribute o name apos) (e :: es) [] cpos) (tBM X.K T r to t) := by
  intro pins s σ H Q I h
  refine wpAny_Call_method_late hbase hfew hline rfl (thn (ho pins s σ H _ I h) fun v s1 ⟨x, H1, I1, r1, ty, q1⟩ => ?_)
  obtain ⟨h1, h2⟩ := tyV_is I1 r1 ty
  refine ⟨T, id, pa, slot, hty, h1, h2, ?_⟩
  have hA := ha cpos pins s1 σ H1 _ I1 q1
  rw [hs] at hA ⊢
  refine Calls.callWith_builtin (by show (false || (backTo cpos (starEach es X.env)).any (·.1)) = false; rw [hplain] <;> rfl) (Calls.evalArgs_plain ?_)
  exact thn hA fun us s2 ⟨vs, H2, I2, r2, q2⟩ => hm pins s2 σ H2 x vs v us Q I2 r1 r2 q2
/- xs.append(e), list.index on a module's tuple .. are MtR facts of 06m -/
end
end L2

namespace L2
open PySem PySem.Spec PyProof.Rows

def MtM (X : Cx) (id : String) (r : V → List V → Hp → VK → Prop) : Prop :=
  ∀ (pins : List (Addr × Obj)) (s : Shared) (σ : St) (H : Hp) (x : V) (xs : List V) (v : Value) (us : List Value) (Q : VK), Inv X pins σ H s → RelV x v → Vals xs us → r x xs H Q →
    wpAny (model X.prog X.w) X.A (call (.builtin id) (v :: us)) (EP X pins σ Q) X.xe s

/-! ### lists of values -/
theorem Vals.one : ∀ {x : V} {us : List Value}, Vals [x] us → ∃ u, us = [u] ∧ RelV x u
  | _, _, .cons r .nil => ⟨_, rfl, r⟩
theorem Vals.two : ∀ {x y : V} {us : List Value}, Vals [x, y] us → ∃ u v, us = [u, v] ∧ RelV x u ∧ RelV y v
  | _, _, _, .cons r (.cons q .nil) => ⟨_, _, rfl, r, q⟩
theorem Vals.zero : ∀ {us : List Value}, Vals [] us → us = []
  | _, .nil => rfl
theorem Vals.eraseIdx : ∀ {xs : List V} {us : List Value} (i : Nat), Vals xs us → Vals (xs.eraseIdx i) (us.eraseIdx i)
  | _, _, _, .nil => .nil
  | _, _, 0, .cons _ t => t
  | _, _, i + 1, .cons r t => .cons r (Vals.eraseIdx i t)
theorem Vals.reverse {xs : List V} {us : List Value} (h : Vals xs us) : Vals xs.reverse us.reverse := by
  induction h with
  | nil => exact .nil
  | cons r t ih => rw [List.reverse_cons, List.reverse_cons]; exact Vals.append ih (.cons r .nil)
theorem Vals.rep {xs : List V} {us : List Value} (h : Vals xs us) : ∀ k : Nat, Vals (List.replicate k xs).flatten (List.replicate k us).flatten
  | 0 => .nil
  | k + 1 => by
    rw [List.replicate_succ, List.replicate_succ, List.flatten_cons, List.flatten_cons]
    exact Vals.append h (Vals.rep h k)
section
variable {X : Cx} {pins : List (Addr × Obj)} {σ : St} {H : Hp} {s : Shared} {l b : Addr} {xs ys zs : List V}

/-! ### the two steps: a tracked list is rewritten, a new list is laid -/
theorem Inv.lset {its its' : List Value} {n : Nat} {f : Array Value → Array Value} {t' : Nat} (I : Inv X pins σ H s) (hH : H l = some (.lst xs))
    (e : s.heap.get? l = some { cls := .type "list", data := .seq its.toArray n }) (hf : f its.toArray = its'.toArray) (hv : Vals ys its') (hz : ys.length ≤ sizeLine) :
    Inv X pins σ (upd H l (.lst ys)) { s with heap := s.heap.update l (Obj.mapSeq f), toks := t' } := by
  have q := PySem.IsL.update e f
  rw [hf] at q
  refine I.write (x := l) (e := l) (by rw [hH]; exact trivial) (.inl rfl) (fun b' u hb hu => (Heap.get?_update_other s.heap (Obj.mapSeq f) (Ne.symm hb)).trans hu) ⟨_, q⟩ ?_
  exact ⟨hz, its', _, hv, q⟩
theorem Inv.lnew {its : List Value} {t' : Nat} (I : Inv X pins σ H s) (hv : Vals ys its) (hz : ys.length ≤ sizeLine) :
    Inv X pins σ (upd H s.heap.objs.size (.lst ys)) { s with heap := s.heap.push { cls := .type "list", data := .seq its.toArray }, toks := t' } :=
  I.laid (fun _ _ q => Heap.get?_push_of_some _ q) (Nat.le_refl _) ⟨hz, its, 0, hv, Heap.get?_push_size _ rfl⟩
theorem Inv.fresh (I : Inv X pins σ H s) : H s.heap.objs.size = none := I.hok.fresh (Nat.le_refl _)
theorem Inv.lstM (I : Inv X pins σ H s) (hH : H l = some (.lst xs)) : xs.length ≤ sizeLine ∧ ∃ (its : List Value) (n : Nat), Vals xs its ∧ xs.length = its.length ∧ s.heap.get? l = some { cls := .type "list", data := .seq its.toArray n } := by
  obtain ⟨z, its, n, r, e⟩ := I.hok l _ hH
  exact ⟨z, its, n, r, r.length, e⟩

end

section
variable {X : Cx}

/-! ### methods -/
def rAppend : V → List V → Hp → VK → Prop := fun x vs H Q => ∃ l xs y, x = .ref l ∧ vs = [y] ∧ H l = some (.lst xs) ∧ xs.length < sizeLine ∧ Q .non (upd H l (.lst (xs ++ [y])))
theorem mt_append : MtM X "list.append" rAppend := by
  intro pins s σ H x vs v us Q I rx rv h
  obtain ⟨l, xs, y, rfl, rfl, hH, hz, q⟩ := h
  cases rx
  obtain ⟨u, rfl, ru⟩ := rv.one
  obtain ⟨z, its, n, r, hl, e⟩ := I.lstM hH
  refine call_meets F.slot_list_append ⟨_, e, rfl⟩ F.entry_list_append (F.args_list_append_2 _ _) (PySem.list_append l its.toArray n u (by rw [List.size_toArray]; omega)) ⟨e, ?_⟩
  refine ⟨.non, _, I.lset (its' := its ++ [u]) hH e (by simp) (r.append (.cons ru .nil)) ?_, rfl, q⟩
  rw [List.length_append, List.length_singleton]
  omega

def rReverse : V → List V → Hp → VK → Prop := fun x vs H Q => ∃ l xs, x = .ref l ∧ vs = [] ∧ H l = some (.lst xs) ∧ Q .non (upd H l (.lst xs.reverse))
theorem mt_reverse : MtM X "list.reverse" rReverse := by
  intro pins s σ H x vs v us Q I rx rv h
  obtain ⟨l, xs, rfl, rfl, hH, q⟩ := h
  cases rx
  have hus := rv.zero
  subst hus
  obtain ⟨z, its, n, r, hl, e⟩ := I.lstM hH
  refine call_meets F.slot_list_reverse ⟨_, e, rfl⟩ F.entry_list_reverse (F.args_list_reverse_1 _) (AutoSeq1.list_reverse_list_0 l its.toArray n (by rw [List.size_toArray]; omega)) ⟨e, ?_⟩
  refine ⟨.non, _, I.lset (its' := its.reverse) hH e (by simp) r.reverse ?_, rfl, q⟩
  rw [List.length_reverse]
  omega

/-! ### list + list, list += list, list * int -/
def rCat : R2 := fun x y H Q => ∃ l b xs zs, x = .ref l ∧ y = .ref b ∧ H l = some (.lst xs) ∧ H b = some (.lst zs) ∧ xs.length + zs.length ≤ sizeLine ∧ ∀ p, H p = none → Q (.ref p) (upd H p (.lst (xs ++ zs)))
theorem op_cat : OpR X (binaryOp .Add) rCat := by
  intro pins s σ H x y v u Q I rx ry h
  obtain ⟨l, b, xs, zs, rfl, rfl, hH, hB, hz, q⟩ := h
  cases rx
  cases ry
  obtain ⟨z, its, n, r, hl, e⟩ := I.lstM hH
  obtain ⟨z2, its2, n2, r2, hl2, e2⟩ := I.lstM hB
  refine PySem.P.add_list e e2 ?_ (by rw [List.size_toArray, List.size_toArray]; omega)
  have ea : its.toArray ++ its2.toArray = (its ++ its2).toArray := by simp
  rw [ea]
  exact ⟨.ref _, _, I.lnew (t' := s.toks) (r.append r2) (by rw [List.length_append]; omega), rfl, q _ I.fresh⟩
/-! ### del xs[i] -/
end

/-! ### xs[a:b] = ys -/
section
variable {prog : Program} {w : World} {A : Around} {E : Value → Shared → Prop} {s : Shared}
end

section
variable {X : Cx}
end
end L2

namespace Att
open PySem PySem.W PySem.Calls PyProof.Rows

/-! ### the script -/
theorem ints_of_wellAll {P : Params} {h : Heap} : ∀ (ns : List Int) (vs : List Value), WellAll P h vs (ns.map WData.int) → IntsAre vs ns := by
  intro ns
  induction ns with
  | nil =>
    intro vs w
    rw [List.map_nil] at w
    cases w
    exact .nil
  | cons n ns ih =>
    intro vs w
    rw [List.map_cons] at w
    cases w with
    | cons a b =>
      cases a
      exact .cons _ _ (ih _ b)

theorem script_of {l : OpenLaw} {n : Nat} (hn : l.most = some n) {P : Params} {h : Heap} {args : List WData} {vals : List Value}
    (hpre : l.row.toRowW.claim.pre args = true) (hwl : WellAll P h vals args) :
    ∃ a vs ns, vals = [Value.ref a] ∧ args = [WData.list (ns.map WData.int)] ∧ h.get? a = some { cls := .type "list", data := .seq vs.toArray } ∧ IntsAre vs ns ∧ ns.length ≤ n := by
  have hsh : WShape.hasAll [] args [.list .int] = true := (pre_splitW hpre).1
  have hc : l.pre.holds [] { args := args } = true := (pre_splitW hpre).2
  obtain ⟨d, r, rfl, h1, h2⟩ := hasAllW_cons hsh
  obtain rfl := hasAllW_nil h2
  obtain ⟨xs, rfl, h3⟩ := hasW_list h1
  obtain ⟨ns, rfl⟩ := items_int h3
  have hlen : ns.length ≤ n := by
    unfold OpenLaw.pre at hc
    have h4 : (WTm.not (.lt (.lit (.int (n : Int))) (.len (.arg 0)))).holds [] { args := [.list (ns.map .int)] } = true := by
      have h4 := (holds_andW hc).1
      rw [hn] at h4
      exact h4
    have h5 := condW_of h4 (w_not (w_lt w_lit (w_len_list (w_arg rfl))))
    rw [List.length_map] at h5
    refine Nat.le_of_not_lt fun q => ?_
    have q' : (n : Int) < ((ns.length : Nat) : Int) := by omega
    first
      | (rw [decide_eq_true q'] at h5; exact absurd h5 (by decide))
      | (simp at h5; omega)
  cases hwl with
  | cons w1 w2 =>
    cases w2
    cases w1 with
    | list ho hall => exact ⟨_, _, ns, rfl, rfl, ho, ints_of_wellAll ns _ hall, hlen⟩

theorem post_true (l : OpenLaw) (args : List WData) : l.row.toRowW.claim.post args (.bool true) args = true :=
  postW_of (r := l.row.toRowW) (X := (true == true))
    (show WShape.has [] (.bool true) .bool = true by first | rfl | decide | simp [WShape.has, WShape.arms, WShape.armsAll])
    (show (WTm.eq .res (.lit (.bool true))).value [] { args := args, res := some (.bool true), after := args } = some (.bool (true == true)) from w_eq_bool (w_res rfl) w_lit) rfl

/-! ### the attachment: holds_open's last premise (the goal 'hc' behind k_head) from a wpAny of the law's body -/
theorem attach_call {l : OpenLaw} {n : Nat} {q : Program} {loose : List Str} {XP : (Str → Option Value) → Heap → Prop} {YP : World → Heap → Prop} {d : DefRec}
    (hn : l.most = some n) (hdf : d.params.defaults = [])
    (call : ∀ (w : World) (s₀ s₁ : Shared) (mg mb : Str → Option Value) (fa : Addr) (o : Obj) (pm cd doc : Value) (a : Addr) (vs : List Value) (ns : List Int),
      Ground q loose [] XP w s₀ mg mb s₁.heap → YP w s₁.heap →
      s₁.heap.get? fa = some o → o.data = .func (docDef d.name d.params d.body d.scope pm cd doc) → s₁.heap.CodeRec cd d.name → mg d.name = some (.ref fa) →
      s₁.heap.get? a = some { cls := .type "list", data := .seq vs.toArray } → IntsAre vs ns → ns.length ≤ n → s₁.gens = #[] →
      codeAny (model l.prog w) callerA (.call (.ref fa) ⟨[.ref a], []⟩) (fun r s' => r = .ok (.ret (.bool true)) ∧ OldK s₁.heap s'.heap ∧ s'.os = s₁.os ∧ AllBare s'.gens) s₁) :
    WalkO q loose XP YP l.row.toRowW d [] (fun f vs => PySem.call f vs) := by
  intro w s₀ s₁ mg mb G Y fa o pm cd doc dV kV ho hd hcd hD hmg hg args vals as hpre hlay hrd hwl hlo
  obtain rfl : dV = .none := Dflts.none hD hdf
  obtain rfl : kV = .none := Dflts.noKw hD
  obtain ⟨a, vs, ns, rfl, rfl, hobj, hints, hlen⟩ := script_of hn hpre hwl
  refine enter_call (codeAny_mono (call w s₀ s₁ mg mb fa o pm cd doc a vs ns G Y ho (fd_plain hd) hcd hmg hobj hints hlen hg) fun r s' hq => ?_)
  obtain ⟨rfl, h2, h3, h4⟩ := hq
  exact ⟨.inl ⟨.bool true, .bool true, [], rfl, fun _ => rfl, .bool true, post_true l _, fun _ => ⟨List.Pairwise.nil, fun _ hm => (nomatch hm)⟩⟩, h2, h3, h4⟩

/-! ### rules over ANY heap (no ledger) from facts about the written part K: the library's own take a ledger (News) for what they write -/
section
variable {prog : Program} {w : World} {A : Around} {E : Value → Shared → Prop} {s : Shared} {K : Frag}

/-! the whole heap as the ledger: makes every rule that writes through a ledger a rule over any heap -/
def ledger (h : Heap) (L d : Addr) : List (Addr × Obj) := (List.range h.objs.size).filterMap fun a => if a = L ∨ a = d then none else (h.get? a).map fun o => (a, o)
end
end Att

namespace L2
open PySem PySem.Spec PyProof.Rows

theorem vals_ints : ∀ {vs : List Value} {ns : List Int}, IntsAre vs ns → Vals (ns.map V.int) vs
  | _, _, .nil => .nil
  | _, _, .cons n t h => .cons ⟨t, rfl⟩ (vals_ints h)

def Only (H : Hp) : Prop := ∀ b, H b = none ∨ ∃ o xs, H b = some (.frz o (.lst xs))

theorem law_call {P : Program} {w : World} {K : PySem.W.Frag} {mg mb : Str → Option Value} {CX : CXT} {k : Nat} {fa a : Addr} {fd : FuncData} {x : Str} {sp : Sp} {s₁ : Shared} {vs : List Value} {ns : List Int}
    (KX : K.In s₁.heap) (hns : s₁.heap.Ns mainGlobals mg) (hb : s₁.heap.Ns builtinsNs mb) (hbb : ∀ x : Str, x ≠ "__name__" → mb x = bootBuiltins x) (hlim : s₁.heap.NoLimit) (hg : s₁.gens = #[])
    (ha : s₁.heap.get? a = some { cls := .type "list", data := .seq vs.toArray }) (hi : IntsAre vs ns) (hl : ns.length ≤ sizeLine) (hr : Room k callerA)
    (F : ∀ base : Heap, K.In base → base.Ns mainGlobals mg → FnOk P w K mg base CX k fa fd [x] sp) (hbind : ∀ (s : Shared) (u : Value), BindsTo s fd ⟨[u], []⟩ [(x, u)])
    (hsp : ∀ H : Hp, Only H → SqL K H a (ns.map V.int) → sp [.ref a] H (fun v _ => v = .bl true) fun _ _ _ => False)
    (hCX : ∀ H e s', CX [] H s₁ (fun _ _ _ => False) e s' → False) :
    codeAny (model P w) callerA (.call (.ref fa) ⟨[.ref a], []⟩) (fun r s' => r = .ok (.ret (.bool true)) ∧ OldK s₁.heap s'.heap ∧ s'.os = s₁.os ∧ AllBare s'.gens) s₁ := by
  have rv := vals_ints hi
  have lenV := hi.length
  -- from an abstract heap in which nothing but the script may be tracked
  have core : ∀ H : Hp, Only H → SqL K H a (ns.map V.int) → HOk P w H s₁.heap → (∀ b, H b ≠ none → b = a) → (H a ≠ none → K.lookup a = none) →
      codeAny (model P w) callerA (.call (.ref fa) ⟨[.ref a], []⟩) (fun r s' => r = .ok (.ret (.bool true)) ∧ OldK s₁.heap s'.heap ∧ s'.os = s₁.os ∧ AllBare s'.gens) s₁ := by
    intro H hO hS hok hA hK
    have base_of : ∀ {b : Addr} {o : Obj}, s₁.heap.get? b = some o → H b = none → (hidT s₁.heap H).get? b = some o := fun e n => hidT_get e n
    have noA : ∀ {b : Addr} {o : Obj} {es : Array DictEntry} {ep : Nat}, s₁.heap.get? b = some o → o.data = .dict es ep → H b = none := fun {b o es ep} e d => by
      cases q : H b with
      | none => rfl
      | some u =>
        have e' : b = a := hA b (by rw [q]; simp)
        subst e'
        rw [ha] at e; cases e
        have d' : Data.seq vs.toArray _ = Data.dict es ep := d
        cases d'
    have nsK : ∀ {b : Addr} {m : Str → Option Value}, s₁.heap.Ns b m → (hidT s₁.heap H).Ns b m := fun {b m} ⟨o, es, ep, e, d, r⟩ => ⟨o, es, ep, base_of e (noA e d), d, r⟩
    have hKb : K.In (hidT s₁.heap H) := fun b o e => base_of (KX b o e) (by
      cases q : H b with
      | none => rfl
      | some u =>
        have e' : b = a := hA b (by rw [q]; simp)
        subst e'
        rw [hK (by rw [q]; simp)] at e; cases e)
    have hM : Mod K mg (hidT s₁.heap H) := ⟨hKb, nsK hns, ⟨mb, nsK hb, hbb⟩, let ⟨mc, h1, h2⟩ := hlim; ⟨mc, nsK h1, h2⟩⟩
    have e0 : Env0 P w K mg (hidT s₁.heap H) callerA [] s₁ H := ⟨rfl, hM, fun b o e => of_hidT e, Nat.le_of_eq (hidT_size _ _), trivial, fun b hb => absurd (show b ∈ ([] : List Addr) from hb) (by simp), hok, .of_eq hg⟩
    refine codeAny_mono ((F _ hKb (nsK hns)).run callerA [] s₁ H ⟨[.ref a], []⟩ [.ref a] [.ref a] _ _ hr e0 (hbind s₁ (.ref a)) (.cons rfl .nil) (hsp H hO hS)) fun r s' h => ?_
    cases r with
    | error e => exact (hCX H e s' h).elim
    | ok fl =>
      cases fl with
      | next => exact False.elim h
      | brk => exact False.elim h
      | cont => exact False.elim h
      | ret u =>
        obtain ⟨v, H', os, bare, un, hok', r', q⟩ := h
        have q' : v = .bl true := q
        subst q'
        obtain rfl : u = Value.bool true := r'
        refine ⟨rfl, OldK.of_keep fun b o e => ?_, os, bare⟩
        cases q : H b with
        | none => exact un.keep b o e q (by intro z; exact absurd (show b ∈ ([] : List Addr) from z) (by simp)) (by simp)
        | some u =>
          rcases hO b with z | ⟨ob, xs, z⟩
          · rw [q] at z; cases z
          · have z2 := un.frzs b ob _ z
            obtain ⟨e1, _⟩ := hok b _ z
            obtain ⟨e2, _⟩ := hok' b _ z2
            rw [e] at e1; cases e1
            exact e2
  cases hk : K.lookup a with
  | some o =>
    -- the script is one of the module's own objects
    have e := KX a o hk
    rw [ha] at e
    cases e
    refine core (fun _ => none) (fun _ => .inl rfl) (.inr ⟨_, vs.toArray, _, hk, rfl, rfl, rfl, by rw [List.size_toArray, lenV]; exact hl, by simpa using rv⟩) (fun b u z => by have z' : (none : Option HO) = some u := z; cases z') (fun b z => absurd rfl z) fun z => absurd rfl z
  | none =>
    refine core (fun b => if b = a then some (.frz { cls := .type "list", data := .seq vs.toArray } (.lst (ns.map V.int))) else none) (fun b => ?_) (.inl (.inr ⟨{ cls := .type "list", data := .seq vs.toArray }, if_pos rfl⟩)) (fun b u z => ?_) (fun b z => ?_) fun _ => hk
    · by_cases hb : b = a
      · exact .inr ⟨_, _, if_pos hb⟩
      · exact .inl (if_neg hb)
    · by_cases hb : b = a
      · have z' := (if_pos hb).symm.trans z
        cases z'
        subst hb
        exact ⟨ha, by rw [List.length_map]; exact hl, vs, _, rv, ha⟩
      · have z' := (if_neg hb).symm.trans z
        cases z'
    · by_cases hb : b = a
      · exact hb
      · exact absurd (if_neg hb) z
end L2

namespace L2
open PySem PySem.Spec PyProof.Rows

abbrev KOf {K : PySem.W.Frag} {h : Heap} (_ : K.In h) : PySem.W.Frag := K

theorem walk_of {l : PySem.W.OpenLaw} {n k : Nat} {q : Program} {loose : List Str} {XP : (Str → Option Value) → Heap → Prop} {YP : World → Heap → Prop} {d : DefRec} {K : Params → PySem.W.Frag} {CX : World → CXT} {sp : World → Sp} {x : Str}
    (hn : l.most = some n) (hn2 : n ≤ sizeLine) (hdf : d.params.defaults = []) (hr : Room k callerA)
    (hY : ∀ (w : World) (h : Heap), YP w h → (K w.params).In h)
    (F : ∀ (w : World) (mg : Str → Option Value) (fa : Addr) (h : Heap), (K w.params).In h → h.Ns mainGlobals mg → mg d.name = some (.ref fa) →
      ∃ fd : FuncData, (∀ (s : Shared) (u : Value), BindsTo s fd ⟨[u], []⟩ [(x, u)]) ∧
        ∀ base : Heap, (K w.params).In base → base.Ns mainGlobals mg → FnOk l.prog w (K w.params) mg base (CX w) k fa fd [x] (sp w))
    (hsp : ∀ (w : World) (H : Hp) (a : Addr) (ns : List Int), ns.length ≤ n → Only H → SqL (K w.params) H a (ns.map V.int) → sp w [.ref a] H (fun v _ => v = .bl true) fun _ _ _ => False)
    (hCX : ∀ (w : World) (H : Hp) (s : Shared) (e : Value) (s' : Shared), CX w [] H s (fun _ _ _ => False) e s' → False) :
    PySem.W.WalkO q loose XP YP l.row.toRowW d [] (fun f vs => PySem.call f vs) := by
  refine Att.attach_call hn hdf fun w s₀ s₁ mg mb fa o pm cd doc a vs ns G Y ho hd hcd hmg hobj hints hlen hg => ?_
  have KX := hY w _ Y
  obtain ⟨fd, hb, hF⟩ := F w mg fa _ KX G.T.g hmg
  exact law_call KX G.T.g G.T.b G.T.builtins G.T.nolimit hg hobj hints (Nat.le_trans hlen hn2) hr hF hb (fun H hO hS => hsp w H a ns hlen hO hS) fun H e s' => hCX w H s₁ e s'
end L2

/- THE LAST THEOREM (shape; LID, My.* are yours):
   My.Adr: a structure of the addresses that your layer names (classes, functions); My.Txt K t: a structure (Prop) of the equations over K;
   My.txt_mk : {K} {implicit addresses ..} (e1 : nsIn K mainGlobals "law" = some (some (.ref f))) (e2 : K.lookup f = some ⟨oc, od, .func (fnOf "law" "law" params body scope dV kV doc pm an cdv ct), sl⟩) (e3 : codeIn K cdv "law" = true) .. : ∃ t, My.Txt K t

set_option maxRecDepth 100000 in
set_option maxHeartbeats 0 in
theorem PySem.Challenge.cw_LID_holds : PySem.Challenge.rw_LID.Holds := by
  w_on; o_law; k_head; (case hw => w_witness2)
  k_fill
  refine L2.walk_of (l := PySem.Challenge.rw_LID) (n := 63) (k := 40) (x := "script") (CX := fun w => ..) (sp := fun _ => My.sp_law) rfl (by decide) rfl ⟨rfl, by decide, by decide⟩ (fun w h Y => PySem.W.kIn_of Y) ?F ?S ?C
  case F =>
    intro w mg fa h KX G hmg
    have T : ∃ t, My.Txt (L2.KOf KX) t := by
      dsimp only [L2.KOf]                          -- K must stand as «<heap const> w.params» for k_is
      refine' My.txt_mk ?e1 ?e2 ?e3 ..
      (case e1 => PySem.W.k_is)                    -- in the order: a name -> its address -> its object -> its parts
      (case e2 => PySem.W.k_is)
      ..
    obtain ⟨t, T⟩ := T
    have e0 := hmg.symm.trans (PySem.W.mg_of KX G T.law)
    cases e0                                       -- fa is the law's own address
    exact ⟨_, fun s u => .of_eq rfl, fun base kb nb => My.law_fn T kb nb⟩     -- if «.of_eq rfl» comes too early: refine' ⟨_, ?b, fun base kb nb => My.law_fn T kb nb⟩; exact fun s u => .of_eq rfl
  case S => exact fun w H a ns hl hO hS => ..
  case C => exact ..
(the tactic k_is has no namespace: write k_is) -/

/-! SHORT WORDS over the layer: a def of the text, its body, what a loop and a test want. -/
namespace L2
open PySem PySem.Spec PyProof.Rows

/-! ### the text by places -/
def defArgs (s : Stmt) : Arguments := match s with
  | .FunctionDef _ a _ _ _ _ _ _ _ _ => a
  | _ => { posonlyargs := [], args := [], vararg := none, kwonlyargs := [], kw_defaults := [], kwarg := none, defaults := [] }
def defBody (s : Stmt) : List Stmt := match s with
  | .FunctionDef _ _ b _ _ _ _ _ _ _ => b
  | _ => []
def defScope (s : Stmt) : Scope := match s with
  | .FunctionDef _ _ _ _ _ _ sc _ _ _ => sc
  | _ => { kind := .function, names := [], isGenerator := false, isCoroutine := false }

/-! ### no exception leaves a def -/
abbrev CX0 : CXT := fun _ _ _ _ _ _ => False
abbrev E0 : XK := fun _ _ _ => False
theorem pass0 {X : Cx} : Passes CX0 X E0 := fun _ _ _ _ _ _ _ h => h.elim

/-! ### a def (or method) of the text as it stands behind the top -/
structure Fun (K : PySem.W.Frag) (x qual : Str) (st : Stmt) (f : Addr) (fd : FuncData) : Prop where
  ex : ∃ (oc : Value) (od : Option Addr) (kV doc pm : Value) (an : Option Addr) (cdv ct : Value) (osl : Array (Option Value)),
    fd = PySem.W.fnOf x qual (defArgs st) (defBody st) (defScope st) .none kV doc pm an cdv ct ∧ K.lookup f = some ⟨oc, od, .func fd, osl⟩ ∧ PySem.W.codeIn K cdv qual = true
  kp : PySem.W.keepIn K (.ref f) = true
section
variable {P : Program} {w : World} {K : PySem.W.Frag} {mg : Str → Option Value} {base : Heap}
theorem Fun.ok {x qual : Str} {st : Stmt} {f : Addr} {fd : FuncData} {N ps : List Str} {k : Nat} {sp : Sp} (F : Fun K x qual st f fd) (S : FnScope N ps (defScope st)) (len : ∀ vs H Q E, sp vs H Q E → vs.length = ps.length)
    (hbody : ∀ (cdv : Value) (A : Around) (outer : List Env) (s : Shared) (H : Hp) (vs : List V) (Q : VK) (E : XK), Room k (A.deeper (envOfC qual (defScope st) s.heap.objs.size f cdv)) → sp vs H Q E →
      ∃ t, PSs (cxOf CX0 P w K mg base N qual (defScope st) f cdv A outer s H E).nox (defBody st) t ∧ t { nx := fun _ H' => Q .non H', rt := Q } (start N vs) H) : FnOk P w K mg base CX0 (k + 1) f fd ps sp := by
  obtain ⟨oc, od, kV, doc, pm, an, cdv, ct, osl, rfl, lk, hcd⟩ := F.ex
  refine fn_of lk hcd S len fun A outer s H vs Q E hr hsp => ?_
  obtain ⟨t, h, q⟩ := hbody cdv A outer s H vs Q E hr hsp
  exact ⟨t, h.nox, q⟩
theorem Fun.binds {x qual : Str} {st : Stmt} {f : Addr} {fd : FuncData} {ps : List Str} (F : Fun K x qual st f fd)
    (h : ∀ (kV doc pm : Value) (an : Option Addr) (cdv ct : Value) (us : List Value), us.length = ps.length → bindArgs (PySem.W.fnOf x qual (defArgs st) (defBody st) (defScope st) .none kV doc pm an cdv ct) ⟨us, []⟩ = pure (ps.zip us)) : Binds K fd ps [] := by
  obtain ⟨oc, od, kV, doc, pm, an, cdv, ct, osl, rfl, lk, hcd⟩ := F.ex
  exact .all (h kV doc pm an cdv ct)
theorem fun_mk {x qual : Str} {st : Stmt} {f : Addr} {oc : Value} {od an : Option Addr} {osl : Array (Option Value)} {kV doc pm cdv ct : Value} (l : K.lookup f = some ⟨oc, od, .func (PySem.W.fnOf x qual (defArgs st) (defBody st) (defScope st) .none kV doc pm an cdv ct), osl⟩)
    (c : PySem.W.codeIn K cdv qual = true) (k : PySem.W.keepIn K (.ref f) = true) : Fun K x qual st f (PySem.W.fnOf x qual (defArgs st) (defBody st) (defScope st) .none kV doc pm an cdv ct) := ⟨⟨oc, od, kV, doc, pm, an, cdv, ct, osl, rfl, l, c⟩, k⟩
end
theorem hu_of {A : Around} {k : Nat} (hr : Room k A) : A.units + 1 < cLine := Nat.lt_of_le_of_lt (Nat.add_le_add_left (by decide : 1 ≤ 64) _) hr.units
/-! ### expressions in short: the name that stands in the i-th slot -/
section
variable {X : Cx}
theorem pv (i : Nat) {x : Str} {pos : Pos} (hN : X.N[i]? = some x := by rfl) (hv : Vis X.env.scope x := by first | exact Or.inl rfl | exact Or.inr (Or.inl rfl) | exact Or.inr (Or.inr rfl)) (hd : (x == ("__debug__" : Str)) = false := by decide)
    (hcd : (x == ("__classdict__" : Str)) = false := by decide) : PE X (.Name x pos) (tVar i) := pe_var hN hv hd hcd
end

/-! ### tests -/
theorem ite2 {c A B : Prop} [Decidable c] (h1 : c → A) (h2 : ¬ c → B) : if c then A else B := by
  by_cases h : c
  · rw [if_pos h]
    exact h1 h
  · rw [if_neg h]
    exact h2 h
/-! ### heaps -/
def Same (H H' : Hp) : Prop := ∀ b o, H b = some o → H' b = some o
theorem Same.refl (H : Hp) : Same H H := fun _ _ h => h
theorem Same.trans {H H1 H2 : Hp} (a : Same H H1) (b : Same H1 H2) : Same H H2 := fun c o h => b c o (a c o h)
theorem Same.free {H H' : Hp} (e : Same H H') {l : Addr} (h : H' l = Option.none) : H l = Option.none := by
  cases q : H l with
  | none => rfl
  | some o =>
    rw [e l o q] at h
    cases h
theorem Same.seq {K : PySem.W.Frag} {H H' : Hp} {a : Addr} {xs : List V} (e : Same H H') (h : SqL K H a xs) : SqL K H' a xs := by
  rcases h with (h | ⟨o, h⟩) | h
  · exact .inl (.inl (e _ _ h))
  · exact .inl (.inr ⟨o, e _ _ h⟩)
  · exact .inr h

end L2

set_option Elab.async false
set_option linter.all false
set_option maxRecDepth 100000
set_option maxHeartbeats 4000000
namespace L2
open PySem PySem.Spec PyProof.Rows

/-! ## comprehensions -/
def closL (cs : List (Str × Addr)) : List (Str × NameKind) → List (Str × Addr) → List (Str × Addr)
  | [], acc => acc
  | (n, k) :: r, acc => closL cs r (if (k == NameKind.free) = true then (n, (cs.lookup n).getD 0) :: acc else acc)

theorem clos_run {env : Env} (names : List (Str × NameKind)) : ∀ (acc : List (Str × Addr)), (∀ y ∈ names, y.2 = NameKind.free → ∃ c, env.cells.lookup y.1 = some c) →
    (forIn names acc fun (x : Str × NameKind) (cs : List (Str × Addr)) =>
      (if (x.2 == NameKind.free) = true then (cellOf env x.1 >>= fun a => (pure (ForInStep.yield ((x.1, a) :: cs)) : Sem (ForInStep (List (Str × Addr))))) else pure (ForInStep.yield cs))) = (pure (closL env.cells names acc) : Sem (List (Str × Addr))) := by
  induction names with
  | nil => intro acc _; rfl
  | cons y r ih =>
    intro acc h
    obtain ⟨n, k⟩ := y
    rw [List.forIn_cons]
    by_cases hk : (k == NameKind.free) = true
    · obtain ⟨c, hc⟩ := h (n, k) List.mem_cons_self (by simpa using hk)
      have e1 : cellOf env n = pure c := by
        unfold cellOf
        rw [show env.cells.lookup n = some c from hc]
      simp only [hk, if_true, e1, pure_bind]
      rw [ih _ fun z hz => h z (List.mem_cons_of_mem _ hz)]
      show _ = pure (closL env.cells r (if (k == NameKind.free) = true then (n, (env.cells.lookup n).getD 0) :: acc else acc))
      rw [if_pos hk, show env.cells.lookup n = some c from hc]
      all_goals rfl
    · simp only [hk, pure_bind]
      simp only [Bool.false_eq_true, if_false, pure_bind]
      rw [ih _ fun z hz => h z (List.mem_cons_of_mem _ hz)]
      show _ = pure (closL env.cells r (if (k == NameKind.free) = true then (n, (env.cells.lookup n).getD 0) :: acc else acc))
      rw [if_neg hk]

theorem clos_eq {env : Env} {scope : Scope} (h : ∀ y ∈ scope.names, y.2 = NameKind.free → ∃ c, env.cells.lookup y.1 = some c) : closureFor scope env = pure (closL env.cells scope.names []) := by
  have e := clos_run (env := env) scope.names [] h
  unfold closureFor
  refine Eq.trans ?_ (Eq.trans (congrArg (fun m => m >>= fun cs => (pure cs : Sem (List (Str × Addr)))) e) ?_)
  · rfl
  · simp

theorem closL_lookup {cs : List (Str × Addr)} {x : Str} : ∀ (names : List (Str × NameKind)) (acc : List (Str × Addr)), (closL cs names acc).lookup x = (if (names.any fun y => y.2 == NameKind.free && x == y.1) = true then some ((cs.lookup x).getD 0) else acc.lookup x)
  | [], acc => by simp [closL]
  | (n, k) :: r, acc => by
    unfold closL
    rw [closL_lookup r]
    by_cases hr : (r.any fun y => y.2 == NameKind.free && x == y.1) = true
    · rw [if_pos hr, if_pos (by rw [List.any_cons, hr, Bool.or_true])]
    · rw [if_neg hr]
      by_cases hk : (k == NameKind.free) = true
      · rw [if_pos hk]
        by_cases hx : (x == n) = true
        · rw [if_pos (by rw [List.any_cons]; simp only [hk, hx, Bool.and_self, Bool.true_or])]
          have e : x = n := by simpa using hx
          subst e
          simp [List.lookup_cons]
        · rw [if_neg (by rw [List.any_cons]; simp only [hk, hx, Bool.and_false, Bool.false_or]; exact hr)]
          have hx' : (x == n) = false := by simpa using hx
          simp [List.lookup_cons, hx']
      · rw [if_neg hk, if_neg (by rw [List.any_cons]; simp only [hk, Bool.false_and, Bool.false_or]; exact hr)]
end L2

set_option Elab.async false
set_option linter.all false
set_option maxRecDepth 100000
set_option maxHeartbeats 4000000
namespace L2
open PySem PySem.Spec PyProof.Rows

abbrev cxBlk (X : Cx) (N' : List Str) (scope : Scope) (C : Addr) (s : Shared) (H : Hp) (ex : List Addr) : Cx where
  prog := X.prog
  w := X.w
  K := X.K
  mg := X.mg
  base := X.base
  A := X.A
  N := N'
  s₀ := s
  H₀ := H
  env := compEnvC scope (closL X.env.cells scope.names []) C X.env
  outer := X.stack
  stack := X.stack
  ex := ex
  fn := fun _ => false
  calm := X.calm
  pn := []
  xe := fun _ _ => False

abbrev testsOf (ifs : List Expr) (env : Env) : Sem Bool :=
  forIn ifs true fun (c : Expr) (r : Bool) => if r = true then (isTrue c env (eval c env) >>= fun ok => (pure (ForInStep.yield ok) : Sem (ForInStep Bool))) else pure (ForInStep.yield r)

theorem blk_loop {prog : Program} {w : World} {A : Around} {R : Result → Shared → Prop} {s : Shared} {elt tg iter : Expr} {ifs : List Expr} {scope : Scope} {pos : Pos} {it acc : Value} {env : Env} (J : Nat → Shared → Prop)
    (turn : ∀ n s, J n s → wpAny (model prog w) A (pyNext it) (fun r s1 => match r with
      | none => R (.ok .next) s1
      | some v => wpAny (model prog w) A (letOwnedTupleGo tg it v) (fun _ s2 => wpAny (model prog w) A (assign tg env v) (fun _ s3 =>
          wpAny (model prog w) A (testsOf ifs env) (fun ok s4 =>
            if ok = true then wpAny (model prog w) A (eval elt env) (fun x s5 =>
              wpAny (model prog w) A (call (.builtin "list.append") [acc, x]) (fun _ s6 => ∃ m, m < n ∧ J m s6) (fun _ _ => False) s5) (fun _ _ => False) s4
            else ∃ m, m < n ∧ J m s4) (fun _ _ => False) s3) (fun _ _ => False) s2) (fun _ _ => False) s1) (fun _ _ => False) s)
    (n : Nat) (h : J n s) : codeAny (model prog w) A (.compLoop (.ListComp elt [⟨tg, iter, ifs, 0⟩] scope pos) 0 it acc env) R s := by
  have no : ∀ {α : Type} {t : Sem α} {Q : α → Shared → Prop} {E : Value → Shared → Prop} {s : Shared}, wpAny (model prog w) A t Q (fun _ _ => False) s → wpAny (model prog w) A t Q E s := fun x => wpAny_mono x (fun _ _ q => q) fun _ _ q => q.elim
  refine codeAny_loop rfl J (fun k u hJ => ?_) n h
  show wpAny _ A ((compTurn (.ListComp elt [⟨tg, iter, ifs, 0⟩] scope pos) 0 it acc env).onRaise (fun x => do noteFrame x env; theTreesLotGoes x)) _ _ u
  refine wpAny_noted ?_
  rw [compTurn_list]
  refine wpAny_bind (wpAny_standAt (wpAny_bind (no (wpAny_mono (turn k u hJ) (fun r s1 h1 => ?_) fun _ _ q => q))))
  cases r with
  | none => exact wpAny_pure h1
  | some v =>
    refine wpAny_bind (no (wpAny_mono h1 (fun _ s2 h2 => wpAny_bind (no (wpAny_mono h2 (fun _ s3 h3 => wpAny_bind (no (wpAny_mono h3 (fun ok s4 h4 => ?_) fun _ _ q => q))) fun _ _ q => q))) fun _ _ q => q))
    cases ok with
    | false => exact wpAny_pure ⟨rfl, h4⟩
    | true =>
      have h4' : wpAny (model prog w) A (eval elt env) (fun x s5 => wpAny (model prog w) A (call (.builtin "list.append") [acc, x]) (fun _ s6 => ∃ m, m < k ∧ J m s6) (fun _ _ => False) s5) (fun _ _ => False) s4 := h4
      refine wpAny_bind (wpAny_bind (no (wpAny_mono h4' (fun x s5 h5 => wpAny_bind (no (wpAny_mono h5 (fun _ s6 h6 => wpAny_pure (wpAny_pure ⟨rfl, h6⟩)) fun _ _ q => q))) fun _ _ q => q)))

def PF (X : Cx) (ifs : List Expr) (t : TT) : Prop :=
  ∀ (pins : List (Addr × Obj)) (s : Shared) (σ : St) (H : Hp) (Q : Bool → Hp → Prop), Inv X pins σ H s → t σ H Q → wpAny (model X.prog X.w) X.A (testsOf ifs X.env) (TP X pins σ Q) X.xe s
def fNone : TT := fun _ H Q => Q true H
theorem pf_nil {X : Cx} : PF X [] fNone := fun pins s σ H Q I h => wpAny_pure ⟨H, I, h⟩
theorem pf_one {X : Cx} {c : Expr} {t : TT} (hc : PT X c t) : PF X [c] t := by
  intro pins s σ H Q I h
  unfold testsOf
  simp only [List.forIn_cons, List.forIn_nil, if_true]
  refine wpAny_bind (wpAny_bind (thn (hc pins s σ H Q I h) fun ok s1 q => wpAny_pure (wpAny_pure q)))

theorem hok_but {P : Program} {w : World} {H : Hp} {h h' : Heap} {C : Addr} (x : HOk P w H h) (hn : H C = none) (k : ∀ b o, b ≠ C → h.get? b = some o → h'.get? b = some o) : HOk P w H h' := fun b u e => by
  refine (x b u e).stay (fun c v hc q => k c v ?_ q) (fun _ q => q) fun _ _ q => q
  rcases hc with z | z
  · rw [z]; exact ne_of_none e hn
  · exact ne_of_none z hn
theorem hok_track {P : Program} {w : World} {H : Hp} {h : Heap} {a : Addr} {o : HO} (x : HOk P w H h) (hn : H a = none) (new : ObjOk P w (upd H a o) h a o) : HOk P w (upd H a o) h := fun b u e => by
  by_cases hb : b = a
  · subst hb; rw [upd_same] at e; cases e; exact new
  · rw [upd_ne hb] at e
    exact (x b u e).stay (fun c v _ q => q) (fun c q => by rw [upd_ne (ne_of_none q hn)]; exact q) fun c xs q => by rw [upd_ne (ne_of_none q hn)]; exact q
theorem un_track {fs ex : List Addr} {H H' : Hp} {h h' : Heap} {a : Addr} {o : HO} (u : Un fs ex H H' h h') (ha : a ∈ ex) (hn : H a = none) : Un fs ex H (upd H' a o) h h' where
  keep := u.keep
  slot := u.slot
  free := fun b ob q n hx => by
    have hb : b ≠ a := fun z => hx (by rw [z]; exact ha)
    rw [upd_ne hb]; exact u.free b ob q n hx
  there := u.there
  tups := fun b xs q => by rw [upd_ne (ne_of_none q hn)]; exact u.tups b xs q
  frzs := fun b ob v q => by rw [upd_ne (ne_of_none q hn)]; exact u.frzs b ob v q
  tbls := fun b ps q => by rw [upd_ne (ne_of_none q hn)]; exact u.tbls b ps q
theorem un_but {fs ex : List Addr} {H H' : Hp} {h h1 h2 : Heap} {C : Addr} (u : Un fs ex H H' h h1) (hC : h.objs.size ≤ C) (k : ∀ b o, b ≠ C → h1.get? b = some o → h2.get? b = some o) : Un fs ex H H' h h2 where
  keep := fun b o q n hb hx => k b o (Nat.ne_of_lt (Nat.lt_of_lt_of_le (Heap.lt_size q) hC)) (u.keep b o q n hb hx)
  slot := fun b o q n hb hx => let ⟨sl, e⟩ := u.slot b o q n hb hx; ⟨sl, k b _ (Nat.ne_of_lt (Nat.lt_of_lt_of_le (Heap.lt_size q) hC)) e⟩
  free := u.free
  there := fun b o q hx => let ⟨o', e⟩ := u.there b o q hx; ⟨o', k b _ (Nat.ne_of_lt (Nat.lt_of_lt_of_le (Heap.lt_size q) hC)) e⟩
  tups := u.tups
  frzs := u.frzs
  tbls := u.tbls

def blkOk (sn on : List (Str × NameKind)) (N fr : List Str) (js : List Nat) : Bool :=
  sn.all (fun y => y.2 != .cell && (y.2 != .local || sn.lookup y.1 == some .local) && (y.2 != .free || (on.lookup y.1 == some .cell || on.lookup y.1 == some .free))) && fr.length == js.length
    && (fr.zip js).all fun p => sn.lookup p.1 == some .free && N[p.2]? == some p.1
structure BlkOk (sn on : List (Str × NameKind)) (N fr : List Str) (js : List Nat) : Prop where
  cell : ∀ y ∈ sn, y.2 ≠ NameKind.cell
  loc : ∀ y ∈ sn, y.2 = NameKind.local → sn.lookup y.1 = some .local
  free : ∀ y ∈ sn, y.2 = NameKind.free → on.lookup y.1 = some .cell ∨ on.lookup y.1 = some .free
  len : fr.length = js.length
  fr : ∀ (k : Nat) (x : Str), fr[k]? = some x → sn.lookup x = some .free ∧ ∃ j : Nat, js[k]? = some j ∧ N[j]? = some x
theorem blkOk_of {sn on : List (Str × NameKind)} {N fr : List Str} {js : List Nat} (h : blkOk sn on N fr js = true) : BlkOk sn on N fr js := by
  unfold blkOk at h
  rw [Bool.and_eq_true, Bool.and_eq_true, List.all_eq_true, List.all_eq_true] at h
  obtain ⟨⟨h1, h2⟩, h3⟩ := h
  have h2' : fr.length = js.length := by simpa using h2
  refine ⟨fun y hy => ?_, fun y hy e => ?_, fun y hy e => ?_, h2', fun k x e => ?_⟩
  · have := h1 y hy
    simp only [Bool.and_eq_true, bne_iff_ne] at this
    exact this.1.1
  · have := h1 y hy
    simp only [Bool.and_eq_true, Bool.or_eq_true, bne_iff_ne, beq_iff_eq] at this
    exact this.1.2.resolve_left fun z => z e
  · have := h1 y hy
    simp only [Bool.and_eq_true, Bool.or_eq_true, bne_iff_ne, beq_iff_eq] at this
    exact this.2.resolve_left fun z => z e
  · have hk : k < fr.length := (List.getElem?_eq_some_iff.mp e).1
    have hj : k < js.length := by omega
    have hm : (x, js[k]) ∈ fr.zip js := by
      refine List.mem_of_getElem? (i := k) ?_
      rw [List.getElem?_zip_eq_some]
      exact ⟨e, by simp [hj]⟩
    have := h3 _ hm
    simp only [Bool.and_eq_true, beq_iff_eq] at this
    exact ⟨this.1, js[k], by simp [hj], this.2⟩

def upS (n : Nat) (js : List Nat) (σ : St) : St := List.replicate n none ++ js.map fun j => (σ[j]?).join
def tLC (wi : TI) (n : Nat) (js : List Nat) (g : TG) (tf : TT) (te : TE) : TE := fun σ H Q => wi σ H fun J H1 =>
  ∃ W : Nat → Nat → List V → Hp → Prop, (∃ m, W 0 m [] H1) ∧ ∀ i m ys H2, W i m ys H2 →
    (J.stop i H2 ∧ ys.length ≤ sizeLine ∧ ∀ D, H2 D = none → Q (.ref D) (upd H2 D (.lst ys))) ∨
    (J.go i H2 ∧ ∃ N : List V → Hp → Prop, (∀ zs H', N zs H' → ∃ m', m' < m ∧ W (i + 1) m' zs H') ∧ ∀ x H3, J.yld i H2 x H3 → g x (upS n js σ) H3 fun σ4 H4 => σ4.drop n = (upS n js σ).drop n ∧ tf σ4 H4 fun b H5 =>
      if b = true then te σ4 H5 fun y H6 => ys.length < sizeLine ∧ N (ys ++ [y]) H6 else N ys H5)
end L2

set_option Elab.async false
set_option linter.all false
set_option maxRecDepth 100000
set_option maxHeartbeats 4000000
namespace L2
open PySem PySem.Spec PyProof.Rows

theorem relab_of {env : Env} {x : Str} {k' : NameKind} : ∀ {names : List (Str × NameKind)}, (names.map fun (n, k) => if (k == NameKind.free && env.scope.kind == .function && env.kindOf n == some .cell) then (n, NameKind.cell) else (n, k)).lookup x = some k' →
    ∃ k, names.lookup x = some k ∧ (k' = k ∨ (k = .free ∧ k' = .cell))
  | [], h => by simp at h
  | (n, k) :: r, h => by
    by_cases hx : (x == n) = true
    · refine ⟨k, by simp [List.lookup_cons, hx], ?_⟩
      have h : List.lookup x ((if (k == NameKind.free && env.scope.kind == .function && env.kindOf n == some .cell) = true then (n, NameKind.cell) else (n, k)) :: _) = some k' := h
      by_cases hc : (k == NameKind.free && env.scope.kind == .function && env.kindOf n == some .cell) = true
      · rw [if_pos hc, List.lookup_cons, hx] at h
        simp only [Bool.and_eq_true, beq_iff_eq] at hc
        exact .inr ⟨hc.1.1, (Option.some.inj h).symm⟩
      · rw [if_neg hc, List.lookup_cons, hx] at h
        exact .inl (Option.some.inj h).symm
    · have hx' : (x == n) = false := by simpa using hx
      have h : List.lookup x ((if (k == NameKind.free && env.scope.kind == .function && env.kindOf n == some .cell) = true then (n, NameKind.cell) else (n, k)) :: _) = some k' := h
      have h2 : (r.map fun (n, k) => if (k == NameKind.free && env.scope.kind == .function && env.kindOf n == some .cell) then (n, NameKind.cell) else (n, k)).lookup x = some k' := by
        by_cases hc : (k == NameKind.free && env.scope.kind == .function && env.kindOf n == some .cell) = true
        · rw [if_pos hc, List.lookup_cons, hx'] at h; exact h
        · rw [if_neg hc, List.lookup_cons, hx'] at h; exact h
      obtain ⟨k0, e, z⟩ := relab_of h2
      exact ⟨k0, by rw [List.lookup_cons, hx']; exact e, z⟩
theorem relab_free {env : Env} {x : Str} : ∀ {names : List (Str × NameKind)}, names.lookup x = some .free → ∃ k', (names.map fun (n, k) => if (k == NameKind.free && env.scope.kind == .function && env.kindOf n == some .cell) then (n, NameKind.cell) else (n, k)).lookup x = some k' ∧ (k' = .cell ∨ k' = .free)
  | [], h => by simp at h
  | (n, k) :: r, h => by
    by_cases hx : (x == n) = true
    · rw [List.lookup_cons, hx] at h
      cases (Option.some.inj h)
      show ∃ k', List.lookup x ((if (NameKind.free == NameKind.free && env.scope.kind == .function && env.kindOf n == some .cell) = true then (n, NameKind.cell) else (n, NameKind.free)) :: _) = some k' ∧ _
      by_cases hc : (NameKind.free == NameKind.free && env.scope.kind == .function && env.kindOf n == some .cell) = true
      · rw [if_pos hc]; exact ⟨.cell, by simp [List.lookup_cons, hx], .inl rfl⟩
      · rw [if_neg hc]; exact ⟨.free, by simp [List.lookup_cons, hx], .inr rfl⟩
    · have hx' : (x == n) = false := by simpa using hx
      rw [List.lookup_cons, hx'] at h
      obtain ⟨k', e, z⟩ := relab_free (env := env) (names := r) h
      refine ⟨k', ?_, z⟩
      show List.lookup x ((if (k == NameKind.free && env.scope.kind == .function && env.kindOf n == some .cell) = true then (n, NameKind.cell) else (n, k)) :: _) = some k'
      by_cases hc : (k == NameKind.free && env.scope.kind == .function && env.kindOf n == some .cell) = true
      · rw [if_pos hc, List.lookup_cons, hx']; exact e
      · rw [if_neg hc, List.lookup_cons, hx']; exact e

theorem closL_some {cs : List (Str × Addr)} {names : List (Str × NameKind)} {x : Str} {c : Addr} (h : (closL cs names []).lookup x = some c) (hf : ∀ y ∈ names, y.2 = NameKind.free → ∃ c, cs.lookup y.1 = some c) : cs.lookup x = some c := by
  rw [closL_lookup] at h
  by_cases hr : (names.any fun y => y.2 == NameKind.free && x == y.1) = true
  · rw [if_pos hr] at h
    obtain ⟨y, hy, e⟩ := List.any_eq_true.mp hr
    simp only [Bool.and_eq_true, beq_iff_eq] at e
    obtain ⟨c', e'⟩ := hf y hy e.1
    rw [← e.2] at e'
    rw [e'] at h ⊢
    exact h
  · rw [if_neg hr] at h
    cases h
theorem closL_has {cs : List (Str × Addr)} {names : List (Str × NameKind)} {x : Str} (h : names.lookup x = some .free) : (closL cs names []).lookup x = some ((cs.lookup x).getD 0) := by
  rw [closL_lookup, if_pos]
  exact List.any_eq_true.mpr ⟨(x, .free), PySem.mem_of_lookup h, by simp⟩

theorem upS_drop {n : Nat} {js : List Nat} {σ : St} {i : Nat} {v : V} (h : (upS n js σ)[i]? = some (some v)) : n ≤ i ∧ ((upS n js σ).drop n)[i - n]? = some (some v) ∧ ∃ j : Nat, js[i - n]? = some j ∧ σ[j]? = some (some v) := by
  unfold upS at h ⊢
  by_cases hi : i < n
  · rw [List.getElem?_append_left (by simpa using hi), List.getElem?_replicate] at h
    split at h <;> cases h
  · have e : (List.replicate n (none : Option V) ++ js.map fun j => (σ[j]?).join).drop n = js.map fun j => (σ[j]?).join := by
      rw [List.drop_append_of_le_length (by simp)]; simp
    rw [List.getElem?_append_right (by simpa using hi), List.length_replicate] at h
    refine ⟨by omega, by rw [e]; exact h, ?_⟩
    rw [List.getElem?_map] at h
    cases ej : js[i - n]? with
    | none => rw [ej] at h; cases h
    | some j =>
      rw [ej] at h
      have h : (σ[j]?).join = some v := Option.some.inj h
      refine ⟨j, rfl, ?_⟩
      cases eo : σ[j]? with
      | none => rw [eo] at h; cases h
      | some o => rw [eo] at h; exact congrArg some h
theorem upS_len {n : Nat} {js : List Nat} {σ : St} : (upS n js σ).length = n + js.length := by unfold upS; simp

section
variable {X : Cx} {elt tg iter : Expr} {ifs : List Expr} {scope : Scope} {pos : Pos} {wi : TI} {g : TG} {tf : TT} {te : TE}

theorem blk_start {pins : List (Addr × Obj)} {σ : St} {H : Hp} {s : Shared} {fp : List Addr} (own fr : List Str) (js : List Nat) (I : Inv X pins σ H s) (B : BlkOk scope.names X.env.scope.names X.N fr js) (hk : scope.kind = .function)
    (f2 : ∀ b ∈ fp, FpOk X pins H b) (fl : ∀ b ∈ fp, b < s.heap.objs.size) {D C : Addr} (hD : D = s.heap.objs.size) {h3 h1 : Heap} (e3 : h3 = s.heap.push { cls := .type "list", dict := none, data := .seq ([] : List Value).toArray }) (hC : C = h3.objs.size)
    {m : Str → Option Value} (hns : h1.Ns C m) (k4 : ∀ b o, h3.get? b = some o → h1.get? b = some o) {t4 : Nat} :
    Inv (cxBlk X (own ++ fr) scope C { s with heap := h3 } H (D :: fp)) [] (upS own.length js σ) H { s with heap := h1, toks := t4 } := by
  have k3 : ∀ b o, s.heap.get? b = some o → h3.get? b = some o := fun b o e => by rw [e3]; exact Heap.get?_push_of_some _ e
  have I3 : Inv X pins σ H { s with heap := h3 } := I.kept (t' := s.toks) k3
  have hz : h3.objs.size = s.heap.objs.size + 1 := by rw [e3, Heap.size_push]
  have hasF : ∀ y ∈ scope.names, y.2 = NameKind.free → ∃ c, X.env.cells.lookup y.1 = some c := fun y hy e => I.ok.has y.1 (B.free y hy e)
  have cellLt : ∀ x c, X.env.cells.lookup x = some c → c < s.heap.objs.size := fun x c e => by
    obtain ⟨v, q⟩ := I.cell x c e
    exact q.lt
  refine ⟨⟨I.ok.mod, hk, I.ok.glob, I.ok.blt, Nat.le_of_eq hC.symm, fun x y c e1 e2 => ?_, fun x hx => ?_, fun x c hf => (nomatch hf), fun hc => I.ok.hd hc, I.ok.frames, .inl rfl, fun b hb => ?_, I3.bs, Nat.le_trans I.ok.bsz I3.sz, fun b o e hb => ?_, fun b hb hf => ?_, I3.stack, I3.stkFree⟩,
    rfl, I.bare, Un.kept k4, ⟨m, hns, fun i x v e1 e2 e3' => ?_⟩, fun x c e => ?_, ?_, fun x c e => ?_, fun p hp => absurd (show p ∈ ([] : List (Addr × Obj)) from hp) (by simp), I3.hok.kept k4, ?_⟩
  · exact I.ok.inj x y c (closL_some e1 hasF) (closL_some e2 hasF)
  · obtain ⟨k, e, z⟩ : ∃ k, scope.names.lookup x = some k ∧ (k = .free) := by
      rcases hx with hx | hx
      · obtain ⟨k, e, z⟩ := relab_of hx
        rcases z with z | z
        · subst z; exact absurd rfl (B.cell _ (PySem.mem_of_lookup e))
        · exact ⟨k, e, z.1⟩
      · obtain ⟨k, e, z⟩ := relab_of hx
        rcases z with z | z
        · subst z; exact ⟨_, e, rfl⟩
        · exact ⟨k, e, z.1⟩
    subst z
    exact ⟨_, closL_has e⟩
  · rcases List.mem_cons.mp hb with z | hb
    · subst z
      refine ⟨by rw [hD, hC, hz]; exact Nat.ne_of_lt (Nat.lt_succ_self _), fun x c e => ?_⟩
      have := cellLt x c (closL_some e hasF)
      rw [hD]; exact Nat.ne_of_lt this
    · refine ⟨by rw [hC, hz]; exact Nat.ne_of_lt (Nat.lt_succ_of_lt (fl b hb)), fun x c e => ?_⟩
      exact (f2 b hb).2.2.2.2.1 x c (closL_some e hasF)
  · rcases List.mem_cons.mp hb with z | hb
    · have := Heap.lt_size (I.bk b o e)
      rw [z, hD] at this
      exact Nat.lt_irrefl _ this
    · rcases (f2 b hb).2.2.2.1 with z | z
      · exact I.ok.noex b o e z
      · exact absurd (Nat.lt_of_lt_of_le (Heap.lt_size (I.ok.bs b o e).1) z) (Nat.lt_irrefl _)
  · have hf' := List.mem_cons.mp (I.stkSub b hf)
    rcases List.mem_cons.mp hb with z | hb
    · rcases hf' with y | y
      · have := I.lt
        rw [← y, z, hD] at this
        exact Nat.lt_irrefl _ this
      · exact I.nofs (a := b) (by rw [z, hD]; exact Nat.le_refl _) y
    · rcases hf' with y | y
      · exact (f2 b hb).2.1 y
      · exact (f2 b hb).2.2.1 y
  · obtain ⟨hn, _, j, ej, es⟩ := upS_drop e2
    have ex : fr[i - own.length]? = some x := by rw [List.getElem?_append_right hn] at e1; exact e1
    obtain ⟨hfx, j', ej', eN⟩ := B.fr _ x ex
    have : j' = j := by rw [ej] at ej'; exact (Option.some.inj ej').symm
    subst this
    have hkx := B.free _ (PySem.mem_of_lookup hfx) rfl
    obtain ⟨m0, _, hl⟩ := I.loc
    obtain ⟨u, r, l⟩ := hl j' x v eN es (by rcases hkx with z | z; exact .inr (.inl z); exact .inr (.inr z))
    refine ⟨u, r, .inr ?_⟩
    rcases l with ⟨kl, _⟩ | ⟨_, c, ec, o, eo, ed⟩
    · have kl' : X.env.scope.names.lookup x = some .local := kl
      rcases hkx with z | z
      · exact absurd (z.symm.trans kl') (by decide)
      · exact absurd (z.symm.trans kl') (by decide)
    · obtain ⟨k', e', z⟩ := relab_free (env := X.env) hfx
      have eq : (closL X.env.cells scope.names []).lookup x = some c := by rw [closL_has hfx, ec]; rfl
      refine ⟨?_, c, eq, o, k4 c o (k3 c o eo), ed⟩
      rcases z with z | z
      · subst z; exact .inl e'
      · subst z; exact .inr e'
  · obtain ⟨v, o, eo, ed⟩ := I.cell x c (closL_some e hasF)
    exact ⟨v, o, k4 c o (k3 c o eo), ed⟩
  · exact I3.hok.fresh (Nat.le_of_eq hC.symm)
  · exact I.freeC x c (closL_some e hasF)
  · rw [upS_len, ← B.len]
    show _ = (own ++ fr).length
    rw [List.length_append]

theorem pe_lc (own fr : List Str) (js : List Nat) (hc : X.calm = true) (hk : scope.kind = .function) (hb : blkOk scope.names X.env.scope.names X.N fr js = true) (hi : PI X tg iter wi)
    (hg : ∀ C s H ex, PG (cxBlk X (own ++ fr) scope C s H ex) tg g) (hf : ∀ C s H ex, PF (cxBlk X (own ++ fr) scope C s H ex) ifs tf) (he : ∀ C s H ex, PE (cxBlk X (own ++ fr) scope C s H ex) elt te)
    (hs : ∀ x, foldedSetIterable iter X.env x = pure x := by intro _; rfl) : PE X (.ListComp elt [⟨tg, iter, ifs, 0⟩] scope pos) (tLC wi own.length js g tf te) := by
  intro pins s σ H Q I h
  have B := blkOk_of hb
  have hasF : ∀ y ∈ scope.names, y.2 = NameKind.free → ∃ c, X.env.cells.lookup y.1 = some c := fun y hy e => I.ok.has y.1 (B.free y hy e)
  rw [eval_ListComp]
  refine wpAny_comprehension_free (use := none) rfl hs (clos_eq hasF) hk (fun y hy e => B.loc y hy e) (thn (hi pins s σ H _ I h) fun v s1 h1 => thn h1 fun itv s2 h2 => ?_)
  obtain ⟨it, fp, tn, J, H2, e, I2, T, st2, f2, W, ⟨m0, w0⟩, turn⟩ := h2
  subst e
  have fl : ∀ b ∈ fp, b < s2.heap.objs.size := fun b hb => let ⟨o, e, _⟩ := T.obj _ _ st2 b hb; Heap.lt_size e
  refine wpAny_newObj_type (wpAny_newFunctionEnv B.cell (by intro y hy; simp at hy) (fun h1 hns hsb => ?_) hk)
  dsimp only at hns hsb ⊢
  generalize e3 : s2.heap.push { cls := .type "list", dict := none, data := .seq ([] : List Value).toArray } = h3 at hns hsb ⊢
  have k3 : ∀ b o, s2.heap.get? b = some o → h3.get? b = some o := fun b o e => by rw [← e3]; exact Heap.get?_push_of_some _ e
  have k4 : ∀ b o, h3.get? b = some o → h1.get? b = some o := fun b o e => hsb.extBut b o (Nat.ne_of_lt (Heap.lt_size e)) (Heap.get?_push_of_some _ e)
  have I4 : Inv (cxBlk X (own ++ fr) scope h3.objs.size { s2 with heap := h3 } H2 (s2.heap.objs.size :: fp)) [] (upS own.length js σ) H2 { s2 with heap := h1, toks := s2.toks + ([] : List (Str × Value)).length } :=
    blk_start own fr js I2 B hk f2 fl rfl e3.symm rfl hns k4
  have I3 : Inv X pins σ H2 { s2 with heap := h3 } := I2.kept (t' := s2.toks) k3
  have hz : h3.objs.size = s2.heap.objs.size + 1 := by rw [← e3, Heap.size_push]
  have hDl : s2.heap.objs.size ≠ h3.objs.size := by rw [hz]; exact Nat.ne_of_lt (Nat.lt_succ_self _)
  have hacc : h1.get? s2.heap.objs.size = some { cls := .type "list", data := .seq ([] : List Value).toArray } := k4 _ _ (by rw [← e3]; exact Heap.get?_push_size _ rfl)
  generalize eD : s2.heap.objs.size = D at *
  generalize eC : h3.objs.size = C at *
  have fD : ∀ b ∈ fp, D ≠ b := fun b hb => Nat.ne_of_gt (fl b hb)
  have hx : ∀ x c, (closL X.env.cells scope.names []).lookup x = some c → c ≠ D := fun x c e => by
    obtain ⟨v, q⟩ := I2.cell x c (closL_some e hasF)
    rw [← eD]; exact Nat.ne_of_lt q.lt
  have hx2 : ∀ b ∈ fp, ∀ x c, (closL X.env.cells scope.names []).lookup x = some c → c ≠ b := fun b hb x c e => (f2 b hb).2.2.2.2.1 x c (closL_some e hasF)
  have nfs : ∀ b ∈ D :: fp, b ∉ frs X.stack := I4.ok.exfs
  -- the footprint within the block
  have fpB : ∀ {pins' : List (Addr × Obj)} {H' : Hp} {b : Addr}, b ∈ fp → H' b = none → (∀ p ∈ pins', p.1 ≠ b) → FpOk (cxBlk X (own ++ fr) scope C { s2 with heap := h3 } H2 (D :: fp)) pins' H' b := fun {pins' H' b} hb hn hp =>
    ⟨hn, (I4.ok.exf b (List.mem_cons_of_mem _ hb)).1, nfs b (List.mem_cons_of_mem _ hb), .inl (List.mem_cons_of_mem _ hb), fun x c e => hx2 b hb x c e, fun p h => hp p (by simpa using h)⟩
  have fpD : ∀ {pins' : List (Addr × Obj)} {H' : Hp}, H' D = none → (∀ p ∈ pins', p.1 ≠ D) → FpOk (cxBlk X (own ++ fr) scope C { s2 with heap := h3 } H2 (D :: fp)) pins' H' D := fun {pins' H'} hn hp =>
    ⟨hn, hDl, nfs D List.mem_cons_self, .inl List.mem_cons_self, fun x c e => hx x c e, fun p h => hp p (by simpa using h)⟩
  have loop : ∀ s4 : Shared, s4 = { s2 with heap := h1, toks := s2.toks + ([] : List (Str × Value)).length } →
      codeAny (model X.prog X.w) X.A (.compLoop (.ListComp elt [⟨tg, iter, ifs, 0⟩] scope pos) 0 (.ref it) (.ref D) (compEnvC scope (closL X.env.cells scope.names []) C X.env))
        (compPost (model X.prog X.w) X.A X.xe none (EP X pins σ Q) (.ref D) C) s4 := by
    intro s4 e4
    refine blk_loop (fun n s' => ∃ i ys its H', ∃ z : Nat, Inv (cxBlk X (own ++ fr) scope C { s2 with heap := h3 } H2 (D :: fp)) [] (upS own.length js σ) H' s' ∧ tn i s'.heap ∧ (∀ b ∈ fp, H' b = none) ∧ H' D = none ∧
      s'.heap.get? D = some { cls := .type "list", data := .seq (its : List Value).toArray z } ∧ Vals ys its ∧ W i n ys H') ?_ m0 ?_
    · rintro n s5 ⟨i, ys, its, H5, z5, I5, st5, fr5, hD5, ho5, rv5, w5⟩
      have I5' := I5.pinned (fp := [D]) (fun b hb => by rw [List.mem_singleton.mp hb]; exact fpD hD5 (fun p hp => absurd hp (by simp))) (fun b hb => by
        rw [List.mem_singleton.mp hb]; exact ⟨_, ho5, fun v q => nomatch q⟩)
      have pD : ∀ p ∈ [] ++ pinsAt [D] s5.heap, p.1 = D := fun p hp => by
        rw [List.nil_append] at hp
        exact List.mem_singleton.mp (of_pinsAt hp).1
      have mD : (D, ({ cls := .type "list", data := .seq its.toArray z5 } : Obj)) ∈ [] ++ pinsAt [D] s5.heap := by
        rw [List.nil_append]; exact mem_pinsAt (List.mem_singleton.mpr rfl) ho5
      have fp5 : ∀ {H' : Hp}, (∀ b ∈ fp, H' b = none) → ∀ b ∈ fp, FpOk (cxBlk X (own ++ fr) scope C { s2 with heap := h3 } H2 (D :: fp)) ([] ++ pinsAt [D] s5.heap) H' b := fun hn b hb => fpB hb (hn b hb) fun p hp => by
        rw [pD p hp]; exact fD b hb
      rcases turn i n ys H5 w5 with ⟨stop, hlen, q⟩ | ⟨go, N, hN, step⟩
      · refine thn (T.done (cxBlk X (own ++ fr) scope C { s2 with heap := h3 } H2 (D :: fp)) rfl rfl rfl hc i _ s5 _ H5 _ I5' (fp5 fr5) st5 stop) fun r s6 ⟨hr, I6⟩ => ?_
        subst hr
        obtain ⟨m6, hn6, _⟩ := I6.loc
        refine ⟨m6, hn6, fun h7 hs7 => ?_⟩
        obtain ⟨o6, nD6, _⟩ := I6.pin (D, _) (List.mem_append_right _ mD)
        have k7 : ∀ b o, b ≠ C → s6.heap.get? b = some o → h7.get? b = some o := fun b o hb e => hs7.extBut b o hb e
        refine ⟨.ref D, upd H5 D (.lst ys), ?_, rfl, q D nD6⟩
        refine I3.call' (s' := { s6 with heap := h7 }) (ch := D :: fp) I6.os (un_track (un_but I6.base (Nat.le_of_eq eC) k7) List.mem_cons_self (I2.hok.fresh ?_)) (hok_track (hok_but I6.hok I6.free k7) nD6 ⟨hlen, its, z5, rv5, k7 D _ hDl o6⟩) I6.bare fun b hb => ?_
        · rw [← eD]; exact Nat.le_refl _
        · rcases List.mem_cons.mp hb with y | hb
          · subst y
            refine ⟨.inr (by rw [← eD]; exact I2.sz), by rw [← eD]; exact Nat.ne_of_gt I2.lt, fun x c e => ?_, fun p hp => ?_⟩
            · obtain ⟨v, q⟩ := I2.cell x c e
              rw [← eD]; exact Nat.ne_of_lt q.lt
            · rw [← eD]; exact Nat.ne_of_lt (Heap.lt_size (I2.pin p hp).1)
          · obtain ⟨_, g1, _, g3, g4, g5⟩ := f2 b hb
            exact ⟨g3, g1, g4, g5⟩
      · refine thn (T.item (cxBlk X (own ++ fr) scope C { s2 with heap := h3 } H2 (D :: fp)) rfl rfl rfl hc i _ s5 _ H5 _ I5' (fp5 fr5) st5 go) fun r s6 ⟨u, hr, h6⟩ => ?_
        subst hr
        refine thn h6 fun _ s7 ⟨x, H7, I7, r7, y7, st7, fr7⟩ => ?_
        have I7' := I7.pinned (fp5 fr7) (T.obj _ _ st7)
        refine thn (hg _ _ _ _ _ s7 _ H7 x u _ I7' r7 (step x H7 y7)) fun _ s8 ⟨σ8, H8, I8, hd8, q8⟩ => ?_
        refine thn (hf _ _ _ _ _ s8 σ8 H8 _ I8 q8) fun ok s9 ⟨H9, I9, q9⟩ => ?_
        have weak : ∀ {H' : Hp} {s' : Shared}, Inv (cxBlk X (own ++ fr) scope C { s2 with heap := h3 } H2 (D :: fp)) (([] ++ pinsAt [D] s5.heap) ++ pinsAt fp s7.heap) σ8 H' s' →
            Inv (cxBlk X (own ++ fr) scope C { s2 with heap := h3 } H2 (D :: fp)) [] (upS own.length js σ) H' s' := fun {H' s'} J => by
          refine (J.unpinned).unpinned.weak (I5.len.trans J.len.symm) fun k v e => ?_
          obtain ⟨hn, e1, _⟩ := upS_drop e
          rw [← hd8, List.getElem?_drop] at e1
          rw [← e1]
          congr 1
          omega
        have mF : ∀ b ∈ fp, ∀ o, s7.heap.get? b = some o → (b, o) ∈ ([] ++ pinsAt [D] s5.heap) ++ pinsAt fp s7.heap := fun b hb o e => List.mem_append_right _ (mem_pinsAt hb e)
        have mD' := List.mem_append_left (pinsAt fp s7.heap) mD
        have frB : ∀ {H' : Hp} {s' : Shared}, Inv (cxBlk X (own ++ fr) scope C { s2 with heap := h3 } H2 (D :: fp)) (([] ++ pinsAt [D] s5.heap) ++ pinsAt fp s7.heap) σ8 H' s' → ∀ b ∈ fp, H' b = none := fun {H' s'} J b hb => by
          obtain ⟨o, e, _⟩ := T.obj _ _ st7 b hb
          exact (J.pin (b, o) (List.mem_append_right _ (mF b hb o e))).2.1
        cases ok with
        | false =>
          have q9' : N ys H9 := by simpa using q9
          obtain ⟨m', hm, w'⟩ := hN _ _ q9'
          obtain ⟨o9, nD9, _⟩ := I9.pin (D, _) (List.mem_append_right _ mD')
          exact ⟨m', hm, i + 1, ys, its, H9, z5, weak I9, T.keep _ _ _ st7 fun b hb o e => (I9.pin (b, o) (List.mem_append_right _ (mF b hb o e))).1, frB I9, nD9, o9, rv5, w'⟩
        | true =>
          have q9' : te σ8 H9 fun y H6 => ys.length < sizeLine ∧ N (ys ++ [y]) H6 := by simpa using q9
          refine thn (he _ _ _ _ _ s9 σ8 H9 _ I9 q9') fun yv s10 ⟨y, H10, I10, r10, hlt, w10⟩ => ?_
          obtain ⟨m', hm, w'⟩ := hN _ _ w10
          obtain ⟨o10, nD10, _⟩ := I10.pin (D, _) (List.mem_append_right _ mD')
          refine wpAny_list_append_plain (l := D) (items := its.toArray) (hsz := by rw [List.size_toArray, ← rv5.length]; exact Nat.le_of_lt hlt) ⟨_, o10⟩ fun h11 hl11 hs11 => ?_
          obtain ⟨z11, e11⟩ := hl11
          refine ⟨m', hm, i + 1, ys ++ [y], its ++ [yv], H10, z11, ?_, T.keep _ _ _ st7 fun b hb o e => hs11.extBut b o (Ne.symm (fD b hb)) (I10.pin (b, o) (List.mem_append_right _ (mF b hb o e))).1, frB I10, nD10, ?_, rv5.append (.cons r10 .nil), w'⟩
          · exact (weak I10).turned (t' := s10.toks) (it := D) (fun b o hb e => hs11.extBut b o hb e) nD10 hDl (.inl List.mem_cons_self) (fun x c e => hx x c e) fun p hp => absurd (show p ∈ ([] : List (Addr × Obj)) from hp) (by simp)
          · rw [e11]; simp
    · subst e4
      exact ⟨0, [], [], H2, 0, I4, T.keep _ _ _ st2 fun b hb o e => k4 b o (k3 b o e), fun b hb => (f2 b hb).1, I2.hok.fresh (by rw [← eD]; exact Nat.le_refl _), hacc, .nil, w0⟩
  exact codeAny_compStart_list (loop _ rfl) (T.self X.A 0 _ _ _ (T.keep _ _ _ st2 fun b hb o e => k4 b o (k3 b o e)) (loop _ rfl))
end
end L2

set_option Elab.async false
set_option linter.all false
set_option maxRecDepth 100000
set_option maxHeartbeats 4000000
namespace L2
open PySem PySem.Spec PyProof.Rows

/-! ## enumerate, zip -/
section
variable {X : Cx} {pins : List (Addr × Obj)} {σ : St} {H : Hp} {s : Shared}
theorem inv_tup {ch : List Addr} {h' : Heap} {t' : Nat} {T : Addr} {ys : List V} {its : List Value} (I : Inv X pins σ H s) (hf : ∀ b ∈ ch, FpOk X pins H b) (hT : s.heap.objs.size ≤ T)
    (k : ∀ b o, b ∉ ch → s.heap.get? b = some o → h'.get? b = some o) (hl : ys.length ≤ sizeLine) (rv : Vals ys its) (ht : IsTup h' T its.toArray) :
    Inv X pins σ (upd H T (.tup ys)) { s with heap := h', toks := t' } := by
  have hn : H T = none := I.hok.fresh hT
  have ne : ∀ b o, s.heap.get? b = some o → b ≠ T := fun b o e => Nat.ne_of_lt (Nat.lt_of_lt_of_le (Heap.lt_size e) hT)
  have tr : ∀ b u, H b = some u → b ∉ ch := fun b u e hb => by rw [(hf b hb).1] at e; cases e
  refine I.step (g' := s.gens) (d' := s.drawn) (ch := ch) (fun b hb => ?_) (fun b o _ _ hc e _ => k b o hc e) (fun b o _ _ hc e _ => ⟨o.slots, k b o hc e⟩) (fun b o _ e n => by rw [upd_ne (ne b o e)]; exact n) (fun b o hc e => ⟨o, k b o hc e⟩)
    (fun b xs e => by rw [upd_ne (ne_of_none e hn)]; exact e) (fun b o u e => by rw [upd_ne (ne_of_none e hn)]; exact e) (fun b ps e => ⟨#[], by rw [upd_ne (ne_of_none e hn), e]; simp⟩) (fun m hm => ?_) (fun b u e => ?_) I.bare
  · obtain ⟨_, g1, _, g3, g4, g5⟩ := hf b hb
    exact ⟨g3, g1, g4, g5⟩
  · obtain ⟨o, es, ep, ho, r⟩ := hm
    exact ⟨o, es, ep, k _ o (fun z => (hf _ z).2.1 rfl) ho, r⟩
  · by_cases hb : b = T
    · subst hb
      rw [upd_same] at e
      cases e
      exact ⟨hl, its, rv, ht⟩
    · rw [upd_ne hb] at e
      refine (I.hok b u e).stay (fun c v hc q => k c v ?_ q) (fun c q => by rw [upd_ne (ne_of_none q hn)]; exact q) fun c xs q => by rw [upd_ne (ne_of_none q hn)]; exact q
      rcases hc with z | z
      · rw [z]; exact tr b u e
      · exact tr c _ z
end

def Ite (K : PySem.W.Frag) (a : Addr) : It :=
  ⟨fun i H => ∃ xs x, SqL K H a xs ∧ xs[i]? = some x, fun i H x H' => ∃ T y, x = .ref T ∧ H T = none ∧ H' = upd H T (.tup [.int i, y]) ∧ ∀ xs, SqL K H a xs → xs[i]? = some y, fun i H => ∃ xs, SqL K H a xs ∧ xs.length ≤ i⟩
theorem turn_enum {P : Program} {w : World} {K : PySem.W.Frag} {elts : List Expr} {kk : Nat} {pos : Pos} (a e it : Addr) (hne : e ≠ it) :
    Turn P w K (.Tuple elts kk pos) (Ite K a) [e, it] e (fun i h => (∃ old, IsEnum h e it i old) ∧ h.IsListIter it a i) where
  mem := by simp
  obj := fun i h st b hb => by
    obtain ⟨⟨old, he⟩, ⟨o, ho, c, d⟩⟩ := st
    rcases List.mem_cons.mp hb with z | z
    · subst z; exact ⟨_, he, fun v q => nomatch q⟩
    · rw [List.mem_singleton.mp z]; exact ⟨o, ho, fun v q => by rw [d] at q; cases q⟩
  keep := fun i h h' st k => by
    obtain ⟨⟨old, he⟩, hi⟩ := st
    exact ⟨⟨old, k e (by simp) _ he⟩, hi.at fun o q => k it (by simp) o q⟩
  item := by
    intro X hP hw hK hc i pins s σ H E I hf st hg
    subst hP hw hK
    obtain ⟨⟨old, he⟩, hit⟩ := st
    obtain ⟨xs, x, hq, hx⟩ := hg
    obtain ⟨its, rv, p, hz⟩ := I.list hq
    obtain ⟨u, hu, ru⟩ := rv.get hx
    have hl := p.isList
    have hai : a ≠ it := fun z => by
      obtain ⟨o, e1, c1, _⟩ := hl
      obtain ⟨o', e2, c2, _⟩ := hit
      rw [z, e2] at e1; cases e1; rw [c2] at c1; exact absurd (Value.type.inj c1) (by decide)
    have hae : e ≠ a := fun z => by
      obtain ⟨o, e1, c1, _⟩ := hl
      rw [← z, he] at e1; cases e1; exact absurd (Value.type.inj c1) (by decide)
    have D := Draws.list (prog := X.prog) (w := X.w) (A := X.A.in1) (I.ok.hd hc) it a hai its.toArray
    have hi : i < its.toArray.size := by
      have h1 := (List.getElem?_eq_some_iff.mp hu).1
      simpa using h1
    refine wpAny_pyNext_enum_itemD D he ⟨hit, hl⟩ hi hne (by simp [hne, hae]) fun x' h' tk hP' hout hst' hT hsz hk => ?_
    have ex : x' = u := by
      have h2 : its[i]? = some x' := by simpa using hP'
      rw [hu] at h2; exact (Option.some.inj h2).symm
    subst ex
    refine ⟨_, rfl, wpAny_letOwnedTupleGo_enum hout fun h2 he2 hs2 => ?_⟩
    have eT : s.heap.objs.size ≠ e := Nat.ne_of_gt (Heap.lt_size he)
    have k2 : ∀ b o, b ∉ [e, it] → s.heap.get? b = some o → h2.get? b = some o := fun b o hb q => by
      have n1 : b ≠ e := fun z => hb (by simp [z])
      have n2 : b ≠ it := fun z => hb (by simp [z])
      exact (hs2.2 b n1).trans (hk b o n1 n2 q)
    have it2 : h2.IsListIter it a (i + 1) := hst'.1.extBut hs2.extBut (Ne.symm hne)
    refine ⟨.ref s.heap.objs.size, upd H s.heap.objs.size (.tup [.int i, x]), ?_, rfl, ⟨_, x, rfl, I.hok.fresh (Nat.le_refl _), rfl, fun ys hy => by rw [I.list_inj hy hq]; exact hx⟩, ⟨⟨_, by simpa using he2⟩, it2⟩, fun b hb => ?_⟩
    · refine inv_tup (s := s) (h' := h2) (t' := tk + 1) (its := [.int i tk, x']) I hf (Nat.le_refl _) k2 (by rw [sizeLine_eq]; exact (by decide : 2 ≤ 16777216)) (.cons ⟨tk, rfl⟩ (.cons ru .nil)) ⟨_, (hs2.2 _ eT).trans hT, rfl, 0, rfl⟩
    · have hb' : b < s.heap.objs.size := by
        rcases List.mem_cons.mp hb with z | z
        · rw [z]; exact Heap.lt_size he
        · rw [List.mem_singleton.mp z]
          obtain ⟨o', e', _⟩ := hit
          exact Heap.lt_size e'
      rw [upd_ne (Nat.ne_of_lt hb')]
      exact (hf b hb).1
  done := by
    intro X hP hw hK hc i pins s σ H E I hf st hg
    subst hP hw hK
    obtain ⟨⟨old, he⟩, hit⟩ := st
    obtain ⟨xs, hq, hx⟩ := hg
    obtain ⟨its, rv, p, hz⟩ := I.list hq
    have hl := p.isList
    have hai : a ≠ it := fun z => by
      obtain ⟨o, e1, c1, _⟩ := hl
      obtain ⟨o', e2, c2, _⟩ := hit
      rw [z, e2] at e1; cases e1; rw [c2] at c1; exact absurd (Value.type.inj c1) (by decide)
    obtain ⟨f0, f1, f2, f3, f4, f5⟩ := hf it (by simp)
    have hle : its.toArray.size ≤ i := by
      have := rv.length
      simp only [List.size_toArray]; omega
    -- the inner iterator is at its end
    have hT : s.TypeIs (.ref e) "enumerate" := ⟨_, he, rfl⟩
    unfold pyNext
    refine wpAny_bind (wpAny_attempt (wpAny_callSpecial?_slot (name := Str.ofString "__next__") hT F.slot_enumerate_next (wpAny_call_entry F.slot_enumerate_next hT F.entry_enumerate_next ?_ (F.args_enumerate_next_1 _))))
    show wpAny _ _ (field (.ref e) 2 >>= _) _ _ _
    refine wpAny_bind (wpAny_field he rfl (x := .ref it) rfl (wpAny_bind (wpAny_nextOf_list_end (I.ok.hd hc) hit hl (by simpa using hle) fun h' x he' hx' => ?_)))
    obtain ⟨o, ho, hc'⟩ := hx'
    refine wpAny_bind (wpAny_isInstance (T := "StopIteration") (b := true) ⟨o, ho, hc'⟩ isSubtype_stop ?_)
    exact wpAny_pure ⟨rfl, I.turned (t' := s.toks) (fun b o hb q => he' b o hb q) f0 f1 f3 f4 f5⟩
  self := fun _ _ _ _ _ st h => let ⟨⟨_, he⟩, _⟩ := st; wpAny_pyIter_enum he h

section
variable {X : Cx}
def iEnum (K : PySem.W.Frag) (ta : TA) : TI := fun σ H R => ta σ H fun vs H1 => ∃ a, vs = [.ref a] ∧ (∃ xs, SqL K H1 a xs) ∧ R (Ite K a) H1
theorem pi_enum {l : Expr} {ta : TA} {p pos tp : Pos} {elts : List Expr} {kk : Nat} (hg : Gl X "enumerate") (hm : X.mg "enumerate" = none) (ha : PA X [l] ta) (hs : starEach [l] X.env = [(false, eval l X.env)] := by rfl) :
    PI X (.Tuple elts kk tp) (.Call (.Name "enumerate" p) [l] [] pos) (iEnum X.K ta) := by
  intro pins s σ H R I h
  refine Call_ (ld_blt I hg hm boot_enumerate (PyProof.Rows.callWith_type1 (thn (ha pos pins s σ H _ I h) fun us s1 ⟨vs, H1, I1, r1, q1⟩ => ?_) hs rfl))
  obtain ⟨a, e, ⟨xs, hq⟩, q⟩ := q1
  subst e
  obtain ⟨u, rfl, ru⟩ := vals1 r1
  cases ru
  obtain ⟨its, rv, pl, hz⟩ := I1.list hq
  refine call_enumerate_list pl.isList fun h' he hi hsz hk => wpAny_pyIter_enum he ?_
  have I2 : Inv X pins σ H1 { s1 with heap := h' } := I1.kept (t' := s1.toks) hk
  refine ⟨s1.heap.objs.size + 1, [s1.heap.objs.size + 1, s1.heap.objs.size], _, _, H1, rfl, I2, turn_enum a _ _ (Nat.succ_ne_self _), ⟨⟨_, he⟩, hi⟩, fun b hb => ?_, q⟩
  have hb' : s1.heap.objs.size ≤ b := by
    rcases List.mem_cons.mp hb with z | z
    · rw [z]; exact Nat.le_succ _
    · rw [List.mem_singleton.mp z]; exact Nat.le_refl _
  exact I1.fpOk hb' (I1.hok.fresh hb')
theorem for_enum {K : PySem.W.Frag} {a : Addr} {xs : List V} {g : TG} {tb : TS} {D : Ends} {σ : St} {H : Hp} (Pv : Nat → St → Hp → Prop) (h0 : Pv 0 σ H) (hl : ∀ i σ H, i ≤ xs.length → Pv i σ H → SqL K H a xs)
    (hs : ∀ i x σ H T, xs[i]? = some x → Pv i σ H → H T = none → g (.ref T) σ (upd H T (.tup [.int i, x])) fun σ2 H2 => tb { D with nx := Pv (i + 1), ct := Pv (i + 1), bk := D.nx } σ2 H2) (hd : ∀ σ H, Pv xs.length σ H → D.nx σ H) :
    ∃ W : Nat → Nat → St → Hp → Prop, (∃ m, W 0 m σ H) ∧ ∀ i m σ H, W i m σ H →
      ((Ite K a).stop i H ∧ D.nx σ H) ∨ ((Ite K a).go i H ∧ ∃ N : St → Hp → Prop, (∀ σ' H', N σ' H' → ∃ m', m' < m ∧ W (i + 1) m' σ' H') ∧ ∀ x H', (Ite K a).yld i H x H' → g x σ H' fun σ2 H2 => tb { D with nx := N, ct := N, bk := D.nx } σ2 H2) := by
  refine ⟨fun i m σ H => m = xs.length - i ∧ i ≤ xs.length ∧ Pv i σ H, ⟨xs.length, by simp, Nat.zero_le _, h0⟩, ?_⟩
  rintro i m σ H ⟨rfl, hi, p⟩
  have q := hl i σ H hi p
  by_cases hlt : i < xs.length
  · refine .inr ⟨⟨xs, xs[i], q, by simp [hlt]⟩, Pv (i + 1), fun σ' H' p' => ⟨xs.length - (i + 1), by omega, rfl, hlt, p'⟩, fun x H' y => ?_⟩
    obtain ⟨T, z, e1, hT, e2, y⟩ := y
    subst e1 e2
    exact hs i z σ H T (y xs q) p hT
  · have e : i = xs.length := by omega
    subst e
    exact .inl ⟨⟨xs, q, Nat.le_refl _⟩, hd σ H p⟩
end

/-! ## all(a list of bools) -/
section
variable {X : Cx}
theorem call_allL (hc : X.calm = true) : CallR X (.builtin "all") (fun xs H Q => ∃ (p : Addr) (bs : List Bool), xs = [.ref p] ∧ SqL X.K H p (bs.map V.bl) ∧ Q (.bl (bs.all id)) H) := by
  intro pins s σ H xs us Q I r h
  obtain ⟨p, bs, rfl, hq, q⟩ := h
  obtain ⟨u, rfl, ru⟩ := vals1 r
  cases ru
  obtain ⟨its, rv, pl, hz⟩ := I.list hq
  have hl := pl.isList
  have hpl : p ≠ s.heap.objs.size := by
    obtain ⟨o, e, _⟩ := hl
    exact Nat.ne_of_lt (Heap.lt_size e)
  refine call_all_walk (wpAny_pyIter_list hl ?_)
  refine ⟨s.heap.objs.size, _, _, _, _, _, fun i => bs.getD i true, rfl, Walks.list (prog := X.prog) (w := X.w) (A := X.A.in1) (I.ok.hd hc) _ p hpl its.toArray, ⟨⟨_, Heap.get?_push_size _ rfl, rfl, rfl⟩, hl.push _⟩, ?_, fun h' tk hk => ?_⟩
  · intro i v s' Q' E' hP hQ
    have hP : its.toArray[i]? = some v := hP
    have e1 : its[i]? = some v := by simpa using hP
    have hi : i < bs.length := by
      have h1 := (List.getElem?_eq_some_iff.mp e1).1
      have h2 := rv.length
      rw [List.length_map] at h2
      omega
    have e2 : (bs.map V.bl)[i]? = some (.bl bs[i]) := by simp [hi]
    obtain ⟨u', eu, ru⟩ := rv.get e2
    rw [e1] at eu
    cases eu
    cases ru
    have e3 : bs.getD i true = bs[i] := by simp [hi]
    have hQ2 : Q' (bs.getD i true) s' := hQ
    rw [e3] at hQ2
    exact wpAny_truthy_bool hQ2
  · have k : ∀ b o, s.heap.get? b = some o → h'.get? b = some o := fun b o e => hk b o (by simp; exact Nat.ne_of_lt (Heap.lt_size e)) (Heap.get?_push_of_some _ e)
    have ea : (List.range its.toArray.size).all (fun i => bs.getD i true) = bs.all id := by
      have hlen : its.toArray.size = bs.length := by
        have := rv.length
        rw [List.length_map] at this
        simp only [List.size_toArray]; omega
      rw [hlen, Bool.eq_iff_iff, List.all_eq_true, List.all_eq_true]
      constructor
      · intro h b hb
        obtain ⟨i, hi, rfl⟩ := List.mem_iff_getElem.mp hb
        have := h i (List.mem_range.mpr hi)
        simpa [hi] using this
      · intro h i hi
        have hi := List.mem_range.mp hi
        have := h bs[i] (List.getElem_mem hi)
        simpa [hi] using this
    exact ⟨.bl (bs.all id), H, I.kept k, by rw [ea]; rfl, q⟩
end
end L2

set_option Elab.async false
set_option linter.all false
set_option maxRecDepth 100000
set_option maxHeartbeats 4000000
namespace L2
open PySem PySem.Spec PyProof.Rows

/-! ## zip of two lists or tuples (kd: true a list, false a tuple) -/
def SqK (K : PySem.W.Frag) (kd : Bool) (H : Hp) (a : Addr) (xs : List V) : Prop := match kd with
  | true => SqL K H a xs
  | false => SqT K H a xs
def SeqK (kd : Bool) (h : Heap) (a : Addr) (its : Array Value) : Prop := match kd with
  | true => h.IsList a its
  | false => h.IsTuple a its
def ItrK (kd : Bool) (h : Heap) (it a : Addr) (i : Nat) : Prop := match kd with
  | true => h.IsListIter it a i
  | false => h.IsTupleIter it a i
theorem SeqK.at {kd : Bool} {h h' : Heap} {a : Addr} {its : Array Value} (x : SeqK kd h a its) (k : ∀ o, h.get? a = some o → h'.get? a = some o) : SeqK kd h' a its := by
  cases kd with
  | true => exact Heap.IsList.at x k
  | false => obtain ⟨o, e, r⟩ := (show h.IsTuple a its from x); exact ⟨o, k o e, r⟩
theorem ItrK.at {kd : Bool} {h h' : Heap} {it a : Addr} {i : Nat} (x : ItrK kd h it a i) (k : ∀ o, h.get? it = some o → h'.get? it = some o) : ItrK kd h' it a i := by
  cases kd with
  | true => exact Heap.IsListIter.at x k
  | false => obtain ⟨o, e, r⟩ := (show h.IsTupleIter it a i from x); exact ⟨o, k o e, r⟩
theorem ItrK.obj {kd : Bool} {h : Heap} {it a : Addr} {i : Nat} (x : ItrK kd h it a i) : ∃ o, h.get? it = some o ∧ (o.cls = .type "list_iterator" ∨ o.cls = .type "tuple_iterator") ∧ ∀ v, o.data ≠ .cell v := by
  cases kd with
  | true => obtain ⟨o, e, c, d⟩ := (show h.IsListIter it a i from x); exact ⟨o, e, .inl c, fun v q => by rw [d] at q; cases q⟩
  | false => obtain ⟨o, e, c, d⟩ := (show h.IsTupleIter it a i from x); exact ⟨o, e, .inr c, fun v q => by rw [d] at q; cases q⟩
theorem SeqK.cls {kd : Bool} {h : Heap} {a : Addr} {its : Array Value} (x : SeqK kd h a its) : ∃ o, h.get? a = some o ∧ (o.cls = .type "list" ∨ o.cls = .type "tuple") ∧ ∃ n, o.data = .seq its n := by
  cases kd with
  | true => obtain ⟨o, e, c, n, d⟩ := (show h.IsList a its from x); exact ⟨o, e, .inl c, n, d⟩
  | false => obtain ⟨o, e, c, n, d⟩ := (show h.IsTuple a its from x); exact ⟨o, e, .inr c, n, d⟩
section
variable {prog : Program} {w : World} {A : Around} {E : Value → Shared → Prop} {s : Shared}
theorem nextK_item {kd : Bool} {it a : Addr} {i : Nat} {its : Array Value} {x : Value} {Q : Value → Shared → Prop} (hi : ItrK kd s.heap it a i) (hl : SeqK kd s.heap a its) (hx : its[i]? = some x)
    (hQ : ∀ h', ItrK kd h' it a (i + 1) → Heap.SameBut it s.heap h' → Q x { s with heap := h' }) : wpAny (model prog w) A (Builtin.SmallTypes.nextOf (.ref it)) Q E s := by
  cases kd with
  | true => exact wpAny_nextOf_list_item hi hl hx hQ
  | false =>
    have hi' : s.heap.IsTupleIter it a i := hi
    obtain ⟨o, ho, hc, hd⟩ := id hi'
    obtain ⟨ol, hol, _, nl, hdl⟩ := (show s.heap.IsTuple a its from hl)
    unfold Builtin.SmallTypes.nextOf; refine wpAny_bind (wpAny_callSpecial?_slot (name := Str.ofString "__next__") hi'.typeIs F.slot_tuple_iterator_next (wpAny_call_entry F.slot_tuple_iterator_next hi'.typeIs F.entry_tuple_iterator_next ?_ (F.args_tuple_iterator_next_1 _)))
    show wpAny _ _ (field (.ref it) 0 >>= _) _ _ _; refine wpAny_bind (wpAny_field ho hd (x := .ref a) rfl ?_)
    show wpAny _ _ (if (Value.ref a == Value.none) = true then _ else _) _ _ _; rw [if_neg (show ¬ ((Value.ref a == Value.none) = true) from Bool.false_ne_true)]
    show wpAny _ _ (field (.ref it) 1 >>= _) _ _ _; refine wpAny_bind (wpAny_field ho hd (x := .int i 0) rfl ?_)
    show wpAny _ _ (seqItems? (.ref a) >>= _) _ _ _; refine wpAny_bind (wpAny_seqItems hol hdl ?_); simp only [Int.toNat_natCast, hx]
    refine wpAny_bind (wpAny_setField ho hd (by simp) (wpAny_pure ⟨x, rfl, wpAny_pure (hQ _ (show Heap.IsTupleIter _ _ _ _ from ?_) (Heap.SameBut.update ..))⟩))
    refine ⟨_, Heap.get?_update_self _ ho (Obj.isFreed_of_fields (Obj.data_mapFields hd _)), (Obj.cls_mapFields ..).trans hc, ?_⟩; rw [Obj.data_mapFields hd]; simp [rawInt]
theorem nextK_end {kd : Bool} {it a : Addr} {i : Nat} {its : Array Value} {Q : Value → Shared → Prop} (hh : A.handled = none) (hi : ItrK kd s.heap it a i) (hl : SeqK kd s.heap a its) (hx : its[i]? = none)
    (hE : ∀ h' e, Heap.ExtBut it s.heap h' → (∃ o, h'.get? e = some o ∧ o.cls = .type "StopIteration") → E (.ref e) { s with heap := h' }) : wpAny (model prog w) A (Builtin.SmallTypes.nextOf (.ref it)) Q E s := by
  cases kd with
  | true => exact wpAny_nextOf_list_end hh hi hl hx hE
  | false =>
    have hi' : s.heap.IsTupleIter it a i := hi
    obtain ⟨o, ho, hc, hd⟩ := id hi'
    obtain ⟨ol, hol, _, nl, hdl⟩ := (show s.heap.IsTuple a its from hl)
    unfold Builtin.SmallTypes.nextOf; refine wpAny_bind (wpAny_callSpecial?_slot (name := Str.ofString "__next__") hi'.typeIs F.slot_tuple_iterator_next (wpAny_call_entry F.slot_tuple_iterator_next hi'.typeIs F.entry_tuple_iterator_next ?_ (F.args_tuple_iterator_next_1 _)))
    show wpAny _ _ (field (.ref it) 0 >>= _) _ _ _; refine wpAny_bind (wpAny_field ho hd (x := .ref a) rfl ?_)
    show wpAny _ _ (if (Value.ref a == Value.none) = true then _ else _) _ _ _; rw [if_neg (show ¬ ((Value.ref a == Value.none) = true) from Bool.false_ne_true)]
    show wpAny _ _ (field (.ref it) 1 >>= _) _ _ _; refine wpAny_bind (wpAny_field ho hd (x := .int i 0) rfl ?_)
    show wpAny _ _ (seqItems? (.ref a) >>= _) _ _ _; refine wpAny_bind (wpAny_seqItems hol hdl ?_); simp only [Int.toNat_natCast, hx]
    refine wpAny_bind (wpAny_rule (wpAny_bind (wpAny_setField ho hd (by simp) ?_))); show wpAny _ _ (newExc (.type "StopIteration") [] >>= _) _ _ _
    refine wpAny_bind ?_; simp only [newExc, newTuple]; refine wpAny_bind (wpAny_newObj_type ?_ (by size_fits))
    refine wpAny_bind (m := firstArgMember _ _) (wpAny_of_eq (a := Value.none) (by first | rfl | (simp only [firstArgMember]; rfl)) (wpAny_newObj_type ?_ (by size_fits)))
    simp only [raiseNew]; refine wpAny_bind (wpAny_handled ?_); first | rw [show A.in1.handled = none from hh] | rw [hh]
    exact wpAny_bind (wpAny_pure (wpAny_throw (hE _ _ (((Heap.SameBut.update ..).extBut.push _).push _) ⟨_, Heap.get?_push_size _ rfl, rfl⟩)))
structure ZipAt (k1 k2 : Bool) (h : Heap) (z TI TO i1 i2 a1 a2 : Addr) (i : Nat) : Prop where
  zz : IsZip h z TI TO .none
  ti : IsPair h TI (.ref i1) (.ref i2)
  to : ∃ a b, IsPair h TO a b
  r1 : ItrK k1 h i1 a1 i
  r2 : ItrK k2 h i2 a2 i
structure ZipNe (z TI TO i1 i2 : Addr) : Prop where
  a : TI ≠ z
  b : TO ≠ z
  c : i1 ≠ z
  d : i2 ≠ z
  e : TI ≠ TO
  f : TI ≠ i1
  g : TI ≠ i2
  h : TO ≠ i1
  i : TO ≠ i2
  j : i1 ≠ i2
end
end L2

set_option Elab.async false
set_option linter.all false
set_option maxRecDepth 100000
set_option maxHeartbeats 4000000
namespace L2
open PySem PySem.Spec PyProof.Rows
section
variable {prog : Program} {w : World} {A : Around} {E : Value → Shared → Prop} {s : Shared}
theorem zipK_next {k1 k2 : Bool} {z TI TO i1 i2 a1 a2 : Addr} {i : Nat} {xs ys : Array Value} {x y : Value} {Q : Option Value → Shared → Prop} (N : ZipNe z TI TO i1 i2) (Z : ZipAt k1 k2 s.heap z TI TO i1 i2 a1 a2 i)
    (l1 : SeqK k1 s.heap a1 xs) (l2 : SeqK k2 s.heap a2 ys) (m1 : ∀ b ∈ [z, TO, i1, i2], a1 ≠ b) (m2 : ∀ b ∈ [z, TO, i1, i2], a2 ≠ b) (hx : xs[i]? = some x) (hy : ys[i]? = some y)
    (hQ : ∀ h', IsZip h' z TI TO (rawInt s.heap.objs.size) → IsPair h' TI (.ref i1) (.ref i2) → (∃ a b, IsPair h' TO a b) → ItrK k1 h' i1 a1 (i + 1) → ItrK k2 h' i2 a2 (i + 1) → IsPair h' s.heap.objs.size x y → h'.objs.size = s.heap.objs.size + 1 →
      (∀ c o, c ∉ [z, TO, i1, i2] → s.heap.get? c = some o → h'.get? c = some o) → Q (some (.ref s.heap.objs.size)) { s with heap := h' }) : wpAny (model prog w) A (pyNext (.ref z)) Q E s := by
  obtain ⟨hz, hTI, ⟨a, b, hTO⟩, h1, h2⟩ := Z
  have hT : s.TypeIs (.ref z) "zip" := ⟨_, hz, rfl⟩
  unfold pyNext; refine wpAny_bind (wpAny_attempt (wpAny_callSpecial?_slot (name := Str.ofString "__next__") hT F.slot_zip_next (wpAny_call_entry F.slot_zip_next hT F.entry_zip_next ?_ (F.args_zip_next_1 _))))
  show wpAny _ _ (field (.ref z) 2 >>= _) _ _ _; refine wpAny_bind (wpAny_field hz rfl (x := .bool false) rfl ?_)
  show wpAny _ _ (field (.ref z) 3 >>= _) _ _ _; refine wpAny_bind (wpAny_field hz rfl (x := .ref TI) rfl (wpAny_bind (wpAny_seqItems hTI rfl ?_)))
  show wpAny _ _ (Builtin.SmallTypes.ownedTupleIsFree (.ref z) >>= _) _ _ _; refine wpAny_bind ?_
  unfold Builtin.SmallTypes.ownedTupleIsFree; refine wpAny_bind (wpAny_field hz rfl (x := .none) rfl (wpAny_pure ?_)); simp only [if_true]
  refine wpAny_bind (wpAny_rule (wpAny_bind (wpAny_field hz rfl (x := .ref TO) rfl (wpAny_bind (wpAny_setField_rec hz (by simp) fun g1 hz1 hs1 => ?_)))))
  replace hz1 : IsZip g1 z TI TO .ellipsis := hz1
  refine wpAny_bind ?_; simp only [List.zipIdx_cons, List.zipIdx_nil, List.forIn_cons, List.forIn_nil]
  refine wpAny_bind (wpAny_bind (wpAny_onRaise ?_)); show wpAny _ _ (Builtin.SmallTypes.nextOf (.ref i1) >>= _) _ _ _
  refine wpAny_bind (nextK_item (h1.at fun o e => hs1.extBut _ o N.c e) (l1.at fun o e => hs1.extBut _ o (m1 z (by simp)) e) hx fun g2 h12 hs2 => wpAny_pure ?_)
  have hTO2 : IsPair g2 TO a b := hs2.extBut _ _ N.h (hs1.extBut _ _ N.b hTO)
  refine wpAny_bind (wpAny_seqItems hTO2 rfl (wpAny_bind (wpAny_updateSeq_pair hTO2 fun g3 hTO3 hs3 => ?_)))
  replace hTO3 : IsPair g3 TO x b := hTO3
  refine wpAny_bind (wpAny_letGo (wpAny_pure ?_)); refine wpAny_bind (wpAny_bind (wpAny_onRaise ?_)); show wpAny _ _ (Builtin.SmallTypes.nextOf (.ref i2) >>= _) _ _ _
  have c23 : ∀ c o, c ∉ [z, TO, i1] → s.heap.get? c = some o → g3.get? c = some o := fun c o hc e => hs3.extBut _ o (fun q => hc (by simp [q])) (hs2.extBut _ o (fun q => hc (by simp [q])) (hs1.extBut _ o (fun q => hc (by simp [q])) e))
  refine wpAny_bind (nextK_item (h2.at fun o e => c23 _ o (by simp [N.d, Ne.symm N.i, Ne.symm N.j]) e) (l2.at fun o e => c23 _ o (by simp [m2 z (by simp), m2 TO (by simp), m2 i1 (by simp)]) e) hy fun g4 h24 hs4 => wpAny_pure ?_)
  have hTO4 : IsPair g4 TO x b := hs4.extBut _ _ N.i hTO3
  refine wpAny_bind (wpAny_seqItems hTO4 rfl (wpAny_bind (wpAny_updateSeq_pair hTO4 fun g5 hTO5 hs5 => ?_)))
  replace hTO5 : IsPair g5 TO x y := hTO5
  refine wpAny_bind (wpAny_letGo (wpAny_pure (wpAny_pure (wpAny_bind (wpAny_seqItems hTO5 rfl (wpAny_bind (wpAny_newTuple ?_)))))))
  have zs : g5.objs.size = s.heap.objs.size := by rw [hs5.1, hs4.1, hs3.1, hs2.1, hs1.1]
  have hz5 : IsZip g5 z TI TO .ellipsis := hs5.extBut _ _ (Ne.symm N.b) (hs4.extBut _ _ (Ne.symm N.d) (hs3.extBut _ _ (Ne.symm N.b) (hs2.extBut _ _ (Ne.symm N.c) hz1)))
  have k5 : ∀ c o, c ∉ [z, TO, i1, i2] → s.heap.get? c = some o → g5.get? c = some o := fun c o hc e => hs5.extBut _ o (fun q => hc (by simp [q])) (hs4.extBut _ o (fun q => hc (by simp [q])) (c23 c o (fun q => hc (by simp at q ⊢; rcases q with q | q | q <;> simp [q])) e))
  have r1 : ItrK k1 g5 i1 a1 (i + 1) := h12.at fun o e => hs5.extBut _ o (Ne.symm N.h) (hs4.extBut _ o N.j (hs3.extBut _ o (Ne.symm N.h) e))
  have r2 : ItrK k2 g5 i2 a2 (i + 1) := h24.at fun o e => hs5.extBut _ o (Ne.symm N.i) e
  have zl : z < g5.objs.size := Heap.lt_size hz5
  show wpAny _ _ (Builtin.SmallTypes.ownedTupleHandOut (.ref z) (.ref g5.objs.size) >>= _) _ _ _; refine wpAny_bind ?_; unfold Builtin.SmallTypes.ownedTupleHandOut
  have hz6 : IsZip (g5.push { cls := .type "tuple", data := .seq #[x, y] }) z TI TO .ellipsis := Heap.get?_push_of_some _ hz5
  refine wpAny_bind (wpAny_setField_rec hz6 (by simp) fun g7 hz7 hs7 => ?_)
  replace hz7 : IsZip g7 z TI TO (rawInt g5.objs.size) := hz7
  refine wpAny_setField_rec hz7 (by simp) fun g8 hz8 hs8 => ?_
  replace hz8 : IsZip g8 z TI TO (rawInt g5.objs.size) := hz8
  have up : ∀ c o, c ≠ z → g5.get? c = some o → g8.get? c = some o := fun c o c1 e => hs8.extBut _ o c1 (hs7.extBut _ o c1 (Heap.get?_push_of_some _ e))
  have hT8 : IsPair g8 g5.objs.size x y := hs8.extBut _ _ (Nat.ne_of_gt zl) (hs7.extBut _ _ (Nat.ne_of_gt zl) (Heap.get?_push_size _ rfl))
  have z8 : g8.objs.size = g5.objs.size + 1 := by rw [hs8.1, hs7.1, Heap.size_push]
  rw [zs] at hz8 hT8 z8
  refine wpAny_pure ⟨_, rfl, wpAny_pure ?_⟩; show Q (some (.ref g5.objs.size)) _; rw [zs]
  exact hQ g8 hz8 (up _ _ N.a (k5 _ _ (by simp [N.a, N.e, N.f, N.g]) hTI)) ⟨_, _, up _ _ N.b hTO5⟩ (r1.at fun o e => up _ o N.c e) (r2.at fun o e => up _ o N.d e) hT8 z8 fun c o hc e => up c o (fun q => hc (by simp [q])) (k5 c o hc e)

theorem zipK_end {k1 k2 : Bool} {z TI TO i1 i2 a1 a2 : Addr} {i : Nat} {xs ys : Array Value} {Q : Option Value → Shared → Prop} (hh : A.handled = none) (N : ZipNe z TI TO i1 i2) (Z : ZipAt k1 k2 s.heap z TI TO i1 i2 a1 a2 i)
    (l1 : SeqK k1 s.heap a1 xs) (l2 : SeqK k2 s.heap a2 ys) (m1 : ∀ b ∈ [z, TO, i1, i2], a1 ≠ b) (m2 : ∀ b ∈ [z, TO, i1, i2], a2 ≠ b) (hend : xs[i]? = none ∨ ys[i]? = none)
    (hQ : ∀ h', (∀ c o, c ∉ [z, TO, i1, i2] → s.heap.get? c = some o → h'.get? c = some o) → Q none { s with heap := h' }) : wpAny (model prog w) A (pyNext (.ref z)) Q E s := by
  obtain ⟨hz, hTI, ⟨a, b, hTO⟩, h1, h2⟩ := Z
  have hT : s.TypeIs (.ref z) "zip" := ⟨_, hz, rfl⟩
  unfold pyNext; refine wpAny_bind (wpAny_attempt (wpAny_callSpecial?_slot (name := Str.ofString "__next__") hT F.slot_zip_next (wpAny_call_entry F.slot_zip_next hT F.entry_zip_next ?_ (F.args_zip_next_1 _))))
  show wpAny _ _ (field (.ref z) 2 >>= _) _ _ _; refine wpAny_bind (wpAny_field hz rfl (x := .bool false) rfl ?_)
  show wpAny _ _ (field (.ref z) 3 >>= _) _ _ _; refine wpAny_bind (wpAny_field hz rfl (x := .ref TI) rfl (wpAny_bind (wpAny_seqItems hTI rfl ?_)))
  show wpAny _ _ (Builtin.SmallTypes.ownedTupleIsFree (.ref z) >>= _) _ _ _; refine wpAny_bind ?_
  unfold Builtin.SmallTypes.ownedTupleIsFree; refine wpAny_bind (wpAny_field hz rfl (x := .none) rfl (wpAny_pure ?_)); simp only [if_true]
  refine wpAny_bind (wpAny_rule (wpAny_bind (wpAny_field hz rfl (x := .ref TO) rfl (wpAny_bind (wpAny_setField_rec hz (by simp) fun g1 hz1 hs1 => ?_)))))
  replace hz1 : IsZip g1 z TI TO .ellipsis := hz1
  refine wpAny_bind ?_; simp only [List.zipIdx_cons, List.zipIdx_nil, List.forIn_cons, List.forIn_nil]
  refine wpAny_bind (wpAny_bind (wpAny_onRaise ?_)); show wpAny _ _ (Builtin.SmallTypes.nextOf (.ref i1) >>= _) _ _ _
  cases hx : xs[i]? with
  | none =>
    refine wpAny_bind (nextK_end hh (h1.at fun o e => hs1.extBut _ o N.c e) (l1.at fun o e => hs1.extBut _ o (m1 z (by simp)) e) hx fun g2 e hs2 he => ?_)
    obtain ⟨oe, hoe, hce⟩ := he
    have hz2 : IsZip g2 z TI TO .ellipsis := hs2 _ _ (Ne.symm N.c) hz1
    have hez : e ≠ z := fun q => by subst q; rw [hz2] at hoe; cases hoe; exact absurd (Value.type.inj hce) (by decide)
    refine wpAny_setField_rec hz2 (by simp) fun g3 hz3 hs3 => ?_
    refine wpAny_bind (wpAny_isInstance (T := "StopIteration") (b := true) ⟨oe, hs3.extBut _ _ hez hoe, hce⟩ isSubtype_stop (wpAny_pure (hQ _ fun c o hc q => ?_)))
    exact hs3.extBut _ o (fun q => hc (by simp [q])) (hs2 _ o (fun q => hc (by simp [q])) (hs1.extBut _ o (fun q => hc (by simp [q])) q))
  | some x =>
    have hy : ys[i]? = none := by rcases hend with q | q; rw [hx] at q; cases q; exact q
    refine wpAny_bind (nextK_item (h1.at fun o e => hs1.extBut _ o N.c e) (l1.at fun o e => hs1.extBut _ o (m1 z (by simp)) e) hx fun g2 h12 hs2 => wpAny_pure ?_)
    have hTO2 : IsPair g2 TO a b := hs2.extBut _ _ N.h (hs1.extBut _ _ N.b hTO)
    refine wpAny_bind (wpAny_seqItems hTO2 rfl (wpAny_bind (wpAny_updateSeq_pair hTO2 fun g3 hTO3 hs3 => ?_)))
    have c23 : ∀ c o, c ∉ [z, TO, i1] → s.heap.get? c = some o → g3.get? c = some o := fun c o hc e => hs3.extBut _ o (fun q => hc (by simp [q])) (hs2.extBut _ o (fun q => hc (by simp [q])) (hs1.extBut _ o (fun q => hc (by simp [q])) e))
    refine wpAny_bind (wpAny_letGo (wpAny_pure ?_)); refine wpAny_bind (wpAny_bind (wpAny_onRaise ?_)); show wpAny _ _ (Builtin.SmallTypes.nextOf (.ref i2) >>= _) _ _ _
    refine wpAny_bind (nextK_end hh (h2.at fun o e => c23 _ o (by simp [N.d, Ne.symm N.i, Ne.symm N.j]) e) (l2.at fun o e => c23 _ o (by simp [m2 z (by simp), m2 TO (by simp), m2 i1 (by simp)]) e) hy fun g4 e hs4 he => ?_)
    obtain ⟨oe, hoe, hce⟩ := he
    have hz4 : IsZip g4 z TI TO .ellipsis := hs4 _ _ (Ne.symm N.d) (hs3.extBut _ _ (Ne.symm N.b) (hs2.extBut _ _ (Ne.symm N.c) hz1))
    have hez : e ≠ z := fun q => by subst q; rw [hz4] at hoe; cases hoe; exact absurd (Value.type.inj hce) (by decide)
    refine wpAny_setField_rec hz4 (by simp) fun g5 hz5 hs5 => ?_
    refine wpAny_bind (wpAny_isInstance (T := "StopIteration") (b := true) ⟨oe, hs5.extBut _ _ hez hoe, hce⟩ isSubtype_stop (wpAny_pure (hQ _ fun c o hc q => ?_)))
    exact hs5.extBut _ o (fun q => hc (by simp [q])) (hs4 _ o (fun q => hc (by simp [q])) (c23 c o (fun q => hc (by simp at q ⊢; rcases q with q | q | q <;> simp [q])) q))
abbrev zh (h : Heap) (o1 o2 : Obj) : Heap := ((((h.push o1).push o2).push { cls := .type "tuple", data := .seq #[.ref h.objs.size, .ref (h.push o1).objs.size] }).push { cls := .type "tuple", data := .seq #[.none, .none] }).push
  { cls := .type "zip", data := .fields #[.none, .bool false, .bool false, .ref ((h.push o1).push o2).objs.size, .ref (((h.push o1).push o2).push { cls := .type "tuple", data := .seq #[.ref h.objs.size, .ref (h.push o1).objs.size] }).objs.size] }
theorem zh_ok {k1 k2 : Bool} {a1 a2 : Addr} {h : Heap} {o1 o2 : Obj} (p1 : ∀ g : Heap, g.get? h.objs.size = some o1 → ItrK k1 g h.objs.size a1 0) (p2 : ∀ (g : Heap) (n : Addr), g.get? n = some o2 → ItrK k2 g n a2 0) (f1 : o1.isFreed = false) (f2 : o2.isFreed = false) :
    ZipAt k1 k2 (zh h o1 o2) (h.objs.size + 4) (h.objs.size + 2) (h.objs.size + 3) h.objs.size (h.objs.size + 1) a1 a2 0 ∧ (∀ c o, h.get? c = some o → (zh h o1 o2).get? c = some o) ∧ (zh h o1 o2).objs.size = h.objs.size + 5 := by
  have z1 : (h.push o1).objs.size = h.objs.size + 1 := Heap.size_push ..
  have z2 : ((h.push o1).push o2).objs.size = h.objs.size + 2 := by rw [Heap.size_push, z1]
  have z3 : (((h.push o1).push o2).push { cls := .type "tuple", data := .seq #[.ref h.objs.size, .ref (h.push o1).objs.size] }).objs.size = h.objs.size + 3 := by rw [Heap.size_push, z2]
  have z4 : ((((h.push o1).push o2).push { cls := .type "tuple", data := .seq #[.ref h.objs.size, .ref (h.push o1).objs.size] }).push { cls := .type "tuple", data := .seq #[.none, .none] }).objs.size = h.objs.size + 4 := by rw [Heap.size_push, z3]
  have q5 : (zh h o1 o2).get? (h.objs.size + 4) = some _ := z4 ▸ Heap.get?_push_size _ rfl
  have q4 : (zh h o1 o2).get? (h.objs.size + 3) = some _ := z3 ▸ Heap.get?_push_of_some _ (Heap.get?_push_size _ rfl)
  have q3 : (zh h o1 o2).get? (h.objs.size + 2) = some _ := z2 ▸ Heap.get?_push_of_some _ (Heap.get?_push_of_some _ (Heap.get?_push_size _ rfl))
  have q2 : (zh h o1 o2).get? (h.objs.size + 1) = some o2 := z1 ▸ Heap.get?_push_of_some _ (Heap.get?_push_of_some _ (Heap.get?_push_of_some _ (Heap.get?_push_size _ f2)))
  have q1 : (zh h o1 o2).get? h.objs.size = some o1 := Heap.get?_push_of_some _ (Heap.get?_push_of_some _ (Heap.get?_push_of_some _ (Heap.get?_push_of_some _ (Heap.get?_push_size _ f1))))
  rw [z2, z3] at q5
  rw [z1] at q3
  exact ⟨⟨q5, q3, ⟨_, _, q4⟩, p1 _ q1, p2 _ _ q2⟩, fun c o e => Heap.get?_push_of_some _ (Heap.get?_push_of_some _ (Heap.get?_push_of_some _ (Heap.get?_push_of_some _ (Heap.get?_push_of_some _ e)))), by rw [Heap.size_push, z4]⟩
theorem zipK_new {k1 k2 : Bool} {a1 a2 : Addr} {xs ys : Array Value} :
    PySem.Meets (Builtin.«zip.__new__» ⟨[.type "zip", .ref a1, .ref a2], []⟩) (fun _ R s => SeqK k1 s.heap a1 xs ∧ SeqK k2 s.heap a2 ys ∧
      ∀ h', ZipAt k1 k2 h' (s.heap.objs.size + 4) (s.heap.objs.size + 2) (s.heap.objs.size + 3) s.heap.objs.size (s.heap.objs.size + 1) a1 a2 0 → (∀ c o, s.heap.get? c = some o → h'.get? c = some o) → h'.objs.size = s.heap.objs.size + 5 → R (.ok (.ret (.ref (s.heap.objs.size + 4)))) { s with heap := h' }) :=
  .of_wp fun prog w A R s hq => by
    obtain ⟨hp, g, d, tk, os⟩ := s
    obtain ⟨hl1, hl2, hr⟩ := hq
    have hsub := sub_zip
    have fin : ∀ {o1 o2 : Obj}, (∀ g : Heap, g.get? hp.objs.size = some o1 → ItrK k1 g hp.objs.size a1 0) → (∀ (g : Heap) (n : Addr), g.get? n = some o2 → ItrK k2 g n a2 0) → o1.isFreed = false → o2.isFreed = false →
        R (.ok (.ret (.ref ((((hp.push o1).push o2).push { cls := .type "tuple", data := .seq #[.ref hp.objs.size, .ref (hp.push o1).objs.size] }).push { cls := .type "tuple", data := .seq #[.none, .none] }).objs.size))) ⟨zh hp o1 o2, g, d, tk, os⟩ := fun {o1 o2} p1 p2 f1 f2 => by
      obtain ⟨A, B, C⟩ := zh_ok p1 p2 f1 f2
      have e : ((((hp.push o1).push o2).push { cls := .type "tuple", data := .seq #[.ref hp.objs.size, .ref (hp.push o1).objs.size] }).push { cls := .type "tuple", data := .seq #[.none, .none] }).objs.size = hp.objs.size + 4 := by
        rw [Heap.size_push, Heap.size_push, Heap.size_push, Heap.size_push]
      rw [e]
      exact hr _ A B C
    cases k1 with
    | true =>
      have L1 : Heap.IsList (Shared.heap ⟨hp, g, d, tk, os⟩) a1 xs := hl1
      cases k2 with
      | true =>
        have L2 : Heap.IsList (Shared.heap ⟨hp.push { cls := .type "list_iterator", data := .fields #[.ref a1, .int 0 0] }, g, d, tk, os⟩) a2 ys := Heap.IsList.push hl2 _
        wp_walk using wpAny_pyIter_list L1, wpAny_pyIter_list L2
        exact ⟨_, rfl, fin (fun g e => ⟨_, e, rfl, rfl⟩) (fun g n e => ⟨_, e, rfl, rfl⟩) rfl rfl⟩
      | false =>
        have L2 : Heap.IsTuple (Shared.heap ⟨hp.push { cls := .type "list_iterator", data := .fields #[.ref a1, .int 0 0] }, g, d, tk, os⟩) a2 ys := Heap.IsTuple.push hl2 _
        wp_walk using wpAny_pyIter_list L1, wpAny_pyIter_tuple L2
        exact ⟨_, rfl, fin (fun g e => ⟨_, e, rfl, rfl⟩) (fun g n e => ⟨_, e, rfl, rfl⟩) rfl rfl⟩
    | false =>
      have L1 : Heap.IsTuple (Shared.heap ⟨hp, g, d, tk, os⟩) a1 xs := hl1
      cases k2 with
      | true =>
        have L2 : Heap.IsList (Shared.heap ⟨hp.push { cls := .type "tuple_iterator", data := .fields #[.ref a1, .int 0 0] }, g, d, tk, os⟩) a2 ys := Heap.IsList.push hl2 _
        wp_walk using wpAny_pyIter_tuple L1, wpAny_pyIter_list L2
        exact ⟨_, rfl, fin (fun g e => ⟨_, e, rfl, rfl⟩) (fun g n e => ⟨_, e, rfl, rfl⟩) rfl rfl⟩
      | false =>
        have L2 : Heap.IsTuple (Shared.heap ⟨hp.push { cls := .type "tuple_iterator", data := .fields #[.ref a1, .int 0 0] }, g, d, tk, os⟩) a2 ys := Heap.IsTuple.push hl2 _
        wp_walk using wpAny_pyIter_tuple L1, wpAny_pyIter_tuple L2
        exact ⟨_, rfl, fin (fun g e => ⟨_, e, rfl, rfl⟩) (fun g n e => ⟨_, e, rfl, rfl⟩) rfl rfl⟩
theorem call_zipK {k1 k2 : Bool} {a1 a2 : Addr} {xs ys : Array Value} {Q : Value → Shared → Prop} (h1 : SeqK k1 s.heap a1 xs) (h2 : SeqK k2 s.heap a2 ys)
    (h : ∀ h', ZipAt k1 k2 h' (s.heap.objs.size + 4) (s.heap.objs.size + 2) (s.heap.objs.size + 3) s.heap.objs.size (s.heap.objs.size + 1) a1 a2 0 → (∀ c o, s.heap.get? c = some o → h'.get? c = some o) → h'.objs.size = s.heap.objs.size + 5 →
      Q (.ref (s.heap.objs.size + 4)) { s with heap := h' }) : wpAny (model prog w) A (call (.type "zip") [.ref a1, .ref a2]) Q E s := by
  refine callType_new F.called_zip (by decide) (F.typeCall_zip_2 _ _) (F.newCall_zip_2 _ _) (fun obj => F.args_object_init_3 obj _ _) F.entry_zip_new (zipK_new (k1 := k1) (k2 := k2) (xs := xs) (ys := ys)) ⟨h1, h2, fun h' Z k z => ?_⟩
  exact ⟨⟨_, Z.zz, rfl⟩, h h' Z k z⟩
end

theorem Inv.seqK {X : Cx} {pins : List (Addr × Obj)} {σ : St} {H : Hp} {s : Shared} {kd : Bool} {a : Addr} {xs : List V} (I : Inv X pins σ H s) (h : SqK X.K kd H a xs) : ∃ its : List Value, Vals xs its ∧ SeqK kd s.heap a its.toArray ∧ xs.length ≤ sizeLine := by
  cases kd with
  | true => obtain ⟨its, r, p, z⟩ := I.list h; exact ⟨its, r, p.isList, z⟩
  | false => obtain ⟨its, r, p, z⟩ := I.tuple h; exact ⟨its, r, p, z⟩
theorem Inv.seqK_inj {X : Cx} {pins : List (Addr × Obj)} {σ : St} {H : Hp} {s : Shared} {kd : Bool} {a : Addr} {xs ys : List V} (I : Inv X pins σ H s) (h : SqK X.K kd H a xs) (h' : SqK X.K kd H a ys) : xs = ys := by
  cases kd with
  | true => exact I.list_inj h h'
  | false => exact I.tuple_inj h h'
theorem SqK.ne_fp {X : Cx} {pins : List (Addr × Obj)} {σ : St} {H : Hp} {s : Shared} {kd : Bool} {a b : Addr} {xs : List V} (I : Inv X pins σ H s) (h : SqK X.K kd H a xs) (f : FpOk X pins H b) : a ≠ b := fun z => by
  have kk : ∀ o, X.K.lookup a = some o → False := fun o e => by
    have e' := I.mod.kin a o e
    rcases f.2.2.2.1 with q | q
    · exact I.ok.noex a o e' (by rw [z]; exact q)
    · have := Heap.lt_size (I.ok.bs a o e').1
      rw [z] at this
      exact Nat.lt_irrefl _ (Nat.lt_of_lt_of_le this q)
  cases kd with
  | true =>
    rcases (show SqL X.K H a xs from h) with (q | ⟨o, q⟩) | ⟨o, _, _, q, _⟩
    · rw [z, f.1] at q; cases q
    · rw [z, f.1] at q; cases q
    · exact kk o q
  | false =>
    rcases (show SqT X.K H a xs from h) with (q | ⟨o, q⟩) | ⟨o, _, _, q, _⟩
    · rw [z, f.1] at q; cases q
    · rw [z, f.1] at q; cases q
    · exact kk o q
def Itz (K : PySem.W.Frag) (k1 k2 : Bool) (a1 a2 : Addr) : It :=
  ⟨fun i H => ∃ xs ys x y, SqK K k1 H a1 xs ∧ SqK K k2 H a2 ys ∧ xs[i]? = some x ∧ ys[i]? = some y,
   fun i H x H' => ∃ T u v, x = .ref T ∧ H T = none ∧ H' = upd H T (.tup [u, v]) ∧ (∀ xs, SqK K k1 H a1 xs → xs[i]? = some u) ∧ ∀ ys, SqK K k2 H a2 ys → ys[i]? = some v,
   fun i H => ∃ xs ys, SqK K k1 H a1 xs ∧ SqK K k2 H a2 ys ∧ (xs.length ≤ i ∨ ys.length ≤ i)⟩
theorem turn_zip {P : Program} {w : World} {K : PySem.W.Frag} {elts : List Expr} {kk : Nat} {pos : Pos} {k1 k2 : Bool} {a1 a2 z TI TO i1 i2 : Addr} (N : ZipNe z TI TO i1 i2) :
    Turn P w K (.Tuple elts kk pos) (Itz K k1 k2 a1 a2) [z, TI, TO, i1, i2] z (fun i h => ZipAt k1 k2 h z TI TO i1 i2 a1 a2 i) where
  mem := by simp
  obj := fun i h Z b hb => by
    obtain ⟨a, b', q⟩ := Z.to
    have e1 := Z.r1.obj
    have e2 := Z.r2.obj
    simp only [List.mem_cons, List.not_mem_nil, or_false] at hb
    rcases hb with r | r | r | r | r
    · subst r; exact ⟨_, Z.zz, fun v q => nomatch q⟩
    · subst r; exact ⟨_, Z.ti, fun v q => nomatch q⟩
    · subst r; exact ⟨_, q, fun v q => nomatch q⟩
    · subst r; obtain ⟨o, e, _, d⟩ := e1; exact ⟨o, e, d⟩
    · subst r; obtain ⟨o, e, _, d⟩ := e2; exact ⟨o, e, d⟩
  keep := fun i h h' Z k => by
    obtain ⟨a, b', q⟩ := Z.to
    exact ⟨k _ (by simp) _ Z.zz, k _ (by simp) _ Z.ti, ⟨a, b', k _ (by simp) _ q⟩, Z.r1.at fun o e => k _ (by simp) o e, Z.r2.at fun o e => k _ (by simp) o e⟩
  item := by
    intro X hP hw hK hc i pins s σ H E I hf Z hg
    subst hP hw hK
    obtain ⟨xs, ys, x, y, hq1, hq2, hx, hy⟩ := hg
    obtain ⟨its1, rv1, p1, hz1⟩ := I.seqK hq1
    obtain ⟨its2, rv2, p2, hz2⟩ := I.seqK hq2
    obtain ⟨u1, hu1, ru1⟩ := rv1.get hx
    obtain ⟨u2, hu2, ru2⟩ := rv2.get hy
    have sub : ∀ b ∈ [z, TO, i1, i2], b ∈ [z, TI, TO, i1, i2] := fun b hb => by
      simp only [List.mem_cons, List.not_mem_nil, or_false] at hb ⊢
      rcases hb with r | r | r | r <;> simp [r]
    refine zipK_next N Z p1 p2 (fun b hb => hq1.ne_fp I (hf b (sub b hb))) (fun b hb => hq2.ne_fp I (hf b (sub b hb))) (by simpa using hu1) (by simpa using hu2) fun h1 zz ti to r1 r2 hT hsz hk => ?_
    refine ⟨_, rfl, wpAny_letOwnedTupleGo_zip zz fun h2 zz2 hs2 => ?_⟩
    have zl : z < s.heap.objs.size := Heap.lt_size Z.zz
    obtain ⟨ta, tb, to⟩ := to
    refine ⟨.ref s.heap.objs.size, upd H s.heap.objs.size (.tup [x, y]), ?_, rfl, ⟨_, x, y, rfl, I.hok.fresh (Nat.le_refl _), rfl, fun xs' h' => by rw [I.seqK_inj h' hq1]; exact hx, fun ys' h' => by rw [I.seqK_inj h' hq2]; exact hy⟩,
      ⟨zz2, hs2.extBut _ _ N.a ti, ⟨ta, tb, hs2.extBut _ _ N.b to⟩, r1.at fun o e => hs2.extBut _ o N.c e, r2.at fun o e => hs2.extBut _ o N.d e⟩, fun b hb => ?_⟩
    · exact inv_tup (s := s) (h' := h2) (t' := s.toks) (ch := [z, TO, i1, i2]) (its := [u1, u2]) I (fun b hb => hf b (sub b hb)) (Nat.le_refl _) (fun b o hb e => hs2.extBut _ o (fun q => hb (by simp [q])) (hk b o hb e)) (by rw [sizeLine_eq]; exact (by decide : 2 ≤ 16777216)) (.cons ru1 (.cons ru2 .nil))
        ⟨_, hs2.extBut _ _ (Nat.ne_of_gt zl) hT, rfl, 0, rfl⟩
    · have hb' : b < s.heap.objs.size := by
        have e1 := Z.r1.obj
        have e2 := Z.r2.obj
        obtain ⟨a, b', q⟩ := Z.to
        simp only [List.mem_cons, List.not_mem_nil, or_false] at hb
        rcases hb with r | r | r | r | r
        · subst r; exact zl
        · subst r; exact Heap.lt_size Z.ti
        · subst r; exact Heap.lt_size q
        · subst r; obtain ⟨o, e, _⟩ := e1; exact Heap.lt_size e
        · subst r; obtain ⟨o, e, _⟩ := e2; exact Heap.lt_size e
      rw [upd_ne (Nat.ne_of_lt hb')]
      exact (hf b hb).1
  done := by
    intro X hP hw hK hc i pins s σ H E I hf Z hg
    subst hP hw hK
    obtain ⟨xs, ys, hq1, hq2, hle⟩ := hg
    obtain ⟨its1, rv1, p1, hz1⟩ := I.seqK hq1
    obtain ⟨its2, rv2, p2, hz2⟩ := I.seqK hq2
    have sub : ∀ b ∈ [z, TO, i1, i2], b ∈ [z, TI, TO, i1, i2] := fun b hb => by
      simp only [List.mem_cons, List.not_mem_nil, or_false] at hb ⊢
      rcases hb with r | r | r | r <;> simp [r]
    have tr : ∀ b u, H b = some u → b ∉ [z, TO, i1, i2] := fun b u e hb => by rw [(hf b (sub b hb)).1] at e; cases e
    refine zipK_end (I.ok.hd hc) N Z p1 p2 (fun b hb => hq1.ne_fp I (hf b (sub b hb))) (fun b hb => hq2.ne_fp I (hf b (sub b hb))) ?_ fun h' hk => ⟨rfl, ?_⟩
    · have l1 := rv1.length
      have l2 := rv2.length
      rcases hle with q | q
      · exact .inl (by simp; omega)
      · exact .inr (by simp; omega)
    · refine I.step (g' := s.gens) (d' := s.drawn) (t' := s.toks) (ch := [z, TO, i1, i2]) (fun b hb => ?_) (fun b o _ _ hc e _ => hk b o hc e) (fun b o _ _ hc e _ => ⟨o.slots, hk b o hc e⟩) (fun _ _ _ _ n => n) (fun b o hc e => ⟨o, hk b o hc e⟩)
        (fun _ _ e => e) (fun _ _ _ e => e) (fun b ps e => ⟨#[], by rw [e]; simp⟩) (fun m hm => ?_) (fun b u e => ?_) I.bare
      · obtain ⟨_, g1, _, g3, g4, g5⟩ := hf b (sub b hb)
        exact ⟨g3, g1, g4, g5⟩
      · obtain ⟨o, es, ep, ho, r⟩ := hm
        exact ⟨o, es, ep, hk _ o (fun z => (hf _ (sub _ z)).2.1 rfl) ho, r⟩
      · refine (I.hok b u e).stay (fun c v hc q => hk c v ?_ q) (fun _ q => q) fun _ _ q => q
        rcases hc with z | z
        · rw [z]; exact tr b u e
        · exact tr c _ z
  self := fun _ _ _ _ _ Z h => wpAny_pyIter_zip Z.zz h
section
variable {X : Cx}
def iZip (K : PySem.W.Frag) (ta : TA) : TI := fun σ H R => ta σ H fun vs H1 => ∃ k1 k2 a1 a2, vs = [.ref a1, .ref a2] ∧ (∃ xs, SqK K k1 H1 a1 xs) ∧ (∃ ys, SqK K k2 H1 a2 ys) ∧ R (Itz K k1 k2 a1 a2) H1
theorem pi_zip {l m : Expr} {ta : TA} {p pos tp : Pos} {elts : List Expr} {kk : Nat} (hg : Gl X "zip") (hm : X.mg "zip" = none) (ha : PA X [l, m] ta) (hs : starEach [l, m] X.env = [(false, eval l X.env), (false, eval m X.env)] := by rfl) (hs2 : starEach [m] X.env = [(false, eval m X.env)] := by rfl) :
    PI X (.Tuple elts kk tp) (.Call (.Name "zip" p) [l, m] [] pos) (iZip X.K ta) := by
  intro pins s σ H R I h
  refine Call_ (ld_blt I hg hm boot_zip (PyProof.Rows.callWith_type1 (thn (ha pos pins s σ H _ I h) fun us s1 ⟨vs, H1, I1, r1, q1⟩ => ?_) (by rw [hs, hs2]) (by rw [hs2]; rfl)))
  obtain ⟨k1, k2, a1, a2, e, ⟨xs, hq1⟩, ⟨ys, hq2⟩, q⟩ := q1
  subst e
  obtain ⟨u, u', rfl, ru, ru'⟩ := vals2 r1
  cases ru
  cases ru'
  obtain ⟨its1, rv1, p1, hz1⟩ := I1.seqK hq1
  obtain ⟨its2, rv2, p2, hz2⟩ := I1.seqK hq2
  refine call_zipK p1 p2 fun h' Z hk hsz => wpAny_pyIter_zip Z.zz ?_
  have I2 : Inv X pins σ H1 { s1 with heap := h' } := I1.kept (t' := s1.toks) hk
  have N : ZipNe (s1.heap.objs.size + 4) (s1.heap.objs.size + 2) (s1.heap.objs.size + 3) s1.heap.objs.size (s1.heap.objs.size + 1) := by
    constructor <;> (intro e; have e' : (_ : Nat) = _ := e; omega)
  refine ⟨s1.heap.objs.size + 4, _, _, _, H1, rfl, I2, turn_zip N, Z, fun b hb => ?_, q⟩
  have hb' : s1.heap.objs.size ≤ b := by
    simp only [List.mem_cons, List.not_mem_nil, or_false] at hb
    rcases hb with r | r | r | r | r <;> (rw [r]; first | exact Nat.le_add_right _ _ | exact Nat.le_refl _)
  exact I1.fpOk hb' (I1.hok.fresh hb')
end
end L2

set_option Elab.async false
set_option linter.all false
set_option maxRecDepth 100000
set_option maxHeartbeats 4000000
namespace L2
open PySem PySem.Spec PyProof.Rows

/-! ## isinstance against built-in types -/
def TyN (K : PySem.W.Frag) (H : Hp) (x : V) (T : String) : Prop := match x with
  | .non => T = "NoneType"
  | .bl _ => T = "bool"
  | .int _ => T = "int"
  | .str _ => T = "str"
  | .ref a => (T = "list" ∧ ∃ xs, SqL K H a xs) ∨ (T = "tuple" ∧ ∃ xs, SqT K H a xs)
  | _ => False
def subT (T C : String) : Bool := T == C || (T == "bool" && C == "int")
def tyNames : List String := ["NoneType", "bool", "int", "str", "list", "tuple"]
def clNames : List String := ["bool", "int", "str", "list", "tuple", "dict"]
theorem kit_sub {K : PySem.W.Frag} : ∀ T ∈ tyNames, ∀ C ∈ clNames, PySem.W.kitOne K (.type T) (.type C) = some (subT T C) := by
  intro T hT C hC
  simp only [tyNames, clNames, List.mem_cons, List.not_mem_nil, or_false] at hT hC
  rcases hT with rfl | rfl | rfl | rfl | rfl | rfl <;> rcases hC with rfl | rfl | rfl | rfl | rfl | rfl <;> kernel_rfl
theorem kit_subs {K : PySem.W.Frag} {T : String} (hT : T ∈ tyNames) : ∀ {Cs : List String}, (∀ C ∈ Cs, C ∈ clNames) → PySem.W.kitAny K (.type T) (Cs.map Value.type) = some (Cs.any fun C => subT T C)
  | [], _ => rfl
  | C :: r, h => by
    have ih := kit_subs (K := K) hT (Cs := r) fun C' hC => h C' (List.mem_cons_of_mem _ hC)
    show (match PySem.W.kitOne K (.type T) (.type C) with | some true => some true | some false => PySem.W.kitAny K (.type T) (r.map Value.type) | none => none) = _
    rw [kit_sub T hT C (h C List.mem_cons_self), List.any_cons]
    cases subT T C with
    | true => rfl
    | false => rw [ih]; rfl
theorem TyN.mem {K : PySem.W.Frag} {H : Hp} {x : V} {T : String} (h : TyN K H x T) : T ∈ tyNames := by
  cases x with
  | non => cases (show T = _ from h); decide
  | bl _ => cases (show T = _ from h); decide
  | int _ => cases (show T = _ from h); decide
  | str _ => cases (show T = _ from h); decide
  | ref a => rcases (show _ ∨ _ from h) with ⟨e, _⟩ | ⟨e, _⟩ <;> (subst e; decide)
  | _ => exact (show False from h).elim
section
variable {X : Cx} {pins : List (Addr × Obj)} {σ : St} {H : Hp} {s : Shared}
theorem kitx_at {x : V} {u : Value} {T : String} (I : Inv X pins σ H s) (rx : RelV x u) (ty : TyN X.K H x T) : ∃ P : Heap → Prop, P s.heap ∧ PySem.W.KitX X.K u (.type T) P ∧ u ≠ .builtin "__main__.__loader__#opaque" := by
  cases x with
  | non => cases (show u = Value.none from rx); cases (show T = _ from ty); exact ⟨_, True.intro, PySem.W.kitx_none, fun z => nomatch z⟩
  | bl y => cases (show u = Value.bool y from rx); cases (show T = _ from ty); exact ⟨_, True.intro, PySem.W.kitx_bool, fun z => nomatch z⟩
  | int i => obtain ⟨t, q⟩ := (show ∃ t, u = Value.int i t from rx); cases q; cases (show T = _ from ty); exact ⟨_, True.intro, PySem.W.kitx_int, fun z => nomatch z⟩
  | str y => obtain ⟨t, q⟩ := (show ∃ t, u = Value.str y t from rx); cases q; cases (show T = _ from ty); exact ⟨_, True.intro, PySem.W.kitx_str, fun z => nomatch z⟩
  | ref a =>
    cases (show u = Value.ref a from rx)
    rcases (show _ ∨ _ from ty) with ⟨e, xs, hx⟩ | ⟨e, xs, hx⟩
    · subst e
      obtain ⟨its, r, ⟨o, n, e1, e2, _⟩, _⟩ := I.list hx
      exact ⟨_, ⟨o, e1, e2⟩, PySem.W.kitx_list, fun z => nomatch z⟩
    · subst e
      obtain ⟨its, r, ⟨o, e1, e2, _⟩, _⟩ := I.tuple hx
      exact ⟨_, ⟨o, e1, e2⟩, PySem.W.kitx_tuple, fun z => nomatch z⟩
  | _ => exact (show False from ty).elim
end
section
variable {X : Cx}
theorem vals_ty : ∀ {Cs : List String} {us : List Value}, Vals (Cs.map V.ty) us → us = Cs.map Value.type
  | [], us, r => by cases r; rfl
  | C :: r, us, h => by
    cases h with
    | cons h1 h2 => rw [vals_ty h2, show _ = Value.type C from h1]; rfl
theorem call_isi : CallR X (.builtin "isinstance") (fun xs H Q => ∃ x T C, xs = [x, .ty C] ∧ TyN X.K H x T ∧ C ∈ clNames ∧ Q (.bl (subT T C)) H) := by
  intro pins s σ H xs us Q I r h
  obtain ⟨x, T, C, rfl, ty, hC, q⟩ := h
  obtain ⟨u, w', rfl, ru, rw'⟩ := vals2 r
  cases (show w' = Value.type C from rw')
  obtain ⟨P, hP, Z, hn⟩ := kitx_at I ru ty
  exact PySem.W.kia_one Z I.kIn hP (kit_sub T ty.mem C hC) hn fun tk => ⟨.bl _, H, I.tok tk, rfl, q⟩
theorem call_isiT : CallR X (.builtin "isinstance") (fun xs H Q => ∃ (x : V) (T : String) (p : Addr) (Cs : List String), xs = [x, .ref p] ∧ TyN X.K H x T ∧ H p = some (.tup (Cs.map V.ty)) ∧ (∀ C ∈ Cs, C ∈ clNames) ∧ Q (.bl (Cs.any fun C => subT T C)) H) := by
  intro pins s σ H xs us Q I r h
  obtain ⟨x, T, p, Cs, rfl, ty, hp, hC, q⟩ := h
  obtain ⟨u, w', rfl, ru, rw'⟩ := vals2 r
  cases (show w' = Value.ref p from rw')
  obtain ⟨P, hP, Z, hn⟩ := kitx_at I ru ty
  obtain ⟨its, r', ⟨o, e1, e2, n, e3⟩, _⟩ := I.tuple (SqT.of hp)
  obtain ⟨c, dd, dt, sl⟩ := o
  have e2 : c = .type "tuple" := e2
  have e3 : dt = .seq its.toArray n := e3
  subst e2 e3
  rw [vals_ty r'] at e1
  exact PySem.W.kia_tup Z I.kIn hP e1 (kit_subs ty.mem hC) hn fun tk => ⟨.bl _, H, I.tok tk, rfl, q⟩
end

/-! ## plain data -/
inductive Dat where
  | non | bl (b : Bool) | int (i : Int) | str (x : Str) | lst (ds : List Dat) | tup (ds : List Dat)
mutual
/-- the value v stands for the data -/
def Rep (K : PySem.W.Frag) (H : Hp) : Dat → V → Prop
  | .non, v => v = .non
  | .bl b, v => v = .bl b
  | .int i, v => v = .int i
  | .str x, v => v = .str x
  | .lst ds, v => ∃ a xs, v = .ref a ∧ SqL K H a xs ∧ Reps K H ds xs
  | .tup ds, v => ∃ a xs, v = .ref a ∧ SqT K H a xs ∧ Reps K H ds xs
def Reps (K : PySem.W.Frag) (H : Hp) : List Dat → List V → Prop
  | [], xs => xs = []
  | d :: ds, xs => ∃ x r, xs = x :: r ∧ Rep K H d x ∧ Reps K H ds r
end
mutual
def Dat.dp : Dat → Nat
  | .lst ds => Dat.dps ds + 1
  | .tup ds => Dat.dps ds + 1
  | _ => 0
def Dat.dps : List Dat → Nat
  | [] => 0
  | d :: ds => max d.dp (Dat.dps ds)
end
theorem Same.sqT {K : PySem.W.Frag} {H H' : Hp} {a : Addr} {xs : List V} (e : Same H H') (h : SqT K H a xs) : SqT K H' a xs := by
  rcases h with (h | ⟨o, h⟩) | h
  · exact .inl (.inl (e _ _ h))
  · exact .inl (.inr ⟨o, e _ _ h⟩)
  · exact .inr h
mutual
theorem Rep.same {K : PySem.W.Frag} {H H' : Hp} (e : Same H H') : ∀ {d : Dat} {v : V}, Rep K H d v → Rep K H' d v
  | .non, _, h => h
  | .bl _, _, h => h
  | .int _, _, h => h
  | .str _, _, h => h
  | .lst _, _, h => by
    obtain ⟨a, xs, e1, e2, e3⟩ := h
    exact ⟨a, xs, e1, e.seq e2, Reps.same e e3⟩
  | .tup _, _, h => by
    obtain ⟨a, xs, e1, e2, e3⟩ := h
    exact ⟨a, xs, e1, e.sqT e2, Reps.same e e3⟩
theorem Reps.same {K : PySem.W.Frag} {H H' : Hp} (e : Same H H') : ∀ {ds : List Dat} {xs : List V}, Reps K H ds xs → Reps K H' ds xs
  | [], _, h => h
  | _ :: _, _, h => by
    obtain ⟨x, r, e1, e2, e3⟩ := h
    exact ⟨x, r, e1, Rep.same e e2, Reps.same e e3⟩
end
theorem Reps.len {K : PySem.W.Frag} {H : Hp} : ∀ {ds : List Dat} {xs : List V}, Reps K H ds xs → xs.length = ds.length
  | [], _, h => by rw [show _ = _ from h]; rfl
  | _ :: _, _, h => by
    obtain ⟨x, r, e1, e2, e3⟩ := h
    rw [e1, List.length_cons, List.length_cons, Reps.len e3]
theorem Reps.get {K : PySem.W.Frag} {H : Hp} : ∀ {ds : List Dat} {xs : List V} {i : Nat} {x : V}, Reps K H ds xs → xs[i]? = some x → ∃ d, ds[i]? = some d ∧ Rep K H d x
  | [], _, _, _, h, e => by rw [show _ = _ from h] at e; simp at e
  | d :: ds, _, i, x, h, e => by
    obtain ⟨y, r, e1, e2, e3⟩ := h
    subst e1
    cases i with
    | zero => simp at e; subst e; exact ⟨d, rfl, e2⟩
    | succ i =>
      obtain ⟨d', q1, q2⟩ := Reps.get (i := i) e3 (by simpa using e)
      exact ⟨d', by simpa using q1, q2⟩
theorem same_upd {H : Hp} {a : Addr} {o : HO} (h : H a = none) : Same H (upd H a o) := fun b u e => by rw [upd_ne (ne_of_none e h)]; exact e

/-! ## == and != of flat tuples -/
section
variable {X : Cx}
end
end L2

set_option Elab.async false
set_option linter.all false
set_option maxRecDepth 100000
set_option maxHeartbeats 4000000
namespace L2
open PySem PySem.Spec PyProof.Rows
section
variable {X : Cx}
end

/-! ## a def by its name -/
structure Dfn (P : Program) (w : World) (K : PySem.W.Frag) (mg : Str → Option Value) (base : Heap) (x : Str) (k : Nat) (ps : List Str) (sp : Sp) : Prop where
  ex : ∃ f fd, FnOk P w K mg base CX0 k f fd ps sp ∧ mg x = some (.ref f) ∧ PySem.W.keepIn K (.ref f) = true ∧ Binds K fd ps []
theorem Dfn.imp {P : Program} {w : World} {K : PySem.W.Frag} {mg : Str → Option Value} {base : Heap} {x : Str} {k : Nat} {ps : List Str} {sp sp' : Sp} (D : Dfn P w K mg base x k ps sp) (h : ∀ vs H Q E, sp' vs H Q E → sp vs H Q E) : Dfn P w K mg base x k ps sp' := by
  obtain ⟨f, fd, F, r⟩ := D.ex
  exact ⟨f, fd, F.imp h, r⟩
section
variable {X : Cx} {x : Str} {k : Nat} {ps : List Str} {sp : Sp} {p pos : Pos} {e : Expr} {es : List Expr} {t : TA}
theorem pe_callD (D : Dfn X.prog X.w X.K X.mg X.base x k ps sp) (hr : Room k X.A) (hg : Gl X x) (ha : PA X (e :: es) t) (hd : (x == ("__debug__" : Str)) = false := by decide)
    (hs : starEach (e :: es) X.env = (false, eval e X.env) :: starEach es X.env := by rfl) (hpl : (backTo pos (starEach es X.env)).any (·.1) = false := by rfl) : PE X (.Call (.Name x p) (e :: es) [] pos) (tCall sp [] E0 t) := by
  obtain ⟨f, fd, F, hm, hk, hb⟩ := D.ex
  exact pe_call F hr hg hm hk hb .nil pass0 ha hd hs hpl
end
end L2

set_option Elab.async false
set_option linter.all false
set_option maxRecDepth 100000
set_option maxHeartbeats 4000000
namespace L2
open PySem PySem.Spec PyProof.Rows
theorem ifT {b : Bool} {A B : Prop} (h : b = true) (q : A) : if b = true then A else B := by rw [if_pos h]; exact q
theorem ifF {b : Bool} {A B : Prop} (h : b = false) (q : B) : if b = true then A else B := by rw [if_neg (by rw [h]; exact Bool.false_ne_true)]; exact q
theorem lc_zip {K : PySem.W.Frag} {k1 k2 : Bool} {a1 a2 : Addr} {xs ys : List V} {g : TG} {tf : TT} {te : TE} {σ0 : St} {n : Nat} {R : List V → Hp → Prop} {H : Hp} (Pv : Nat → List V → Hp → Prop) (h0 : Pv 0 [] H)
    (h1 : ∀ i zs H, Pv i zs H → SqK K k1 H a1 xs ∧ SqK K k2 H a2 ys)
    (hs : ∀ i x y zs H T, xs[i]? = some x → ys[i]? = some y → Pv i zs H → H T = none → g (.ref T) σ0 (upd H T (.tup [x, y])) fun σ4 H4 => σ4.drop n = σ0.drop n ∧ tf σ4 H4 fun b H5 =>
      if b = true then te σ4 H5 fun v H6 => zs.length < sizeLine ∧ Pv (i + 1) (zs ++ [v]) H6 else Pv (i + 1) zs H5)
    (hd : ∀ zs H, Pv (min xs.length ys.length) zs H → zs.length ≤ sizeLine ∧ R zs H) :
    ∃ W : Nat → Nat → List V → Hp → Prop, (∃ m, W 0 m [] H) ∧ ∀ i m zs H2, W i m zs H2 →
      ((Itz K k1 k2 a1 a2).stop i H2 ∧ zs.length ≤ sizeLine ∧ R zs H2) ∨
      ((Itz K k1 k2 a1 a2).go i H2 ∧ ∃ N : List V → Hp → Prop, (∀ zs H', N zs H' → ∃ m', m' < m ∧ W (i + 1) m' zs H') ∧ ∀ x H3, (Itz K k1 k2 a1 a2).yld i H2 x H3 → g x σ0 H3 fun σ4 H4 => σ4.drop n = σ0.drop n ∧ tf σ4 H4 fun b H5 =>
        if b = true then te σ4 H5 fun y H6 => zs.length < sizeLine ∧ N (zs ++ [y]) H6 else N zs H5) := by
  refine ⟨fun i m zs H2 => m = min xs.length ys.length - i ∧ i ≤ min xs.length ys.length ∧ Pv i zs H2, ⟨_, rfl, Nat.zero_le _, h0⟩, ?_⟩
  rintro i m zs H2 ⟨rfl, hi, p⟩
  obtain ⟨q1, q2⟩ := h1 i zs H2 p
  by_cases hlt : i < min xs.length ys.length
  · have l1 : i < xs.length := by omega
    have l2 : i < ys.length := by omega
    refine .inr ⟨⟨xs, ys, xs[i], ys[i], q1, q2, by simp [l1], by simp [l2]⟩, Pv (i + 1), fun zs' H' p' => ⟨_, by omega, rfl, hlt, p'⟩, fun x H3 y => ?_⟩
    obtain ⟨T, u, v, e1, hT, e2, y1, y2⟩ := y
    subst e1 e2
    exact hs i u v zs H2 T (y1 xs q1) (y2 ys q2) p hT
  · have e : i = min xs.length ys.length := by omega
    subst e
    obtain ⟨z1, z2⟩ := hd zs H2 p
    exact .inl ⟨⟨xs, ys, q1, q2, by omega⟩, z1, z2⟩
theorem lc_range {lo : Int} {N n : Nat} {g : TG} {tf : TT} {te : TE} {σ0 : St} {R : List V → Hp → Prop} {H : Hp} (Pv : Nat → List V → Hp → Prop) (h0 : Pv 0 [] H)
    (hs : ∀ i zs H, i < N → Pv i zs H → g (.int (lo + i)) σ0 H fun σ4 H4 => σ4.drop n = σ0.drop n ∧ tf σ4 H4 fun b H5 => if b = true then te σ4 H5 fun v H6 => zs.length < sizeLine ∧ Pv (i + 1) (zs ++ [v]) H6 else Pv (i + 1) zs H5)
    (hd : ∀ zs H, Pv N zs H → zs.length ≤ sizeLine ∧ R zs H) :
    ∃ W : Nat → Nat → List V → Hp → Prop, (∃ m, W 0 m [] H) ∧ ∀ i m zs H2, W i m zs H2 →
      ((Itr lo N).stop i H2 ∧ zs.length ≤ sizeLine ∧ R zs H2) ∨
      ((Itr lo N).go i H2 ∧ ∃ M : List V → Hp → Prop, (∀ zs H', M zs H' → ∃ m', m' < m ∧ W (i + 1) m' zs H') ∧ ∀ x H3, (Itr lo N).yld i H2 x H3 → g x σ0 H3 fun σ4 H4 => σ4.drop n = σ0.drop n ∧ tf σ4 H4 fun b H5 =>
        if b = true then te σ4 H5 fun y H6 => zs.length < sizeLine ∧ M (zs ++ [y]) H6 else M zs H5) := by
  refine ⟨fun i m zs H2 => m = N - i ∧ i ≤ N ∧ Pv i zs H2, ⟨_, rfl, Nat.zero_le _, h0⟩, ?_⟩
  rintro i m zs H2 ⟨rfl, hi, p⟩
  by_cases hlt : i < N
  · refine .inr ⟨hlt, Pv (i + 1), fun zs' H' p' => ⟨_, by omega, rfl, hlt, p'⟩, fun x H3 y => ?_⟩
    obtain ⟨e1, e2⟩ := y
    subst e1 e2
    exact hs i zs _ hlt p
  · have e : i = N := by omega
    subst e
    obtain ⟨z1, z2⟩ := hd zs H2 p
    exact .inl ⟨Nat.le_refl _, z1, z2⟩

def blkOkT (sn on : List (Str × NameKind)) (N own fr : List Str) (js : List Nat) : Bool :=
  blkOk sn on N fr js && own.all (fun x => sn.lookup x == some .local) && decide (own ++ fr).Nodup
theorem blkOkT_of {sn on : List (Str × NameKind)} {N own fr : List Str} {js : List Nat} (h : blkOkT sn on N own fr js = true) : blkOk sn on N fr js = true ∧ (∀ x ∈ own, sn.lookup x = some .local) ∧ (own ++ fr).Nodup := by
  unfold blkOkT at h
  rw [Bool.and_eq_true, Bool.and_eq_true, List.all_eq_true] at h
  exact ⟨h.1.1, fun x hx => by simpa using h.1.2 x hx, of_decide_eq_true h.2⟩
section
variable {X : Cx} {elt iter : Expr} {ifs : List Expr} {scope : Scope} {pos px py tp : Pos} {wi : TI} {tf : TT} {te : TE} {x y : Str} {kk : Nat}
theorem pg_blk {N' : List Str} {C : Addr} {s : Shared} {H : Hp} {ex : List Addr} {i : Nat} (hl : scope.names.lookup x = some .local) (nd : N'.Nodup) (hi : N'[i]? = some x) : PG (cxBlk X N' scope C s H ex) (.Name x px) (gName i) :=
  pg_name (X := cxBlk X N' scope C s H ex) nd hi (.inl (lookup_relabel_local hl)) (.inr (lookup_relabel_local hl))
theorem pe_lc1 (fr : List Str) (js : List Nat) (hc : X.calm = true) (hk : scope.kind = .function) (hb : blkOkT scope.names X.env.scope.names X.N [x] fr js = true) (hi : PI X (.Name x px) iter wi)
    (hf : ∀ C s H ex, PF (cxBlk X ([x] ++ fr) scope C s H ex) ifs tf) (he : ∀ C s H ex, PE (cxBlk X ([x] ++ fr) scope C s H ex) elt te)
    (hs : ∀ x, foldedSetIterable iter X.env x = pure x := by intro _; rfl) : PE X (.ListComp elt [⟨.Name x px, iter, ifs, 0⟩] scope pos) (tLC wi 1 js (gName 0) tf te) := by
  obtain ⟨h1, h2, h3⟩ := blkOkT_of hb
  exact pe_lc [x] fr js hc hk h1 hi (fun C s H ex => pg_blk (h2 x (by simp)) h3 rfl) hf he hs
theorem pe_lc2 (fr : List Str) (js : List Nat) (hc : X.calm = true) (hk : scope.kind = .function) (hb : blkOkT scope.names X.env.scope.names X.N [x, y] fr js = true) (hi : PI X (.Tuple [.Name x px, .Name y py] kk tp) iter wi)
    (hf : ∀ C s H ex, PF (cxBlk X ([x, y] ++ fr) scope C s H ex) ifs tf) (he : ∀ C s H ex, PE (cxBlk X ([x, y] ++ fr) scope C s H ex) elt te)
    (hs : ∀ x, foldedSetIterable iter X.env x = pure x := by intro _; rfl) : PE X (.ListComp elt [⟨.Tuple [.Name x px, .Name y py] kk tp, iter, ifs, 0⟩] scope pos) (tLC wi 2 js (gTup X.K 2 (gCons (gName 0) (gCons (gName 1) gNil))) tf te) := by
  obtain ⟨h1, h2, h3⟩ := blkOkT_of hb
  refine pe_lc [x, y] fr js hc hk h1 hi (fun C s H ex => ?_) hf he hs
  exact pg_tup (X := cxBlk X ([x, y] ++ fr) scope C s H ex) hc (pgs_cons (pg_blk (h2 x (by simp)) h3 rfl) (pgs_cons (pg_blk (h2 y (by simp)) h3 rfl) pgs_nil))
end

def tWk (t : TS) : TS := fun D σ H => ∃ J : St → Hp → Prop, t { D with nx := J } σ H ∧ ∀ σ' H', J σ' H' → D.nx σ' H'
theorem ps_weak {X : Cx} {st : Stmt} {t : TS} (h : PS X st t) : PS X st (tWk t) := by
  intro pins s σ H D I hw
  obtain ⟨J, q1, q2⟩ := hw
  refine thn (h pins s σ H _ I q1) fun f s1 q => ?_
  cases f with
  | next => obtain ⟨σ', H', I', z⟩ := q; exact ⟨σ', H', I', q2 σ' H' z⟩
  | brk => exact q
  | cont => exact q
  | ret u => exact q
def Dat.ok : Nat → Dat → Prop
  | n + 1, .lst ds => ds.length ≤ 1000000 ∧ ∀ d ∈ ds, Dat.ok n d
  | n + 1, .tup ds => ds.length ≤ 1000000 ∧ ∀ d ∈ ds, Dat.ok n d
  | 0, .lst _ => False
  | 0, .tup _ => False
  | _, _ => True
def Dat.tyN : Dat → String
  | .non => "NoneType" | .bl _ => "bool" | .int _ => "int" | .str _ => "str" | .lst _ => "list" | .tup _ => "tuple"
theorem Rep.ty {K : PySem.W.Frag} {H : Hp} {d : Dat} {v : V} (h : Rep K H d v) : TyN K H v d.tyN := by
  cases d with
  | non => rw [show v = _ from h]; exact rfl
  | bl b => rw [show v = _ from h]; exact rfl
  | int b => rw [show v = _ from h]; exact rfl
  | str b => rw [show v = _ from h]; exact rfl
  | lst ds => obtain ⟨a, xs, rfl, e, _⟩ := h; exact .inl ⟨rfl, xs, e⟩
  | tup ds => obtain ⟨a, xs, rfl, e, _⟩ := h; exact .inr ⟨rfl, xs, e⟩
end L2

set_option Elab.async false
set_option linter.all false
set_option maxRecDepth 100000
set_option maxHeartbeats 4000000
namespace L2
open PySem PySem.Spec PyProof.Rows
/-! ## str(x) of plain data -/
mutual
def Dat.py : Dat → PyData
  | .non => .none
  | .bl b => .bool b
  | .int i => .int i
  | .str x => .str x
  | .lst ds => .list (Dat.pys ds)
  | .tup ds => .tuple (Dat.pys ds)
def Dat.pys : List Dat → List PyData
  | [] => []
  | d :: ds => d.py :: Dat.pys ds
end
mutual
/-- ints of at most twelve figures, signs that are signs -/
def Dat.shw : Dat → Bool
  | .int i => decide (i.natAbs < 1000000000000)
  | .str x => x.cps.toList.all fun c => decide (c < 1000000)
  | .lst ds => Dat.shws ds
  | .tup ds => Dat.shws ds
  | _ => true
def Dat.shws : List Dat → Bool
  | [] => true
  | d :: ds => d.shw && Dat.shws ds
end
mutual
def Dat.blk : Dat → Nat
  | .str x => x.cps.size
  | .lst ds => Dat.blks ds
  | .tup ds => Dat.blks ds
  | _ => 0
def Dat.blks : List Dat → Nat
  | [] => 0
  | d :: ds => d.blk + 1 + Dat.blks ds
end
mutual
theorem Dat.py_blk : ∀ d : Dat, d.py.bulk = d.blk
  | .non => rfl
  | .bl _ => rfl
  | .int _ => rfl
  | .str _ => rfl
  | .lst ds => Dat.pys_blk ds
  | .tup ds => Dat.pys_blk ds
theorem Dat.pys_blk : ∀ ds : List Dat, PyData.bulkAll (Dat.pys ds) = Dat.blks ds
  | [] => rfl
  | d :: ds => by
    show PyData.bulk d.py + 1 + PyData.bulkAll (Dat.pys ds) = d.blk + 1 + Dat.blks ds
    rw [Dat.py_blk d, Dat.pys_blk ds]
end
theorem nat_log {n : Nat} (h : n < 1000000000000) : n.log2 < 1920 := by
  by_cases h0 : n = 0
  · rw [h0]; decide
  · exact Nat.lt_trans ((Nat.log2_lt h0).mpr (Nat.lt_trans h (by decide : 1000000000000 < 2 ^ 40))) (by decide)
mutual
theorem Dat.py_short : ∀ d : Dat, d.shw = true → d.py.leavesShort 13 = true ∧ d.py.showable = true ∧ d.py.hasDict = false
  | .non, _ => ⟨rfl, rfl, rfl⟩
  | .bl _, _ => ⟨rfl, rfl, rfl⟩
  | .int i, h => by
    have h' : i.natAbs < 1000000000000 := of_decide_eq_true h
    refine ⟨decide_eq_true (PyData.shown_int_le h'), decide_eq_true (nat_log h'), rfl⟩
  | .str x, h => by
    refine ⟨?_, rfl, rfl⟩
    have h' : (x.cps.toList.all fun c => decide (c < 1000000)) = true := h
    show (x.cps.toList.all fun c => decide (c < 16 ^ 8)) = true
    rw [List.all_eq_true] at h' ⊢
    intro c hc
    have := of_decide_eq_true (h' c hc)
    exact decide_eq_true (by omega)
  | .lst ds, h => Dat.pys_short ds h
  | .tup ds, h => Dat.pys_short ds h
theorem Dat.pys_short : ∀ ds : List Dat, Dat.shws ds = true → PyData.leavesShortAll 13 (Dat.pys ds) = true ∧ PyData.showableAll (Dat.pys ds) = true ∧ PyData.hasDictAll (Dat.pys ds) = false
  | [], _ => ⟨rfl, rfl, rfl⟩
  | d :: ds, h => by
    have h' : (d.shw && Dat.shws ds) = true := h
    rw [Bool.and_eq_true] at h'
    obtain ⟨a1, a2, a3⟩ := Dat.py_short d h'.1
    obtain ⟨b1, b2, b3⟩ := Dat.pys_short ds h'.2
    refine ⟨?_, ?_, ?_⟩
    · show (PyData.leavesShort 13 d.py && PyData.leavesShortAll 13 (Dat.pys ds)) = true
      rw [a1, b1]; rfl
    · show (PyData.showable d.py && PyData.showableAll (Dat.pys ds)) = true
      rw [a2, b2]; rfl
    · show (PyData.hasDict d.py || PyData.hasDictAll (Dat.pys ds)) = false
      rw [a3, b3]; rfl
end
mutual
theorem Rep.reads {X : Cx} {pins : List (Addr × Obj)} {σ : St} {H : Hp} {s : Shared} (I : Inv X pins σ H s) : ∀ {d : Dat} {v : V} {u : Value}, Rep X.K H d v → RelV v u → ∃ as, Reads s.heap u d.py as
  | .non, v, u, h, r => by cases (show v = _ from h); cases (show u = _ from r); exact ⟨_, .none⟩
  | .bl b, v, u, h, r => by cases (show v = _ from h); cases (show u = _ from r); exact ⟨_, .bool b⟩
  | .int i, v, u, h, r => by cases (show v = _ from h); obtain ⟨t, rfl⟩ := r; exact ⟨_, .int i t⟩
  | .str x, v, u, h, r => by cases (show v = _ from h); obtain ⟨t, rfl⟩ := r; exact ⟨_, .str x t⟩
  | .lst ds, v, u, h, r => by
    obtain ⟨a, xs, rfl, hx, hr⟩ := h
    cases (show u = _ from r)
    obtain ⟨its, rv, pl, _⟩ := I.list hx
    obtain ⟨o, e, c, n, dd⟩ := pl.isList
    obtain ⟨as, q⟩ := Reps.reads I hr rv
    exact ⟨_, .list e c dd (by simpa using q)⟩
  | .tup ds, v, u, h, r => by
    obtain ⟨a, xs, rfl, hx, hr⟩ := h
    cases (show u = _ from r)
    obtain ⟨its, rv, ⟨o, e, c, n, dd⟩, _⟩ := I.tuple hx
    obtain ⟨as, q⟩ := Reps.reads I hr rv
    exact ⟨_, .tuple e c dd (by simpa using q)⟩
theorem Reps.reads {X : Cx} {pins : List (Addr × Obj)} {σ : St} {H : Hp} {s : Shared} (I : Inv X pins σ H s) : ∀ {ds : List Dat} {xs : List V} {us : List Value}, Reps X.K H ds xs → Vals xs us → ∃ as, ReadsAll s.heap us (Dat.pys ds) as
  | [], xs, us, h, r => by cases (show xs = _ from h); cases r; exact ⟨_, .nil⟩
  | d :: ds, xs, us, h, r => by
    obtain ⟨x, r', rfl, h1, h2⟩ := h
    cases r with
    | cons r1 r2 =>
      obtain ⟨as, q1⟩ := Rep.reads I h1 r1
      obtain ⟨bs, q2⟩ := Reps.reads I h2 r2
      exact ⟨_, .cons q1 q2⟩
end
section
variable {X : Cx}
theorem call_sumI (hc : X.calm = true) : CallR X (.builtin "sum") (fun xs H Q => ∃ (p : Addr) (ns : List Int), xs = [.ref p] ∧ SqL X.K H p (ns.map V.int) ∧ (∀ z ∈ ns, 0 ≤ z ∧ z ≤ 1000000) ∧ ns.length ≤ 100000 ∧ Q (.int ns.sum) H) := by
  intro pins s σ H xs us Q I r h
  obtain ⟨p, ns, rfl, hq, hz, hn, q⟩ := h
  obtain ⟨u, rfl, ru⟩ := vals1 r
  cases (show u = _ from ru)
  obtain ⟨its, rv, pl, _⟩ := I.list hq
  have hl := pl.isList
  have hpl : p ≠ s.heap.objs.size := by
    obtain ⟨o, e, _⟩ := hl
    exact Nat.ne_of_lt (Heap.lt_size e)
  have hlen : its.length = ns.length := by have := rv.length; rw [List.length_map] at this; omega
  have hps : ∀ j, j ≤ ns.length → 0 ≤ (ns.take j).sum ∧ (ns.take j).sum ≤ 1000000 * (j : Int) := by
    intro j
    induction j with
    | zero => intro _; simp
    | succ j ih =>
      intro hj
      have := ih (by omega)
      have e : ns.take (j + 1) = ns.take j ++ [ns[j]'(by omega)] := by rw [List.take_append_getElem]
      have b := hz (ns[j]'(by omega)) (List.getElem_mem _)
      rw [e, List.sum_append]
      simp only [List.sum_cons, List.sum_nil]
      constructor
      · omega
      · have : (1000000 : Int) * ((j + 1 : Nat) : Int) = 1000000 * (j : Int) + 1000000 := by omega
        omega
  refine call_sum_walk (wpAny_pyIter_list hl ?_)
  refine ⟨s.heap.objs.size, _, _, _, _, _, fun i => ns.getD i 0, rfl, Walks.list (prog := X.prog) (w := X.w) (A := X.A.in1) (I.ok.hd hc) _ p hpl its.toArray, ⟨⟨_, Heap.get?_push_size _ rfl, rfl, rfl⟩, hl.push _⟩, fun b hb => ?_, fun i v hP => ?_, fun j hj => ?_, fun h' tk t' hk => ?_⟩
  · have hz' : (s.heap.push { cls := .type "list_iterator", data := .fields #[.ref p, .int 0 0] }).objs.size = s.heap.objs.size + 1 := Heap.size_push ..
    show b < (s.heap.push _).objs.size
    rw [hz']
    rcases List.mem_cons.mp hb with z | z
    · rw [z]; exact Nat.lt_succ_self _
    · rw [List.mem_singleton.mp z]
      obtain ⟨o, e, _⟩ := hl
      exact Nat.lt_succ_of_lt (Heap.lt_size e)
  · have e1 : its[i]? = some v := by simpa using hP
    have hi : i < ns.length := by have h1 := (List.getElem?_eq_some_iff.mp e1).1; omega
    obtain ⟨u', eu, ru'⟩ := rv.get (i := i) (x := .int ns[i]) (by simp [hi])
    rw [e1] at eu; cases eu
    obtain ⟨t, e⟩ := ru'
    exact ⟨t, by rw [e]; simp [hi]⟩
  · have hj' : j < ns.length := by simp only [List.size_toArray] at hj; omega
    have a1 := hz ns[j] (List.getElem_mem hj')
    have a2 := hps (j + 1) (by omega)
    have e63 : (2 : Int) ^ 63 = 9223372036854775808 := by decide
    refine ⟨?_, ?_⟩
    · show InLong (ns.getD j 0)
      rw [show ns.getD j 0 = ns[j] by simp [hj']]
      unfold InLong
      rw [e63]; omega
    · rw [preSum_getD]
      unfold InLong
      rw [e63]
      have : ((j + 1 : Nat) : Int) ≤ 100000 := by omega
      omega
  · have k : ∀ b o, s.heap.get? b = some o → h'.get? b = some o := fun b o e => hk b o (by simp; exact Nat.ne_of_lt (Heap.lt_size e)) (Heap.get?_push_of_some _ e)
    refine ⟨.int ns.sum, H, I.kept k, ⟨t', ?_⟩, q⟩
    rw [preSum_getD]
    have : ns.take its.toArray.size = ns := by rw [List.size_toArray, hlen, List.take_length]
    rw [this]
end
end L2

set_option Elab.async false
set_option linter.all false
set_option maxRecDepth 100000
set_option maxHeartbeats 4000000
namespace L2
open PySem PySem.Spec PyProof.Rows
end L2

set_option Elab.async false
set_option linter.all false
set_option maxRecDepth 100000
set_option maxHeartbeats 4000000
namespace L2
open PySem PySem.Spec PyProof.Rows
section
variable {X : Cx}
end
section
variable {X : Cx} {tg : Expr}
end
section
variable {X : Cx}
def rInsert : V → List V → Hp → VK → Prop := fun x vs H Q => ∃ (l : Addr) (xs : List V) (i : Int) (y : V), x = .ref l ∧ vs = [.int i, y] ∧ H l = some (.lst xs) ∧ 0 ≤ i ∧ i < 2 ^ 62 ∧ xs.length < sizeLine ∧ Q .non (upd H l (.lst (xs.take i.toNat ++ y :: xs.drop i.toNat)))
theorem mt_insert : MtM X "list.insert" rInsert := by
  intro pins s σ H x vs v us Q I rx rv h
  obtain ⟨l, xs, i, y, rfl, rfl, hH, i0, i1, hz, q⟩ := h
  cases rx
  obtain ⟨u1, u2, rfl, r1, r2⟩ := vals2 rv
  obtain ⟨t, rfl⟩ := r1
  obtain ⟨z, its, n, r, hl, e⟩ := I.lstM hH
  have hlen := r.length
  refine call_meets F.slot_list_insert ⟨_, e, rfl⟩ F.entry_list_insert (F.args_list_insert_3 _ _ _) (AutoListH.list_insert_list_int_val_1 l its.toArray n i t u2 ?_ (by rw [List.size_toArray]; omega)) ⟨e, ?_⟩
  · unfold Builtin.List.listFitsIndex
    simp
    omega
  refine ⟨.non, _, I.lset (its' := its.take i.toNat ++ u2 :: its.drop i.toNat) hH e ?_ ((r.take _).append (.cons r2 (r.drop _))) ?_, rfl, q⟩
  · show (have k := if i < 0 then (i + ((its.toArray.size : Nat) : Int)).toNat else min i.toNat its.toArray.size; (its.toArray.extract 0 k).push u2 ++ its.toArray.extract k) = _
    have hk : (if i < 0 then (i + ((its.toArray.size : Nat) : Int)).toNat else min i.toNat its.toArray.size) = min i.toNat its.length := by
      rw [if_neg (by omega), List.size_toArray]
    simp only [hk]
    apply Array.toList_inj.mp
    simp
    by_cases hle : i.toNat ≤ its.length
    · have h1 : (its.drop i.toNat).take (its.length - i.toNat) = its.drop i.toNat := List.take_of_length_le (by rw [List.length_drop]; omega)
      rw [Nat.min_eq_left hle, h1]
    · have h1 : its.length ≤ i.toNat := by omega
      rw [Nat.min_eq_right h1, List.take_of_length_le h1, List.drop_of_length_le h1]
      simp
  · simp only [List.length_append, List.length_take, List.length_cons, List.length_drop]
    omega
variable {e st : Expr} {te : TE} {tk : TO} {pos p2 : Pos}
end
end L2

set_option Elab.async false
set_option linter.all false
set_option maxRecDepth 100000
set_option maxHeartbeats 4000000
namespace L2
open PySem PySem.Spec PyProof.Rows
theorem lc_list {K : PySem.W.Frag} {a : Addr} {xs : List V} {g : TG} {tf : TT} {te : TE} {σ0 : St} {n : Nat} {R : List V → Hp → Prop} {H : Hp} (Pv : Nat → List V → Hp → Prop) (h0 : Pv 0 [] H)
    (h1 : ∀ i zs H, Pv i zs H → SqL K H a xs)
    (hs : ∀ i x zs H, xs[i]? = some x → Pv i zs H → g x σ0 H fun σ4 H4 => σ4.drop n = σ0.drop n ∧ tf σ4 H4 fun b H5 =>
      if b = true then te σ4 H5 fun v H6 => zs.length < sizeLine ∧ Pv (i + 1) (zs ++ [v]) H6 else Pv (i + 1) zs H5)
    (hd : ∀ zs H, Pv xs.length zs H → zs.length ≤ sizeLine ∧ R zs H) :
    ∃ W : Nat → Nat → List V → Hp → Prop, (∃ m, W 0 m [] H) ∧ ∀ i m zs H2, W i m zs H2 →
      ((Itl K a).stop i H2 ∧ zs.length ≤ sizeLine ∧ R zs H2) ∨
      ((Itl K a).go i H2 ∧ ∃ N : List V → Hp → Prop, (∀ zs H', N zs H' → ∃ m', m' < m ∧ W (i + 1) m' zs H') ∧ ∀ x H3, (Itl K a).yld i H2 x H3 → g x σ0 H3 fun σ4 H4 => σ4.drop n = σ0.drop n ∧ tf σ4 H4 fun b H5 =>
        if b = true then te σ4 H5 fun y H6 => zs.length < sizeLine ∧ N (zs ++ [y]) H6 else N zs H5) := by
  refine ⟨fun i m zs H2 => m = xs.length - i ∧ i ≤ xs.length ∧ Pv i zs H2, ⟨_, rfl, Nat.zero_le _, h0⟩, ?_⟩
  rintro i m zs H2 ⟨rfl, hi, p⟩
  have q := h1 i zs H2 p
  by_cases hlt : i < xs.length
  · refine .inr ⟨⟨xs, xs[i], q, by simp [hlt]⟩, Pv (i + 1), fun zs' H' p' => ⟨_, by omega, rfl, hlt, p'⟩, fun x H3 y => ?_⟩
    obtain ⟨e, y⟩ := y
    subst e
    exact hs i x zs _ (y xs q) p
  · have e : i = xs.length := by omega
    subst e
    obtain ⟨z1, z2⟩ := hd zs H2 p
    exact .inl ⟨⟨xs, q, Nat.le_refl _⟩, z1, z2⟩
theorem lc_tup {K : PySem.W.Frag} {a : Addr} {xs : List V} {g : TG} {tf : TT} {te : TE} {σ0 : St} {n : Nat} {R : List V → Hp → Prop} {H : Hp} (Pv : Nat → List V → Hp → Prop) (h0 : Pv 0 [] H)
    (h1 : ∀ i zs H, Pv i zs H → SqT K H a xs)
    (hs : ∀ i x zs H, xs[i]? = some x → Pv i zs H → g x σ0 H fun σ4 H4 => σ4.drop n = σ0.drop n ∧ tf σ4 H4 fun b H5 =>
      if b = true then te σ4 H5 fun v H6 => zs.length < sizeLine ∧ Pv (i + 1) (zs ++ [v]) H6 else Pv (i + 1) zs H5)
    (hd : ∀ zs H, Pv xs.length zs H → zs.length ≤ sizeLine ∧ R zs H) :
    ∃ W : Nat → Nat → List V → Hp → Prop, (∃ m, W 0 m [] H) ∧ ∀ i m zs H2, W i m zs H2 →
      ((Itt K a).stop i H2 ∧ zs.length ≤ sizeLine ∧ R zs H2) ∨
      ((Itt K a).go i H2 ∧ ∃ N : List V → Hp → Prop, (∀ zs H', N zs H' → ∃ m', m' < m ∧ W (i + 1) m' zs H') ∧ ∀ x H3, (Itt K a).yld i H2 x H3 → g x σ0 H3 fun σ4 H4 => σ4.drop n = σ0.drop n ∧ tf σ4 H4 fun b H5 =>
        if b = true then te σ4 H5 fun y H6 => zs.length < sizeLine ∧ N (zs ++ [y]) H6 else N zs H5) := by
  refine ⟨fun i m zs H2 => m = xs.length - i ∧ i ≤ xs.length ∧ Pv i zs H2, ⟨_, rfl, Nat.zero_le _, h0⟩, ?_⟩
  rintro i m zs H2 ⟨rfl, hi, p⟩
  have q := h1 i zs H2 p
  by_cases hlt : i < xs.length
  · refine .inr ⟨⟨xs, xs[i], q, by simp [hlt]⟩, Pv (i + 1), fun zs' H' p' => ⟨_, by omega, rfl, hlt, p'⟩, fun x H3 y => ?_⟩
    obtain ⟨e, y⟩ := y
    subst e
    exact hs i x zs _ (y xs q) p
  · have e : i = xs.length := by omega
    subst e
    obtain ⟨z1, z2⟩ := hd zs H2 p
    exact .inl ⟨⟨xs, q, Nat.le_refl _⟩, z1, z2⟩
/-! ## plain things, no text and no row longer than n -/
inductive DV (K : PySem.W.Frag) (F : Hp) (n : Nat) : V → Prop
  | non : DV K F n .non
  | bl (b : Bool) : DV K F n (.bl b)
  | int (i : Int) (h : i.natAbs ≤ 10000000000 + n) : DV K F n (.int i)
  | str (x : Str) (h : x.length ≤ n) : DV K F n (.str x)
  | lst (a : Addr) (xs : List V) (h : SqL K F a xs) (hl : xs.length ≤ n) (all : ∀ x ∈ xs, DV K F n x) : DV K F n (.ref a)
  | tup (a : Addr) (xs : List V) (h : SqT K F a xs) (hl : xs.length ≤ n) (all : ∀ x ∈ xs, DV K F n x) : DV K F n (.ref a)
theorem DV.up {K : PySem.W.Frag} {F F' : Hp} {n m : Nat} {v : V} (h : DV K F n v) (s : Same F F') (hm : n ≤ m) : DV K F' m v := by
  induction h with
  | non => exact .non
  | bl b => exact .bl b
  | int i h => exact .int i (by omega)
  | str x h => exact .str x (by omega)
  | lst a xs h hl all ih => exact .lst a xs (s.seq h) (by omega) ih
  | tup a xs h hl all ih => exact .tup a xs (s.sqT h) (by omega) ih
def WX (ex : List Addr) (H : Hp) : Hp := fun c => if c ∈ ex then none else H c
theorem WX.le {ex : List Addr} {H : Hp} : Same (WX ex H) H := fun c o e => by
  unfold WX at e
  split at e
  · cases e
  · exact e
theorem WX.new {ex : List Addr} {H : Hp} {p : Addr} {o : HO} (h : H p = none) : Same (WX ex H) (WX ex (upd H p o)) := fun c u e => by
  unfold WX at e ⊢
  split at e
  · cases e
  · rename_i hc
    rw [if_neg hc, upd_ne (ne_of_none e h)]
    exact e
theorem WX.same {ex : List Addr} {H H' : Hp} (h : Same H H') : Same (WX ex H) (WX ex H') := fun c u e => by
  unfold WX at e ⊢
  split at e
  · cases e
  · rename_i hc
    rw [if_neg hc]
    exact h c u e
theorem WX.cons {ex : List Addr} {H : Hp} {m : Addr} : Same (WX (m :: ex) H) (WX ex H) := fun c u e => by
  unfold WX at e ⊢
  split at e
  · cases e
  · rename_i hc
    rw [if_neg (fun z => hc (List.mem_cons_of_mem _ z))]
    exact e
theorem WX.fresh {ex : List Addr} {H : Hp} {m : Addr} (h : H m = none) (o : HO) : Same (WX ex H) (WX (m :: ex) (upd H m o)) := fun c u e => by
  unfold WX at e ⊢
  split at e
  · cases e
  · rename_i hc
    have hm : c ≠ m := ne_of_none e h
    rw [if_neg (fun z => (List.mem_cons.mp z).elim hm hc), upd_ne hm]
    exact e
theorem WX.put {ex : List Addr} {H : Hp} {m : Addr} {o : HO} (h : m ∈ ex) : Same (WX ex H) (WX ex (upd H m o)) := fun c u e => by
  unfold WX at e ⊢
  split at e
  · cases e
  · rename_i hc
    rw [if_neg hc, upd_ne (show c ≠ m from fun z => hc (by rw [z]; exact h))]
    exact e
theorem WX.at {ex : List Addr} {H : Hp} {c : Addr} {o : HO} (h : c ∉ ex) (e : H c = some o) : WX ex H c = some o := by
  unfold WX; rw [if_neg h]; exact e
end L2

set_option Elab.async false
set_option linter.all false
set_option maxRecDepth 100000
set_option maxHeartbeats 4000000
namespace L2
open PySem PySem.Spec PyProof.Rows
def nStar : Expr → Bool
  | .Starred _ _ => false
  | _ => true
theorem star_cons {e : Expr} {es : List Expr} {env : Env} (h : nStar e = true) : starEach (e :: es) env = (false, eval e env) :: starEach es env := by
  cases e <;> first | rfl | cases h
theorem pa5 {X : Cx} {e0 e1 e2 e3 e4 : Expr} {t0 t1 t2 t3 t4 : TE} (h0 : PE X e0 t0) (h1 : PE X e1 t1) (h2 : PE X e2 t2) (h3 : PE X e3 t3) (h4 : PE X e4 t4) (h : ([e0, e1, e2, e3, e4]).all nStar = true := by rfl) : PA X [e0, e1, e2, e3, e4] (tCons t0 (tCons t1 (tCons t2 (tCons t3 (tCons t4 tNil))))) := by
  have hz := List.all_eq_true.mp h
  exact (pa_cons h0 (pa_cons h1 (pa_cons h2 (pa_cons h3 (pa_cons h4 pa_nil (star_cons (hz _ (by simp)))) (star_cons (hz _ (by simp)))) (star_cons (hz _ (by simp)))) (star_cons (hz _ (by simp)))) (star_cons (hz _ (by simp))))
theorem pa6 {X : Cx} {e0 e1 e2 e3 e4 e5 : Expr} {t0 t1 t2 t3 t4 t5 : TE} (h0 : PE X e0 t0) (h1 : PE X e1 t1) (h2 : PE X e2 t2) (h3 : PE X e3 t3) (h4 : PE X e4 t4) (h5 : PE X e5 t5) (h : ([e0, e1, e2, e3, e4, e5]).all nStar = true := by rfl) : PA X [e0, e1, e2, e3, e4, e5] (tCons t0 (tCons t1 (tCons t2 (tCons t3 (tCons t4 (tCons t5 tNil)))))) := by
  have hz := List.all_eq_true.mp h
  exact (pa_cons h0 (pa_cons h1 (pa_cons h2 (pa_cons h3 (pa_cons h4 (pa_cons h5 pa_nil (star_cons (hz _ (by simp)))) (star_cons (hz _ (by simp)))) (star_cons (hz _ (by simp)))) (star_cons (hz _ (by simp)))) (star_cons (hz _ (by simp)))) (star_cons (hz _ (by simp))))
theorem pa7 {X : Cx} {e0 e1 e2 e3 e4 e5 e6 : Expr} {t0 t1 t2 t3 t4 t5 t6 : TE} (h0 : PE X e0 t0) (h1 : PE X e1 t1) (h2 : PE X e2 t2) (h3 : PE X e3 t3) (h4 : PE X e4 t4) (h5 : PE X e5 t5) (h6 : PE X e6 t6) (h : ([e0, e1, e2, e3, e4, e5, e6]).all nStar = true := by rfl) : PA X [e0, e1, e2, e3, e4, e5, e6] (tCons t0 (tCons t1 (tCons t2 (tCons t3 (tCons t4 (tCons t5 (tCons t6 tNil))))))) := by
  have hz := List.all_eq_true.mp h
  exact (pa_cons h0 (pa_cons h1 (pa_cons h2 (pa_cons h3 (pa_cons h4 (pa_cons h5 (pa_cons h6 pa_nil (star_cons (hz _ (by simp)))) (star_cons (hz _ (by simp)))) (star_cons (hz _ (by simp)))) (star_cons (hz _ (by simp)))) (star_cons (hz _ (by simp)))) (star_cons (hz _ (by simp)))) (star_cons (hz _ (by simp))))
end L2

set_option Elab.async false
set_option linter.all false
set_option maxRecDepth 100000
set_option maxHeartbeats 4000000
namespace L2
open PySem PySem.Spec PyProof.Rows
section
variable {X : Cx} {elt tg iter : Expr} {ifs : List Expr} {scope : Scope} {pos : Pos} {wi : TI} {g : TG} {tf : TT} {te : TE}

end
end L2

set_option Elab.async false
set_option linter.all false
set_option maxRecDepth 100000
set_option maxHeartbeats 4000000
namespace L2
open PySem PySem.Spec PyProof.Rows
theorem Vals.mem {u : Value} : ∀ {xs : List V} {us : List Value}, Vals xs us → u ∈ us → ∃ x ∈ xs, RelV x u
  | _, _, .nil, h => by cases h
  | x :: xs, v :: vs, .cons r t, h => by
    rcases List.mem_cons.mp h with e | h
    · rw [e]; exact ⟨x, List.mem_cons_self, r⟩
    · obtain ⟨y, hy, ry⟩ := Vals.mem t h
      exact ⟨y, List.mem_cons_of_mem _ hy, ry⟩
section
variable {X : Cx}
theorem eqT_at {pins : List (Addr × Obj)} {σ : St} {H : Hp} {s : Shared} (I : Inv X pins σ H s) {A : Around} (hu : A.units < cLine) {a c : Addr} {xs ys : List V} (hx : SqT X.K H a xs) (hy : SqT X.K H c ys) (fx : xs.all flatV = true) (fy : ys.all flatV = true) : ∃ b, SeqAt.EqAt A s (.ref a) (.ref c) b := by
  by_cases hac : a = c
  · subst hac
    exact ⟨true, SeqAt.EqAt.same _⟩
  · obtain ⟨its1, r1, p1, z1⟩ := I.tuple hx
    obtain ⟨its2, r2, p2, z2⟩ := I.tuple hy
    have l1 := r1.length
    have l2 := r2.length
    refine ⟨_, SeqAt.EqAt.of_refs hac (SeqAt.RcAt.tuples (e := fun j => eqV (xs.getD j .non) (ys.getD j .non)) p1 p2 hu (fun j h1 h2 => ?_))⟩
    have h1' : j < xs.length := by rw [List.size_toArray] at h1; omega
    have h2' : j < ys.length := by rw [List.size_toArray] at h2; omega
    obtain ⟨w1, e1, q1⟩ := r1.get (i := j) (x := xs[j]) (by simp [h1'])
    obtain ⟨w2, e2, q2⟩ := r2.get (i := j) (x := ys[j]) (by simp [h2'])
    have g1 : its1.toArray[j] = w1 := by simpa using (List.getElem?_eq_some_iff.mp e1).2
    have g2 : its2.toArray[j] = w2 := by simpa using (List.getElem?_eq_some_iff.mp e2).2
    rw [g1, g2, show xs.getD j .non = xs[j] by simp [h1'], show ys.getD j .non = ys[j] by simp [h2']]
    exact eqAt_V q1 q2 (List.all_eq_true.mp fx _ (List.getElem_mem h1')) (List.all_eq_true.mp fy _ (List.getElem_mem h2'))
open Classical in
theorem op_inTw (hu : X.A.units + 64 < cLine) : OpR X (compareOp .In) (fun x y H Q => ∃ (a p : Addr) (zs xs : List V), x = .ref a ∧ y = .ref p ∧ SqT X.K H a zs ∧ zs.all flatV = true ∧ SqL X.K H p xs ∧ (∀ v ∈ xs, ∃ (c : Addr) (ws : List V), v = .ref c ∧ SqT X.K H c ws ∧ ws.all flatV = true) ∧ ∀ r : Bool, Q (.bl r) H) := by
  intro pins s σ H x y v u Q I rx ry h
  obtain ⟨a, p, zs, xs, rfl, rfl, ha, fa, hp, all, q⟩ := h
  cases rx
  cases ry
  obtain ⟨its, r, pl, hz⟩ := I.list hp
  have ex : ∀ w ∈ its, ∃ b, SeqAt.EqAt X.A.in1 s w (.ref a) b := fun w hw => by
    obtain ⟨x, hx, rxw⟩ := Vals.mem r hw
    obtain ⟨c, ws, rfl, hc, fc⟩ := all x hx
    cases rxw
    exact eqT_at I (by show X.A.units + 1 < cLine; omega) hc ha fc fa
  refine SeqAt.in_listAt (fun w => if h : ∃ b, SeqAt.EqAt X.A.in1 s w (.ref a) b then h.choose else false) pl.isList (fun w hw => ?_) ⟨.bl _, H, I, rfl, q _⟩
  have hw' := ex w (by simpa using hw)
  simp only [hw', dif_pos]
  exact hw'.choose_spec
theorem vals_rng : ∀ {its : List Value} {n k : Nat}, its.length = n → (∀ j v, its[j]? = some v → ∃ t, v = Value.int ((k + j : Nat) : Int) t) → Vals ((List.range' k n).map fun i : Nat => V.int (i : Int)) its
  | [], 0, k, _, _ => .nil
  | v :: its, n + 1, k, hl, h => by
    rw [List.range'_succ, List.map_cons]
    obtain ⟨t, e⟩ := h 0 v rfl
    refine .cons ⟨t, by rw [e]; rfl⟩ (vals_rng (by simpa using hl) fun j w hw => ?_)
    obtain ⟨t', e'⟩ := h (j + 1) w (by simpa using hw)
    exact ⟨t', by rw [e', show k + (j + 1) = k + 1 + j by omega]⟩
theorem pe_listRange {a : Expr} {ta : TA} {p p2 pos pos2 : Pos} (hc : X.calm = true) (hg : Gl X "list") (hm : X.mg "list" = none) (hg2 : Gl X "range") (hm2 : X.mg "range" = none) (hv : bootBuiltins "list" = some (.type "list")) (ha : PA X [a] ta) (hs : starEach [a] X.env = [(false, eval a X.env)] := by rfl)
    (he : starEach [.Call (.Name "range" p2) [a] [] pos2] X.env = [(false, eval (.Call (.Name "range" p2) [a] [] pos2) X.env)] := by rfl) :
    PE X (.Call (.Name "list" p) [.Call (.Name "range" p2) [a] [] pos2] [] pos) (fun σ H Q => ta σ H fun vs H1 => ∃ j : Int, vs = [.int j] ∧ 0 ≤ j ∧ j ≤ 1000000 ∧ ∀ l, H1 l = none → Q (.ref l) (upd H1 l (.lst ((List.range j.toNat).map fun i : Nat => V.int (i : Int))))) := by
  intro pins s σ H Q I h
  refine wpAny_Call_Name_kw (ld_blt I hg hm hv ?_ (by decide) (by decide))
  refine PyProof.Rows.callWith_type1 ?_ he rfl
  rw [he]
  refine Calls.spliced_cons ?_
  refine Call_ (ld_blt I hg2 hm2 boot_range (PyProof.Rows.callWith_type1 (thn (ha pos2 pins s σ H _ I h) fun us s1 ⟨vs, H1, I1, r1, q1⟩ => ?_) hs rfl))
  obtain ⟨j, e, j0, j1, q⟩ := q1
  subst e
  cases r1 with
  | cons r rr =>
    cases rr
    obtain ⟨t, rfl⟩ := r
    refine call_range_1 (Calls.spliced_nil ?_)
    have I2 : Inv X pins σ H1 { s1 with heap := s1.heap.push { cls := .type "range", data := .fields #[.int 0 s1.toks, .int j t, .int 1 (s1.toks + 1)] }, toks := s1.toks + 1 + 1 } := I1.kept fun b o e => Heap.get?_push_of_some _ e
    have e62 : (2 : Int) ^ 62 = 4611686018427387904 := by decide
    refine call_list_range (n := j.toNat) (I.ok.hd hc) (IsRange.new ..) (small_one (by rw [e62]; omega) (by rw [e62]; omega) (by rw [e62]; omega) (by rw [e62]; omega)) (by rw [rangeSize_one]; split <;> omega) (by omega) fun h' tk acc' c' keep get items => ?_
    refine ⟨.ref _, _, I2.laid (t' := tk) (o := .lst ((List.range j.toNat).map fun i : Nat => V.int (i : Int))) keep (Nat.le_refl _) ?_, rfl, q _ (I2.hok.fresh (Nat.le_refl _))⟩
    refine ⟨by rw [List.length_map, List.length_range, sizeLine_eq]; omega, acc'.toList, c', ?_, by rw [Array.toArray_toList]; exact get⟩
    rw [List.range_eq_range']
    refine vals_rng (by rw [Array.length_toList]; exact items.1) fun i v hv => ?_
    obtain ⟨t', e'⟩ := items.2 i v (by simpa using hv)
    exact ⟨t', by rw [e']; congr 1; omega⟩
end
end L2

set_option Elab.async false
set_option linter.all false
set_option maxRecDepth 100000
set_option maxHeartbeats 4000000
namespace L2
open PySem PySem.Spec PyProof.Rows
section
variable {prog : Program} {w : World} {A : Around} {E : Value → Shared → Prop} {s : Shared}
end
end L2

set_option Elab.async false
set_option linter.all false
set_option maxRecDepth 100000
set_option maxHeartbeats 4000000
namespace L2
open PySem PySem.Spec PyProof.Rows
theorem Inv.track {X : Cx} {pins : List (Addr × Obj)} {σ : St} {H : Hp} {s : Shared} {a : Addr} {o : HO} (I : Inv X pins σ H s) (f : FpOk X pins H a) (new : ObjOk X.prog X.w (upd H a o) s.heap a o) : Inv X pins σ (upd H a o) s := by
  refine I.call' (s' := s) (ch := [a]) rfl (un_track Un.refl (List.mem_singleton.mpr rfl) f.1) (hok_track I.hok f.1 new) I.bare fun b hb => ?_
  rw [List.mem_singleton.mp hb]
  exact ⟨f.2.2.2.1, f.2.1, f.2.2.2.2.1, f.2.2.2.2.2⟩
def Tups (H : Hp) (xs ys : List V) (Ts : List Addr) : Prop := ∀ (j : Nat) (T : Addr), Ts[j]? = some T → ∃ x y, xs[j]? = some x ∧ ys[j]? = some y ∧ H T = some (.tup [x, y])
theorem Tups.same {H H' : Hp} {xs ys : List V} {Ts : List Addr} (h : Tups H xs ys Ts) (s : Same H H') : Tups H' xs ys Ts := fun j T e => let ⟨x, y, a, b, c⟩ := h j T e; ⟨x, y, a, b, s _ _ c⟩
theorem Tups.snoc {H : Hp} {xs ys : List V} {Ts : List Addr} {T : Addr} {x y : V} (h : Tups H xs ys Ts) (hx : xs[Ts.length]? = some x) (hy : ys[Ts.length]? = some y) (hT : H T = some (.tup [x, y])) : Tups H xs ys (Ts ++ [T]) := fun j U e => by
  by_cases hj : j < Ts.length
  · rw [List.getElem?_append_left hj] at e
    exact h j U e
  · rw [List.getElem?_append_right (by omega)] at e
    have : j = Ts.length := by
      have := (List.getElem?_eq_some_iff.mp e).1
      simp at this; omega
    subst this
    simp at e
    subst e
    exact ⟨x, y, hx, hy, hT⟩
section
variable {X : Cx} {A : Around} {R : Result → Shared → Prop}
end
end L2

set_option Elab.async false
set_option linter.all false
set_option maxRecDepth 100000
set_option maxHeartbeats 4000000
namespace L2
open PySem PySem.Spec PyProof.Rows
section
variable {X : Cx}
end
end L2

set_option Elab.async false
set_option linter.all false
set_option maxRecDepth 100000
set_option maxHeartbeats 4000000
namespace L2
open PySem PySem.Spec PyProof.Rows
/-! the rules that name the constants' fragment, for use within comprehensions -/
section
variable {X : Cx}
theorem ix_listB {K : PySem.W.Frag} (h : X.K = K) : IxR X (rIxL K) := by rw [← h]; exact ix_list
theorem ix_tupB {K : PySem.W.Frag} (h : X.K = K) : IxR X (rIxT K) := by rw [← h]; exact ix_tup
theorem call_len_seqB {K : PySem.W.Frag} (h : X.K = K) : CallR X (.builtin "len") (fun xs H Q => ∃ p ys, xs = [.ref p] ∧ (SqL K H p ys ∨ SqT K H p ys) ∧ Q (.int ys.length) H) := by rw [← h]; exact call_len_seq
end
end L2

set_option Elab.async false
set_option linter.all false
set_option maxRecDepth 100000
set_option maxHeartbeats 4000000
namespace L2
open PySem PySem.Spec PyProof.Rows
section
variable {X : Cx}
end
end L2

set_option Elab.async false
set_option linter.all false
set_option maxRecDepth 100000
set_option maxHeartbeats 4000000
namespace L2
open PySem PySem.Spec PyProof.Rows

/-! ## enumerate of a tuple -/
section
open AutoSeq1 (wpAny_loadPart')
end
section
variable {prog : Program} {w : World} {A : Around} {E : Value → Shared → Prop} {s : Shared}
theorem Draws.tuple {prog : Program} {w : World} {A : Around} (hh : A.handled = none) (it l : Addr) (hne : l ≠ it) (items : Array Value) :
    Draws prog w A it [it, l] items.size (fun i v => items[i]? = some v) (fun i h => h.IsTupleIter it l i ∧ h.IsTuple l items) where
  live := fun _ _ st => let ⟨o, ho, _⟩ := st.1; ⟨o, ho⟩
  frame := fun _ _ _ st hk => ⟨ItrK.at (kd := false) st.1 fun o e => hk it (by simp) o e, SeqK.at (kd := false) st.2 fun o e => hk l (by simp) o e⟩
  item := fun i s Q E hi st hQ => by
    refine nextK_item (kd := false) st.1 st.2 (x := items[i]) (by simp [hi]) fun h' hit' hs' => ?_
    exact hQ _ h' s.toks (by simp [hi]) ⟨hit', SeqK.at (kd := false) st.2 fun o e => hs'.extBut l o hne e⟩ hs'
  done := fun s Q E st hE => nextK_end (kd := false) hh st.1 st.2 (by simp) hE
end
section
variable {X : Cx}
end

end L2

set_option Elab.async false
set_option linter.all false
set_option maxRecDepth 100000
set_option maxHeartbeats 4000000
namespace L2
open PySem PySem.Spec PyProof.Rows

/-! ## comprehensions with two fors -/
section
variable {prog : Program} {w : World} {A : Around} {R : Result → Shared → Prop} {s : Shared}
end
def Sub : St → St → Prop
  | [], [] => True
  | none :: r, _ :: r' => Sub r r'
  | some v :: r, x :: r' => x = some v ∧ Sub r r'
  | _, _ => False
theorem Sub.len : ∀ {a b : St}, Sub a b → a.length = b.length
  | [], [], _ => rfl
  | [], _ :: _, h => h.elim
  | none :: _, [], h => h.elim
  | some _ :: _, [], h => h.elim
  | none :: r, _ :: r', h => by rw [List.length_cons, List.length_cons, Sub.len (a := r) (b := r') h]
  | some _ :: r, _ :: r', h => by rw [List.length_cons, List.length_cons, Sub.len (a := r) (b := r') h.2]
theorem Sub.get : ∀ {a b : St} {i : Nat} {v : V}, Sub a b → a[i]? = some (some v) → b[i]? = some (some v)
  | [], [], _, _, _, e => e
  | [], _ :: _, _, _, h, _ => h.elim
  | none :: _, [], _, _, h, _ => h.elim
  | some _ :: _, [], _, _, h, _ => h.elim
  | none :: r, _ :: r', 0, v, h, e => by simp at e
  | none :: r, _ :: r', i + 1, v, h, e => by
    rw [List.getElem?_cons_succ] at e ⊢
    exact Sub.get (a := r) (b := r') h e
  | some _ :: r, _ :: r', 0, v, h, e => by
    rw [List.getElem?_cons_zero] at e ⊢
    rw [h.1]; exact e
  | some _ :: r, _ :: r', i + 1, v, h, e => by
    rw [List.getElem?_cons_succ] at e ⊢
    exact Sub.get (a := r) (b := r') h.2 e
section
variable {X : Cx} {elt tg1 iter1 : Expr} {ifs1 : List Expr} {tg iter : Expr} {ifs : List Expr} {scope : Scope} {pos : Pos} {wi wi1 : TI} {g g1 : TG} {tf tf1 : TT} {te : TE}
end
end L2

set_option Elab.async false
set_option linter.all false
set_option maxRecDepth 100000
set_option maxHeartbeats 4000000
namespace L2
open PySem PySem.Spec PyProof.Rows
section
variable {X : Cx} {elt tg1 iter1 : Expr} {ifs1 : List Expr} {tg iter : Expr} {ifs : List Expr} {scope : Scope} {pos : Pos} {wi wi1 : TI} {g g1 : TG} {tf tf1 : TT} {te : TE}
end
end L2

set_option Elab.async false
set_option linter.all false
set_option maxRecDepth 100000
set_option maxHeartbeats 4000000
namespace L2
open PySem PySem.Spec PyProof.Rows

/-! ## any, count, remove -/
section
variable {X : Cx}
end
end L2

set_option Elab.async false
set_option linter.all false
set_option maxRecDepth 100000
set_option maxHeartbeats 4000000
namespace L2
open PySem PySem.Spec PyProof.Rows
section
variable {X : Cx} {elt iter1 : Expr} {ifs1 : List Expr} {iter : Expr} {ifs : List Expr} {scope : Scope} {pos : Pos} {wi wi1 : TI} {tf tf1 : TT} {te : TE} {x y z : Str} {px py pz tp tp2 : Pos} {kk kk2 : Nat}
end
end L2

set_option Elab.async false
set_option linter.all false
set_option maxRecDepth 100000
set_option maxHeartbeats 4000000
namespace L2
open PySem PySem.Spec PyProof.Rows
section
variable {X : Cx}
theorem pi_listB {K : PySem.W.Frag} (h : X.K = K) {tg l : Expr} {tl : TE} (hl : PE X l tl) : PI X tg l (iList K tl) := by rw [← h]; exact pi_list hl
end
end L2

set_option Elab.async false
set_option linter.all false
set_option maxRecDepth 100000
set_option maxHeartbeats 4000000
namespace L2
open PySem PySem.Spec PyProof.Rows
section
variable {X : Cx}
theorem call_reprD (hg : X.A.guards = some []) (hu : X.A.units + 64 < cLine) : CallR X (.builtin "repr") (fun xs H Q => ∃ (v : V) (d : Dat), xs = [v] ∧ Rep X.K H d v ∧ d.shw = true ∧ d.blk ≤ 1048576 ∧ d.py.depth ≤ 60 ∧ Q (.str d.py.shown) H) := by
  intro pins s σ H xs us Q I r h
  obtain ⟨v, d, rfl, hr, h1, h2, h3, q⟩ := h
  obtain ⟨u, rfl, ru⟩ := vals1 r
  obtain ⟨s1, s2, s3⟩ := Dat.py_short d h1
  have fits : d.py.shown.length ≤ sizeLine := PyData.shown_fits_bulk (B := 13) (by decide) (by decide) s1 (by rw [Dat.py_blk]; exact h2)
  have onRef : ∀ (a : Addr), v = .ref a → wpAny (model X.prog X.w) X.A (call (.builtin "repr") [u]) (EP X pins σ Q) X.xe s := fun a e => by
    subst e
    obtain ⟨as, q1⟩ := hr.reads I ru
    cases (show u = _ from ru)
    exact repr_of_reads' q1 s2 (PyData.noDict_hsm s3) hg (by omega) (fun _ _ e => e) (fun h' u tk hk => ⟨.str d.py.shown, H, I.kept hk, ⟨u, rfl⟩, q⟩) fits
  cases d with
  | non =>
    cases (show v = _ from hr)
    cases (show u = _ from ru)
    exact P.repr_of_none ⟨.str _, H, I.tok _, ⟨_, rfl⟩, q⟩
  | bl b =>
    cases (show v = _ from hr)
    cases (show u = _ from ru)
    refine P.repr_of_bool ⟨.str _, H, I.tok _, ⟨s.toks, ?_⟩, q⟩
    cases b <;> rfl
  | int i =>
    cases (show v = _ from hr)
    obtain ⟨t, rfl⟩ := ru
    exact P.repr_of_int (nat_log (of_decide_eq_true h1)) ⟨.str _, H, I.tok _, ⟨_, rfl⟩, q⟩
  | str x =>
    cases (show v = _ from hr)
    obtain ⟨t, rfl⟩ := ru
    exact P.repr_of_str ⟨.str _, H, I.tok _, ⟨_, rfl⟩, q⟩ fits
  | lst ds => obtain ⟨a, _, e, _⟩ := id hr; exact onRef a e
  | tup ds => obtain ⟨a, _, e, _⟩ := id hr; exact onRef a e
theorem boot_repr : bootBuiltins "repr" = some (.builtin "repr") := by decide +kernel
end
end L2

set_option Elab.async false
set_option linter.all false
set_option maxRecDepth 100000
set_option maxHeartbeats 4000000
namespace L2
open PySem PySem.Spec PyProof.Rows
section
variable {X : Cx} {elt tg1 iter1 : Expr} {ifs1 : List Expr} {tg iter : Expr} {ifs : List Expr} {scope : Scope} {pos : Pos} {wi wi1 : TI} {g g1 : TG} {tf tf1 : TT} {te : TE} {x z : Str} {px pz tp tp2 : Pos} {kk kk2 : Nat}
end
end L2

set_option Elab.async false
set_option linter.all false
set_option maxRecDepth 100000
namespace L2
open PySem PySem.Spec PyProof.Rows

/-! ### lists of pairs as tables -/
section
variable {κ : Type} [DecidableEq κ]
def valV (kvs : List (κ × V)) (k : κ) : Option V := (kvs.find? fun kv => decide (kv.1 = k)).map (·.2)
def putK (kvs : List (κ × V)) (k : κ) (v : V) : List (κ × V) :=
  if (kvs.any fun kv => decide (kv.1 = k)) = true then kvs.map (fun kv => if kv.1 = k then (kv.1, v) else kv) else kvs ++ [(k, v)]
def dropK (kvs : List (κ × V)) (k : κ) : List (κ × V) := kvs.filter fun kv => decide (kv.1 ≠ k)

theorem valV_pos {p : κ × V} {r : List (κ × V)} {k : κ} (e : p.1 = k) : valV (p :: r) k = some p.2 := by simp [valV, List.find?_cons, e]
theorem valV_neg {p : κ × V} {r : List (κ × V)} {k : κ} (e : ¬ p.1 = k) : valV (p :: r) k = valV r k := by simp [valV, List.find?_cons, e]
theorem valV_any (k : κ) : ∀ kvs : List (κ × V), (kvs.any fun kv => decide (kv.1 = k)) = (valV kvs k).isSome
  | [] => rfl
  | p :: r => by
    rw [List.any_cons]
    by_cases e : p.1 = k
    · simp only [valV_pos e, decide_eq_true e, Bool.true_or, Option.isSome_some]
    · rw [valV_neg e, decide_eq_false e, Bool.false_or]; exact valV_any k r
theorem length_putK (kvs : List (κ × V)) (k : κ) (v : V) : (putK kvs k v).length ≤ kvs.length + 1 := by
  unfold putK
  split
  · rw [List.length_map]; omega
  · rw [List.length_append, List.length_cons, List.length_nil]; omega
theorem putK_new {kvs : List (κ × V)} {k : κ} (v : V) (h : valV kvs k = none) : putK kvs k v = kvs ++ [(k, v)] := by
  unfold putK
  rw [valV_any, h]
  exact if_neg (by decide)

theorem RelO.isSome_eq {o : Option V} {u : Option Value} (r : RelO o u) : o.isSome = u.isSome := by
  cases o with
  | none => cases u with
    | none => rfl
    | some _ => exact (show False from r).elim
  | some _ => cases u with
    | none => exact (show False from r).elim
    | some _ => rfl
theorem RelO.getD {o : Option V} {u : Option Value} {d : V} {d' : Value} (r : RelO o u) (rd : RelV d d') : RelV (o.getD d) (u.getD d') := by
  cases o with
  | none => cases u with
    | none => exact rd
    | some _ => exact (show False from r).elim
  | some _ => cases u with
    | none => exact (show False from r).elim
    | some _ => exact r

theorem KV.val {kvs : List (κ × V)} {vs : List (κ × Value)} (r : KV kvs vs) (k : κ) : RelO (valV kvs k) (valueAt vs k) := by
  unfold KV at r
  induction r with
  | nil => exact True.intro
  | @cons p q ps qs h t ih =>
    obtain ⟨h1, h2⟩ := h
    by_cases e : p.1 = k
    · have e' : q.1 = k := h1.symm.trans e
      have b : valueAt (q :: qs) k = some q.2 := by simp [valueAt, List.find?_cons, e']
      rw [valV_pos e, b]; exact h2
    · have e' : ¬ q.1 = k := fun z => e (h1.trans z)
      have b : valueAt (q :: qs) k = valueAt qs k := by simp [valueAt, List.find?_cons, e']
      rw [valV_neg e, b]; exact ih
theorem KV.any {kvs : List (κ × V)} {vs : List (κ × Value)} (r : KV kvs vs) (k : κ) : (kvs.any fun kv => decide (kv.1 = k)) = vs.any fun kv => decide (kv.1 = k) := by
  unfold KV at r
  induction r with
  | nil => rfl
  | cons h t ih => rw [List.any_cons, List.any_cons, ih, h.1]
theorem KV.repl {kvs : List (κ × V)} {vs : List (κ × Value)} (r : KV kvs vs) (k : κ) {y : V} {u : Value} (ry : RelV y u) :
    KV (kvs.map fun kv => if kv.1 = k then (kv.1, y) else kv) (vs.map fun kv => if kv.1 = k then (kv.1, u) else kv) := by
  unfold KV at r ⊢
  induction r with
  | nil => exact .nil
  | @cons p q ps qs h t ih =>
    rw [List.map_cons, List.map_cons]
    refine .cons ?_ ih
    obtain ⟨h1, h2⟩ := h
    by_cases e : p.1 = k
    · rw [if_pos e, if_pos (h1.symm.trans e)]; exact ⟨h1, ry⟩
    · rw [if_neg e, if_neg (fun z => e (h1.trans z))]; exact ⟨h1, h2⟩
theorem KV.put {kvs : List (κ × V)} {vs : List (κ × Value)} (r : KV kvs vs) (k : κ) {y : V} {u : Value} (ry : RelV y u) : KV (putK kvs k y) (stored vs k u) := by
  unfold putK stored
  rw [r.any k]
  by_cases e : (vs.any fun kv => decide (kv.1 = k)) = true
  · rw [if_pos e, if_pos e]; exact r.repl k ry
  · rw [if_neg e, if_neg e]; exact Paired.snoc r ⟨rfl, ry⟩
theorem KV.drop {kvs : List (κ × V)} {vs : List (κ × Value)} (r : KV kvs vs) (k : κ) : KV (dropK kvs k) (without vs k) := by
  unfold KV at r ⊢
  unfold dropK without
  induction r with
  | nil => exact .nil
  | @cons p q ps qs h t ih =>
    obtain ⟨h1, h2⟩ := h
    rw [List.filter_cons, List.filter_cons]
    by_cases e : p.1 = k
    · have a : ¬ decide (p.1 ≠ k) = true := by simp [e]
      have b : ¬ decide (q.1 ≠ k) = true := by simp [h1.symm.trans e]
      rw [if_neg a, if_neg b]; exact ih
    · have e' : ¬ q.1 = k := fun z => e (h1.trans z)
      have a : decide (p.1 ≠ k) = true := by simp [e]
      have b : decide (q.1 ≠ k) = true := by simp [e']
      rw [if_pos a, if_pos b]; exact .cons ⟨h1, h2⟩ ih
theorem KV.keys {kvs : List (κ × V)} {vs : List (κ × Value)} (r : KV kvs vs) : kvs.map (·.1) = vs.map (·.1) := by
  unfold KV at r
  induction r with
  | nil => rfl
  | cons h t ih => rw [List.map_cons, List.map_cons, ih, h.1]
theorem KV.length {kvs : List (κ × V)} {vs : List (κ × Value)} (r : KV kvs vs) : kvs.length = vs.length := Paired.length r
end


/-! ### a tracked dict, its keys ints and texts or tuples of these -/
theorem kV_is {P : Program} {w : World} {k : Key} {u : Value} (r : RelV (kV k) u) : (mixKind P w).is k u = true := by
  cases k with
  | inl i => obtain ⟨t, e⟩ := (show ∃ t, u = Value.int i t from r); subst e; exact mixKind_int P w i t
  | inr x => obtain ⟨t, e⟩ := (show ∃ t, u = Value.str x t from r); subst e; exact mixKind_str P w x t
theorem items_are {P : Program} {w : World} : ∀ {ks : List Key} {us : List Value}, Vals (ks.map kV) us → ItemsAre (mixKind P w) ks us
  | [], _, r => by rw [List.map_nil] at r; cases r; exact .nil
  | k :: ks, _, r => by
    rw [List.map_cons] at r
    cases r with
    | cons h t => exact .cons (kV_is h) (items_are t)

abbrev KT (H : Hp) : List (List Key × V) → List (List Key × Addr × Value) → Prop := Paired fun p q => p.1 = q.1 ∧ H q.2.1 = some (.tup (p.1.map kV)) ∧ RelV p.2 q.2.2
theorem KT.val {H : Hp} {kvs : List (List Key × V)} {xs : List (List Key × Addr × Value)} (r : KT H kvs xs) (k : List Key) : RelO (valV kvs k) ((atKey xs k).map (·.2)) := by
  induction r with
  | nil => exact True.intro
  | @cons p q ps qs h t ih =>
    obtain ⟨h1, _, h2⟩ := h
    by_cases e : p.1 = k
    · have e' : q.1 = k := h1.symm.trans e
      have b : atKey (q :: qs) k = some q.2 := by simp [atKey, List.find?_cons, e']
      rw [valV_pos e, b]; exact h2
    · have e' : ¬ q.1 = k := fun z => e (h1.trans z)
      have b : atKey (q :: qs) k = atKey qs k := by simp [atKey, List.find?_cons, e']
      rw [valV_neg e, b]; exact ih
theorem KT.repl {H : Hp} {kvs : List (List Key × V)} {xs : List (List Key × Addr × Value)} (r : KT H kvs xs) (k : List Key) {y : V} {u : Value} (ry : RelV y u) :
    KT H (kvs.map fun kv => if kv.1 = k then (kv.1, y) else kv) (xs.map (putAt k u)) := by
  induction r with
  | nil => exact .nil
  | @cons p q ps qs h t ih =>
    rw [List.map_cons, List.map_cons]
    refine .cons ?_ ih
    obtain ⟨h1, h2, h3⟩ := h
    unfold putAt
    by_cases e : p.1 = k
    · rw [if_pos e, if_pos (h1.symm.trans e)]; exact ⟨h1, h2, ry⟩
    · rw [if_neg e, if_neg (fun z => e (h1.trans z))]; exact ⟨h1, h2, h3⟩
theorem KT.put {H : Hp} {kvs : List (List Key × V)} {xs : List (List Key × Addr × Value)} (r : KT H kvs xs) (k : List Key) {b : Addr} {y : V} {u : Value} (hb : H b = some (.tup (k.map kV))) (ry : RelV y u) :
    KT H (putK kvs k y) (storedH xs k b u) := by
  have e : (kvs.any fun kv => decide (kv.1 = k)) = (atKey xs k).isSome := by
    rw [valV_any, (r.val k).isSome_eq, Option.isSome_map]
  unfold putK storedH
  rw [e]
  by_cases q : (atKey xs k).isSome = true
  · rw [if_pos q, if_pos q]; exact r.repl k ry
  · rw [if_neg q, if_neg q]; exact Paired.snoc r ⟨rfl, hb, ry⟩
theorem KT.keeps {H H' : Hp} {kvs : List (List Key × V)} {xs : List (List Key × Addr × Value)} (r : KT H kvs xs) (ht : ∀ b ys, H b = some (.tup ys) → H' b = some (.tup ys)) : KT H' kvs xs :=
  Paired.mapP r fun _ _ z => ⟨z.1, ht _ _ z.2.1, z.2.2⟩

section
variable {P : Program} {w : World} {H : Hp} {h : Heap} {a : Addr}
theorem rd_of {u : HO} (ok : HOk P w H h) (e : Rd H a u) : ObjOk P w H h a u := e.ok ok
theorem dk_rd {kvs : List (Key × V)} (ok : HOk P w H h) (e : Rd H a (.dK kvs)) : kvs.length ≤ sizeLine ∧ (a == sysModules) = false ∧ ∃ vs, KV kvs vs ∧ h.DictOf (mixKind P w) a vs :=
  show ObjOk P w H h a (.dK kvs) from rd_of ok e
theorem dk_of {kvs : List (Key × V)} (ok : HOk P w H h) (e : H a = some (.dK kvs)) : kvs.length ≤ sizeLine ∧ (a == sysModules) = false ∧ ∃ vs, KV kvs vs ∧ h.DictOf (mixKind P w) a vs := dk_rd ok (.inl e)
theorem key_of {ks : List Key} (ok : HOk P w H h) (e : H a = some (.tup (ks.map kV))) : (tupleKind (mixKind P w)).is h ks a := by
  obtain ⟨_, its, r, o, h1, h2, n, h3⟩ := (show ObjOk P w H h a (.tup (ks.map kV)) from ok a _ e)
  exact ⟨o, its.toArray, n, h1, h2, h3, by simpa using items_are r⟩
theorem dt_rd {kvs : List (List Key × V)} (ok : HOk P w H h) (e : Rd H a (.dT kvs)) : kvs.length ≤ sizeLine ∧ (a == sysModules) = false ∧
    ∃ xs, KT H kvs xs ∧ h.DictOfH (tupleKind (mixKind P w)) a xs := by
  obtain ⟨z, y, xs, r, o, es, ep, h1, h2, h3, h4, h5⟩ := (show ObjOk P w H h a (.dT kvs) from rd_of ok e)
  refine ⟨z, y, xs, r, o, es, ep, h1, h2, h3, h4, fun x hx => ?_, h5⟩
  have all : ∀ {l : List (List Key × V)} {m : List (List Key × Addr × Value)}, KT H l m → ∀ x ∈ m, (tupleKind (mixKind P w)).is h x.1 x.2.1 := by
    intro l m q
    induction q with
    | nil => intro x hx; exact nomatch hx
    | @cons p q ps qs hq t ih =>
      intro x hx
      rcases List.mem_cons.mp hx with e | hx
      · subst e
        exact key_of ok (by rw [← hq.1]; exact hq.2.1)
      · exact ih x hx
  exact all r x hx
theorem dt_of {kvs : List (List Key × V)} (ok : HOk P w H h) (e : H a = some (.dT kvs)) : kvs.length ≤ sizeLine ∧ (a == sysModules) = false ∧
    ∃ xs, KT H kvs xs ∧ h.DictOfH (tupleKind (mixKind P w)) a xs := dt_rd ok (.inl e)
end

def DGet (H : Hp) (a : Addr) (y : V) (r : Option V) : Prop :=
  (∃ kvs k, Rd H a (.dK kvs) ∧ y = kV k ∧ r = valV kvs k) ∨ ∃ kvs k b, Rd H a (.dT kvs) ∧ y = .ref b ∧ H b = some (.tup (k.map kV)) ∧ r = valV kvs k
def DPut (H : Hp) (a : Addr) (y v : V) (H' : Hp) : Prop :=
  (∃ kvs k, H a = some (.dK kvs) ∧ y = kV k ∧ kvs.length < sizeLine ∧ H' = upd H a (.dK (putK kvs k v))) ∨
  ∃ kvs k b, H a = some (.dT kvs) ∧ y = .ref b ∧ H b = some (.tup (k.map kV)) ∧ kvs.length < sizeLine ∧ H' = upd H a (.dT (putK kvs k v))
theorem DGet.k {H : Hp} {a : Addr} {kvs : List (Key × V)} {k : Key} (e : H a = some (.dK kvs)) : DGet H a (kV k) (valV kvs k) := .inl ⟨kvs, k, .inl e, rfl, rfl⟩
theorem DGet.t {H : Hp} {a b : Addr} {kvs : List (List Key × V)} {k : List Key} (e : H a = some (.dT kvs)) (eb : H b = some (.tup (k.map kV))) : DGet H a (.ref b) (valV kvs k) := .inr ⟨kvs, k, b, .inl e, rfl, eb, rfl⟩
theorem DPut.k {H : Hp} {a : Addr} {kvs : List (Key × V)} {k : Key} {v : V} (e : H a = some (.dK kvs)) (hl : kvs.length < sizeLine) : DPut H a (kV k) v (upd H a (.dK (putK kvs k v))) := .inl ⟨kvs, k, e, rfl, hl, rfl⟩
theorem DPut.t {H : Hp} {a b : Addr} {kvs : List (List Key × V)} {k : List Key} {v : V} (e : H a = some (.dT kvs)) (eb : H b = some (.tup (k.map kV))) (hl : kvs.length < sizeLine) :
    DPut H a (.ref b) v (upd H a (.dT (putK kvs k v))) := .inr ⟨kvs, k, b, e, rfl, eb, hl, rfl⟩


section
variable {X : Cx} {pins : List (Addr × Obj)} {σ : St} {H : Hp} {s : Shared} {a : Addr} {y v : V} {u r : Value} {o : Option V} {A : Around} {E : Value → Shared → Prop}

theorem Inv.big (I : Inv X pins σ H s) : sysModules < s.heap.objs.size := by
  have h : mainGlobals < s.heap.objs.size := (I.mod.glob.keeps I.bk).lt
  exact Nat.lt_trans (by decide) h

theorem d_write {h' : Heap} {t' : Nat} {ob : HO} (I : Inv X pins σ H s) (mu : Mut (H a)) (hs : Heap.SameBut a s.heap h') (he : ∃ q, h'.get? a = some q) (new : ObjOk X.prog X.w (upd H a ob) h' a ob) :
    Inv X pins σ (upd H a ob) { s with heap := h', toks := t' } :=
  I.write (x := a) (e := a) mu (.inl rfl) (fun b q hb z => (hs.2 b hb).trans z) he new
theorem dk_new {P : Program} {w : World} {H' : Hp} {h' : Heap} {kvs : List (Key × V)} {vs : List (Key × Value)} (z : kvs.length ≤ sizeLine) (hd : (a == sysModules) = false) (rel : KV kvs vs) (dd : h'.DictOf (mixKind P w) a vs) :
    ObjOk P w H' h' a (.dK kvs) := ⟨z, hd, vs, rel, dd⟩
theorem d_setItem {H' : Hp} {Q : Unit → Shared → Prop} (hu : A.units + 1 < cLine) (I : Inv X pins σ H s) (g : DPut H a y v H') (ry : RelV y u) (rv : RelV v r) (h : ∀ s', Inv X pins σ H' s' → Q () s') :
    wpAny (model X.prog X.w) A (setItem (.ref a) u r) Q E s := by
  rcases g with ⟨kvs, k, e, ey, l, eH⟩ | ⟨kvs, k, b, e, ey, eb, l, eH⟩
  · subst ey eH
    obtain ⟨z, hd, vs, rel, dd⟩ := dk_of I.hok e
    have hz : vs.length ≤ sizeLine := by rw [← rel.length]; exact z
    have hl : (putK kvs k v).length ≤ sizeLine := by have := length_putK kvs k v; omega
    refine wpAny_setItem_pairs (hsz := hz) (kV_is ry) dd fun h' dd' hs => h _ ?_
    have he : ∃ q, h'.get? a = some q := let ⟨q, _, _, hq, _⟩ := dd'; ⟨q, hq⟩
    exact d_write I (by rw [e]; exact True.intro) hs he (dk_new hl hd (rel.put k rv) dd')
  · subst ey eH
    cases (show u = Value.ref b from ry)
    obtain ⟨z, hd, xs, rel, dd⟩ := dt_of I.hok e
    have hz : xs.length ≤ sizeLine := by rw [← Paired.length rel]; exact z
    have hl : (putK kvs k v).length ≤ sizeLine := by have := length_putK kvs k v; omega
    refine wpAny_setItem_heap (hsz := hz) (tupleKind_room_in1 hu) (key_of I.hok eb) dd fun h' dd' hs => h _ ?_
    obtain ⟨q, es, ep, hq, h2, h3, h4, _, h5⟩ := dd'
    refine d_write I (by rw [e]; exact True.intro) hs ⟨q, hq⟩ ⟨hl, hd, _, (rel.put k eb rv).keeps fun c ys ec => ?_, q, es, ep, hq, h2, h3, h4, h5⟩
    rw [upd_ne (ne_of ec e (fun z => nomatch z))]
    exact ec
end

section
variable {X : Cx} {pins : List (Addr × Obj)} {σ : St} {H : Hp} {s : Shared} {a : Addr} {kvs : List (Key × V)} {k : Key} {u : Value} {A : Around} {E : Value → Shared → Prop}
end


/-! ### readings and rules -/
def sDPut (td ty tv : TE) : TS := fun D σ H => tv σ H fun v H1 => td σ H1 fun x H2 => ty σ H2 fun y H3 => ∃ a H4, x = .ref a ∧ DPut H3 a y v H4 ∧ D.nx σ H4
section
variable {X : Cx} {o i e value : Expr} {pos pos' tpos : Pos} {td ty tv : TE}
theorem ps_dput (hu : X.A.units + 1 < cLine) (ho : PE X o td) (hi : PE X i ty) (hv : PE X value tv) (hs : swapsWith value (some (.Subscript o i pos')) pos.line X.env = pure false) :
    PS X (.Assign [.Subscript o i pos'] value pos) (sDPut td ty tv) := by
  intro pins s σ H D I h
  refine wpAny_Assign_Subscript (thn (hv pins s σ H _ I h) fun r s1 ⟨v, H1, I1, rv, q1⟩ => thn (ho pins s1 σ H1 _ I1 q1) fun u s2 ⟨x, H2, I2, rx, q2⟩ => thn (hi pins s2 σ H2 _ I2 q2) fun iv s3 ⟨y, H3, I3, ry, a, H4, ex, g, q3⟩ => ?_) hs
  subst ex
  obtain rfl : u = Value.ref a := rx
  exact d_setItem hu I3 g ry rv fun s4 I4 => ⟨σ, H4, I4, q3⟩
end


/-! ### displays -/
theorem dk_empty {P : Program} {w : World} {H : Hp} (h : Heap) (hb : sysModules < h.objs.size) : ObjOk P w H (h.push { cls := .type "dict", data := .dict #[] }) h.objs.size (.dK []) :=
  ⟨Nat.zero_le _, beq_eq_false_iff_ne.mpr (Ne.symm (Nat.ne_of_lt hb)), [], .nil, Heap.DictOf.new h⟩
def tDNewK : TE := fun _ H Q => ∀ p, H p = none → Q (.ref p) (upd H p (.dK []))
section
variable {X : Cx} {pos : Pos}
theorem pe_dnewK : PE X (.Dict [] [] pos) tDNewK := fun pins s σ H Q I h =>
  wpAny_Dict_empty ⟨.ref s.heap.objs.size, _, I.laid (a := s.heap.objs.size) (o := .dK []) (t' := s.toks) (fun _ _ q => Heap.get?_push_of_some _ q) (Nat.le_refl _) (dk_empty s.heap I.big), rfl, h _ (I.hok.fresh (Nat.le_refl _))⟩
end

/-! ### methods -/
structure M1 (X : Cx) (o : Expr) (m : Str) (apos : Pos) (e : Expr) (cpos : Pos) : Prop where
  base : attributeBase o m X.env (eval o X.env) = eval o X.env
  few : ((backTo cpos (starEach [e] X.env)).all (fun x => !x.1) && (backToKw cpos (keywordEach [] X.env)).all (fun x => x.1.isSome)
    && decide (([e] : List Expr).length + ([] : List Keyword).length + (if ([] : List Keyword).isEmpty then 0 else 1) < 30)) = true
  line : (apos.endLine == cpos.line) = true
  trees : backTo cpos (starEach [e] X.env) = [(false, eval e X.env)]
structure M2 (X : Cx) (o : Expr) (m : Str) (apos : Pos) (e f : Expr) (cpos : Pos) : Prop where
  base : attributeBase o m X.env (eval o X.env) = eval o X.env
  few : ((backTo cpos (starEach [e, f] X.env)).all (fun x => !x.1) && (backToKw cpos (keywordEach [] X.env)).all (fun x => x.1.isSome)
    && decide (([e, f] : List Expr).length + ([] : List Keyword).length + (if ([] : List Keyword).isEmpty then 0 else 1) < 30)) = true
  line : (apos.endLine == cpos.line) = true
  trees : backTo cpos (starEach [e, f] X.env) = [(false, eval e X.env), (false, eval f X.env)]

def IsD (H : Hp) (a : Addr) : Prop := (∃ kvs, Rd H a (.dK kvs)) ∨ ∃ kvs, Rd H a (.dT kvs)
theorem isD_at {X : Cx} {pins : List (Addr × Obj)} {σ : St} {H : Hp} {s : Shared} {a : Addr} (I : Inv X pins σ H s) (d : IsD H a) :
    s.TypeIs (.ref a) "dict" ∧ (∀ b, Value.ref a = .ref b → ∃ ob, s.heap.get? b = some ob ∧ ob.dict = none) ∧ (a == sysModules) = false := by
  rcases d with ⟨kvs, e⟩ | ⟨kvs, e⟩
  · obtain ⟨_, hd, vs, _, dd⟩ := dk_rd I.hok e
    refine ⟨dd.typeIs, fun b q => ?_, hd⟩
    cases q
    obtain ⟨ob, _, _, h1, h2, _⟩ := dd
    exact ⟨ob, h1, h2.2.1⟩
  · obtain ⟨_, hd, xs, _, dd⟩ := dt_rd I.hok e
    refine ⟨dd.typeIs, fun b q => ?_, hd⟩
    cases q
    obtain ⟨ob, _, _, h1, h2, _⟩ := dd
    exact ⟨ob, h1, h2.2.1⟩

section
variable {X : Cx} {pins : List (Addr × Obj)} {σ : St} {H : Hp} {s : Shared} {a : Addr} {y d : V} {u r : Value} {o : Option V} {A : Around} {E : Value → Shared → Prop}
theorem d_get2 {Q : Value → Shared → Prop} (hu : A.units + 1 < cLine) (I : Inv X pins σ H s) (g : DGet H a y o) (ry : RelV y u) (rd : RelV d r) (h : ∀ w' s', Inv X pins σ H s' → RelV (o.getD d) w' → Q w' s') :
    wpAny (model X.prog X.w) A (call (.builtin "dict.get") [.ref a, u, r]) Q E s := by
  rcases g with ⟨kvs, k, e, ey, l⟩ | ⟨kvs, k, b, e, ey, eb, l⟩
  · subst ey
    obtain ⟨z, hd, vs, rel, dd⟩ := dk_rd I.hok e
    refine call_meetsIn PySem.F.slot_dict_get dd.typeIs PySem.F.entry_dict_get (PySem.F.args_dict_get_3 _ _ _) (meets_dict_get_default (mixKind X.prog X.w) a (kV_is ry) hd r) ⟨_, dd.mapOf, h _ _ (I.tok _) ?_⟩
    rw [l]
    exact (rel.val k).getD rd
  · subst ey
    cases (show u = Value.ref b from ry)
    obtain ⟨z, hd, xs, rel, dd⟩ := dt_rd I.hok e
    refine call_meetsIn PySem.F.slot_dict_get dd.typeIs PySem.F.entry_dict_get (PySem.F.args_dict_get_3 _ _ _) (meetsH_dict_get_default (tupleKind (mixKind X.prog X.w)) a b hd r) ⟨tupleKind_room_in1 hu, k, xs, key_of I.hok eb, dd, h _ _ (I.tok _) ?_⟩
    rw [l]
    exact (rel.val k).getD rd
end

def tDGet2 (td ty tx : TE) : TE := fun σ H Q => td σ H fun x H1 => ∃ a, x = .ref a ∧ IsD H1 a ∧ ty σ H1 fun y H2 => tx σ H2 fun z H3 => ∃ o, DGet H3 a y o ∧ Q (o.getD z) H3
section
variable {X : Cx} {o e f : Expr} {apos cpos : Pos} {td ty tx : TE}
theorem pe_dget2 (hu : X.A.units + 1 < cLine) (ho : PE X o td) (he : PE X e ty) (hf : PE X f tx) (m : M2 X o "get" apos e f cpos) : PE X (.Call (.Attribute o "get" apos) [e, f] [] cpos) (tDGet2 td ty tx) := by
  intro pins s σ H Q I h
  refine wpAny_Call_method m.base m.few m.line PySem.F.plainAttrs_dict PySem.F.slot_dict_get PySem.F.type_dict_get (thn (ho pins s σ H _ I h) fun u s1 ⟨x, H1, I1, rx, a, ex, d, q1⟩ => ?_)
  subst ex
  obtain rfl : u = Value.ref a := rx
  obtain ⟨t1, t2, _⟩ := isD_at I1 d
  refine ⟨t1, t2, ?_⟩
  rw [m.trees]
  refine Calls.callWith_builtin rfl (Calls.evalArgs_plain (Calls.spliced_cons (thn (he pins s1 σ H1 _ I1 q1) fun iv s2 ⟨y, H2, I2, ry, q2⟩ =>
    Calls.spliced_cons (thn (hf pins s2 σ H2 _ I2 q2) fun fv s3 ⟨z, H3, I3, rz, ov, g, q3⟩ => Calls.spliced_nil ?_))))
  exact d_get2 hu I3 g ry rz fun w' s4 I4 rw' => ⟨_, H3, I4, rw', q3⟩
end

/-! ### dict(d): a copy -/
section
variable {X : Cx} {pins : List (Addr × Obj)} {σ : St} {H : Hp} {s : Shared} {a : Addr} {kvs : List (Key × V)} {A : Around} {E : Value → Shared → Prop}
end


section
variable {X : Cx} {pins : List (Addr × Obj)} {σ : St} {H : Hp} {s : Shared} {a : Addr} {y : V} {u : Value} {A : Around} {E : Value → Shared → Prop}
end
end L2


set_option Elab.async false
set_option linter.all false
set_option maxRecDepth 100000
set_option maxHeartbeats 4000000
namespace PySem
open PySem PySem.W PySem.Calls PyProof.Rows PyProof.V PySem.Spec
end PySem

namespace L2
open PySem PySem.Spec PyProof.Rows
section
variable {X : Cx}
end
end L2

set_option Elab.async false
set_option linter.all false
set_option maxRecDepth 100000
set_option maxHeartbeats 4000000
namespace L2
open PySem PySem.Spec PyProof.Rows
/-! for k in range(a, b, -1) -/
section
variable {X : Cx} {tg : Expr}
end
end L2

set_option Elab.async false
set_option linter.all false
set_option maxRecDepth 100000
set_option maxHeartbeats 4000000
namespace L2
open PySem PySem.Spec PyProof.Rows
section
variable {X : Cx}
end
end L2

set_option Elab.async false
set_option linter.all false
set_option maxRecDepth 100000
set_option maxHeartbeats 4000000
namespace L2
open PySem PySem.Spec PyProof.Rows
section
variable {X : Cx}
end
end L2

set_option Elab.async false
set_option linter.all false
set_option maxRecDepth 100000
set_option maxHeartbeats 4000000
namespace L2
open PySem PySem.Spec PyProof.Rows
theorem vals_rev : ∀ {xs : List V} {us : List Value}, Vals xs us → Vals xs.reverse us.reverse
  | _, _, .nil => .nil
  | _, _, .cons r t => by
    rw [List.reverse_cons, List.reverse_cons]
    exact (vals_rev t).append (.cons r .nil)
section
variable {X : Cx}
variable {e st : Expr} {te : TE} {tk : TO} {pos p2 : Pos}
theorem pe_rev (he : PE X e te) (hk : PO X (some st) tk) : PE X (.Subscript e (.Slice none none (some st) p2) pos) (fun σ H Q => te σ H fun x H1 => tk σ H1 fun k H2 => ∃ a xs, x = .ref a ∧ k = some (-1) ∧ SqL X.K H2 a xs ∧
    ∀ p, H2 p = none → Q (.ref p) (upd H2 p (.lst xs.reverse))) := by
  intro pins s σ H Q I h
  refine Subscript_ (thn (he pins s σ H _ I h) fun v s1 ⟨x, H1, I1, r1, q1⟩ => ?_)
  refine wpAny_Slice ?_
  rw [evalPart_none]
  refine wpAny_pure (wpAny_pure ?_)
  refine thn (hk pins s1 σ H1 _ I1 q1) fun vk s3 ⟨k, H3, I3, pk, q3⟩ => ?_
  obtain ⟨a, xs, rfl, rfl, hx, q⟩ := q3
  cases r1
  have I4 : Inv X pins σ H3 { s3 with heap := s3.heap.push { cls := .type "slice", data := .fields #[.none, .none, vk] } } := I3.kept (t' := s3.toks) fun b ob q => Heap.get?_push_of_some _ q
  obtain ⟨its, r, ht, hz⟩ := I4.list hx
  have hlen := r.length
  show wpAny (model X.prog X.w) X.A (subscriptTail e (.Slice none none (some st) p2) (.ref a) (.ref s3.heap.objs.size)) (EP X pins σ Q) X.xe { s3 with heap := s3.heap.push { cls := .type "slice", data := .fields #[.none, .none, vk] } }
  refine tail_any (ops := [.ref a, .ref s3.heap.objs.size]) (T := "list") ht.isList.typeIs slot_list_getitem.lookup ?_ (by with_unfolding_all rfl)
  refine wpAny_getItem_list_slice (lo := none) (hi := none) (st := some (-1)) ht.isList (Heap.IsSliceOf.new ..) .none .none pk (by decide) ?_ (by rw [List.size_toArray] <;> omega)
  rw [PySem.W.krv_pick]
  refine ⟨.ref _, _, I4.laid (t' := s3.toks) (o := .lst xs.reverse) (fun b ob q => Heap.get?_push_of_some _ q) (Nat.le_refl _) ?_, rfl, q _ (I4.hok.fresh (Nat.le_refl _))⟩
  exact ⟨by rw [List.length_reverse]; omega, _, 0, vals_rev r, Heap.get?_push_size _ rfl⟩
end
end L2

set_option Elab.async false
set_option linter.all false
set_option maxRecDepth 100000
set_option maxHeartbeats 4000000
namespace PySem
def RawD (h : Heap) (d : Addr) (es : Array DictEntry) (ep : Nat) : Prop := ∃ o, h.get? d = some o ∧ o.ExactDict ∧ o.data = .dict es ep
theorem RawD.at {h h' : Heap} {d : Addr} {es : Array DictEntry} {ep : Nat} (x : RawD h d es ep) (e : ∀ o, h.get? d = some o → h'.get? d = some o) : RawD h' d es ep := let ⟨o, a, b⟩ := x; ⟨o, e _ a, b⟩
section
variable {prog : Program} {w : World} {A : Around} {E : Value → Shared → Prop} {s : Shared} {d it : Addr} {es : Array DictEntry} {ep i : Nat}
end
end PySem

set_option Elab.async false
set_option linter.all false
set_option maxRecDepth 100000
set_option maxHeartbeats 4000000
namespace L2
open PySem PySem.Spec PyProof.Rows
/-! ## a dict with tuples as keys, walked: it is frozen meanwhile -/
section
variable {X : Cx} {tg : Expr}
end
end L2

set_option Elab.async false
set_option linter.all false
set_option maxRecDepth 100000
set_option maxHeartbeats 4000000
namespace L2
open PySem PySem.Spec PyProof.Rows
/-! ## {k: v for .. in .. for .. in ..}, tuples as keys -/
section
variable {prog : Program} {w : World} {A : Around} {R : Result → Shared → Prop} {s : Shared}
abbrev dc2 (kx vx tg1 iter1 : Expr) (ifs1 : List Expr) (tg iter : Expr) (ifs : List Expr) (scope : Scope) (pos : Pos) : Expr := .DictComp kx vx [⟨tg1, iter1, ifs1, 0⟩, ⟨tg, iter, ifs, 0⟩] scope pos
end
def DPutT (H : Hp) (D : Addr) (y v : V) (H' : Hp) : Prop := ∃ kvs k b, H D = some (.dT kvs) ∧ y = .ref b ∧ H b = some (.tup (k.map kV)) ∧ kvs.length < sizeLine ∧ H' = upd H D (.dT (putK kvs k v))
theorem DPutT.t {H : Hp} {a b : Addr} {kvs : List (List Key × V)} {k : List Key} {v : V} (e : H a = some (.dT kvs)) (eb : H b = some (.tup (k.map kV))) (hl : kvs.length < sizeLine) : DPutT H a (.ref b) v (upd H a (.dT (putK kvs k v))) := ⟨kvs, k, b, e, rfl, eb, hl, rfl⟩
section
variable {X : Cx} {kx vx tg1 iter1 : Expr} {ifs1 : List Expr} {tg iter : Expr} {ifs : List Expr} {scope : Scope} {pos : Pos} {wi wi1 : TI} {g g1 : TG} {tf tf1 : TT} {tk tv : TE}
end
section
variable {X : Cx} {kx vx tg1 iter1 : Expr} {ifs1 : List Expr} {tg iter : Expr} {ifs : List Expr} {scope : Scope} {pos : Pos} {wi wi1 : TI} {g g1 : TG} {tf tf1 : TT} {tk tv : TE}
end
end L2

set_option Elab.async false
set_option linter.all false
set_option maxRecDepth 100000
set_option maxHeartbeats 4000000
namespace L2
open PySem PySem.Spec PyProof.Rows
/-! ## a comprehension whose own name is read by a comprehension within: a cell of the block -/
abbrev cxBlkC (X : Cx) (N' : List Str) (scope : Scope) (x : Str) (C : Addr) (s : Shared) (H : Hp) (ex : List Addr) : Cx where
  prog := X.prog
  w := X.w
  K := X.K
  mg := X.mg
  base := X.base
  A := X.A
  N := N'
  s₀ := s
  H₀ := H
  env := compEnvC scope ((x, C + 1) :: closL X.env.cells scope.names []) C X.env
  outer := X.stack
  stack := X.stack
  ex := ex
  fn := fun y => y == x
  calm := X.calm
  pn := []
  xe := fun _ _ => False
def blkOkC (sn on : List (Str × NameKind)) (N : List Str) (x : Str) (fr : List Str) (js : List Nat) : Bool :=
  (sn.filter fun y => y.2 == .cell) == [(x, .cell)] && sn.lookup x == some .cell && decide ([x] ++ fr).Nodup && sn.all (fun y => (y.2 != .local || sn.lookup y.1 == some .local) && (y.2 != .free || (on.lookup y.1 == some .cell || on.lookup y.1 == some .free))) && fr.length == js.length
    && (fr.zip js).all fun p => sn.lookup p.1 == some .free && N[p.2]? == some p.1
structure BlkOkC (sn on : List (Str × NameKind)) (N : List Str) (x : Str) (fr : List Str) (js : List Nat) : Prop where
  one : (sn.filter fun y => y.2 == .cell) = [(x, .cell)]
  lk : sn.lookup x = some .cell
  nd : ([x] ++ fr).Nodup
  loc : ∀ y ∈ sn, y.2 = NameKind.local → sn.lookup y.1 = some .local
  free : ∀ y ∈ sn, y.2 = NameKind.free → on.lookup y.1 = some .cell ∨ on.lookup y.1 = some .free
  len : fr.length = js.length
  fr : ∀ (k : Nat) (x : Str), fr[k]? = some x → sn.lookup x = some .free ∧ ∃ j : Nat, js[k]? = some j ∧ N[j]? = some x
theorem BlkOkC.is {sn on : List (Str × NameKind)} {N : List Str} {x : Str} {fr : List Str} {js : List Nat} (B : BlkOkC sn on N x fr js) {y : Str × NameKind} (h : y ∈ sn) (e : y.2 = .cell) : y.1 = x := by
  have : y ∈ sn.filter fun y => y.2 == .cell := List.mem_filter.mpr ⟨h, by rw [e]; rfl⟩
  rw [B.one, List.mem_singleton] at this
  rw [this]
theorem blkOkC_of {sn on : List (Str × NameKind)} {N : List Str} {x : Str} {fr : List Str} {js : List Nat} (h : blkOkC sn on N x fr js = true) : BlkOkC sn on N x fr js := by
  unfold blkOkC at h
  simp only [Bool.and_eq_true, List.all_eq_true, beq_iff_eq, decide_eq_true_eq] at h
  obtain ⟨⟨⟨⟨⟨h0, h1⟩, hn⟩, h2⟩, h3⟩, h4⟩ := h
  refine ⟨h0, h1, hn, fun y hy e => ?_, fun y hy e => ?_, h3, fun k x e => ?_⟩
  · have := (h2 y hy).1
    simp only [Bool.or_eq_true, bne_iff_ne, beq_iff_eq] at this
    exact this.resolve_left fun z => z e
  · have := (h2 y hy).2
    simp only [Bool.or_eq_true, bne_iff_ne, beq_iff_eq] at this
    exact this.resolve_left fun z => z e
  · have hk : k < fr.length := (List.getElem?_eq_some_iff.mp e).1
    have hj : k < js.length := by omega
    have hm : (x, js[k]) ∈ fr.zip js := by
      refine List.mem_of_getElem? (i := k) ?_
      rw [List.getElem?_zip_eq_some]
      exact ⟨e, by simp [hj]⟩
    have := h4 _ hm
    exact ⟨this.1, js[k], by simp [hj], this.2⟩
theorem cells_none : ∀ {names : List (Str × NameKind)} (n : Nat) (acc : List (Str × Addr)) (h : Heap), (names.filter fun y => y.2 == .cell) = [] → cellsFrom n names acc = acc ∧ pushCells h names = h
  | [], _, _, _, _ => ⟨rfl, rfl⟩
  | (a, k) :: r, n, acc, h, e => by
    by_cases q : (k == NameKind.cell) = true
    · rw [List.filter_cons, if_pos (show ((a, k).2 == NameKind.cell) = true from q)] at e
      cases e
    · rw [List.filter_cons, if_neg (show ¬ ((a, k).2 == NameKind.cell) = true from q)] at e
      unfold cellsFrom pushCells
      rw [if_neg q, if_neg q]
      exact cells_none n acc h e
theorem cells_one {x : Str} : ∀ {names : List (Str × NameKind)} (n : Nat) (acc : List (Str × Addr)) (h : Heap), (names.filter fun y => y.2 == .cell) = [(x, .cell)] → cellsFrom n names acc = (x, n) :: acc ∧ pushCells h names = h.push { cls := .type "cell", data := .cell none }
  | [], _, _, _, e => by cases e
  | (a, k) :: r, n, acc, h, e => by
    by_cases q : (k == NameKind.cell) = true
    · rw [List.filter_cons, if_pos (show ((a, k).2 == NameKind.cell) = true from q)] at e
      injection e with e1 e2
      cases e1
      unfold cellsFrom pushCells
      rw [if_pos q, if_pos q]
      exact cells_none _ _ _ e2
    · rw [List.filter_cons, if_neg (show ¬ ((a, k).2 == NameKind.cell) = true from q)] at e
      unfold cellsFrom pushCells
      rw [if_neg q, if_neg q]
      exact cells_one n acc h e
theorem newEnv_one {M : Model} {A : Around} {E : Value → Shared → Prop} {s : Shared} {scope : Scope} {globals : Addr} {cl : List (Str × Addr)} {qual : Str} {env : Env} {x : Str} {Q : Env → Shared → Prop} (one : (scope.names.filter fun y => y.2 == .cell) = [(x, .cell)])
    (hQ : Q { scope := scope, locals := s.heap.objs.size, globals := globals, cells := (x, s.heap.objs.size + 1) :: cl, qual := qual, func := none, code := env.code, frame := env.frame, builtins := env.builtins } { s with heap := (s.heap.push { cls := .type "dict", data := .dict #[] }).push { cls := .type "cell", data := .cell none } }) :
    wpAny M A (newFunctionEnv scope globals cl [] qual none .none (some env)) Q E s := by
  simp only [newFunctionEnv, Option.isSome_some, if_true]
  refine wpAny_bind (wpAny_alloc (wpAny_bind (wpAny_layCells _ (fun name kind cells => by cases hkc : kind == NameKind.cell <;> simp [hkc]) _ _ _ _ ?_)))
  obtain ⟨e1, e2⟩ := cells_one (names := scope.names) (x := x) (s.heap.push { cls := .type "dict", data := .dict #[] }).objs.size cl (s.heap.push { cls := .type "dict", data := .dict #[] }) one
  rw [e1, e2, Heap.size_push]
  exact wpAny_bind (wpAny_pure (wpAny_pure hQ))
theorem relab_cell {env : Env} {x : Str} : ∀ {names : List (Str × NameKind)}, names.lookup x = some .cell → (names.map fun (n, k) => if (k == NameKind.free && env.scope.kind == .function && env.kindOf n == some .cell) then (n, NameKind.cell) else (n, k)).lookup x = some .cell
  | [], h => by simp at h
  | (n, k) :: r, h => by
    show List.lookup x ((if (k == NameKind.free && env.scope.kind == .function && env.kindOf n == some .cell) = true then (n, NameKind.cell) else (n, k)) :: _) = some NameKind.cell
    by_cases hx : (x == n) = true
    · rw [List.lookup_cons, hx] at h
      cases (Option.some.inj h)
      split <;> simp [List.lookup_cons, hx]
    · have hx' : (x == n) = false := by simpa using hx
      rw [List.lookup_cons, hx'] at h
      split
      · rw [List.lookup_cons, hx']; exact relab_cell h
      · rw [List.lookup_cons, hx']; exact relab_cell h
section
variable {X : Cx} {elt tg iter : Expr} {ifs : List Expr} {scope : Scope} {pos : Pos} {wi : TI} {g : TG} {tf : TT} {te : TE} {x : Str}
theorem blk_startC {pins : List (Addr × Obj)} {σ : St} {H : Hp} {s : Shared} {fp : List Addr} (fr : List Str) (js : List Nat) (I : Inv X pins σ H s) (B : BlkOkC scope.names X.env.scope.names X.N x fr js) (hk : scope.kind = .function)
    (f2 : ∀ b ∈ fp, FpOk X pins H b) (fl : ∀ b ∈ fp, b < s.heap.objs.size) {D C : Addr} (hD : D = s.heap.objs.size) {h3 h1 : Heap} (e3 : h3 = s.heap.push { cls := .type "list", dict := none, data := .seq ([] : List Value).toArray }) (hC : C = h3.objs.size)
    {m : Str → Option Value} (hns : h1.Ns C m) (hcell : h1.IsCell (C + 1) none) (k4 : ∀ b o, h3.get? b = some o → h1.get? b = some o) {t4 : Nat} :
    Inv (cxBlkC X ([x] ++ fr) scope x C { s with heap := h3 } H (D :: fp)) [] (upS 1 js σ) H { s with heap := h1, toks := t4 } := by
  have k3 : ∀ b o, s.heap.get? b = some o → h3.get? b = some o := fun b o e => by rw [e3]; exact Heap.get?_push_of_some _ e
  have I3 : Inv X pins σ H { s with heap := h3 } := I.kept (t' := s.toks) k3
  have hz : h3.objs.size = s.heap.objs.size + 1 := by rw [e3, Heap.size_push]
  have hasF : ∀ y ∈ scope.names, y.2 = NameKind.free → ∃ c, X.env.cells.lookup y.1 = some c := fun y hy e => I.ok.has y.1 (B.free y hy e)
  have cellLt : ∀ x c, X.env.cells.lookup x = some c → c < s.heap.objs.size := fun x c e => by
    obtain ⟨v, q⟩ := I.cell x c e
    exact q.lt
  have clt : ∀ y c, (closL X.env.cells scope.names []).lookup y = some c → c < C := fun y c e => by
    have := cellLt y c (closL_some e hasF)
    rw [hC, hz]; exact Nat.lt_succ_of_lt this
  have look : ∀ y c, ((x, C + 1) :: closL X.env.cells scope.names []).lookup y = some c → (y = x ∧ c = C + 1) ∨ (y ≠ x ∧ (closL X.env.cells scope.names []).lookup y = some c) := fun y c e => by
    rw [List.lookup_cons] at e
    by_cases q : (y == x) = true
    · rw [q] at e
      exact .inl ⟨by simpa using q, (Option.some.inj e).symm⟩
    · rw [(Bool.not_eq_true _).mp q] at e
      exact .inr ⟨fun z => q (by simpa using z), e⟩
  refine ⟨⟨I.ok.mod, hk, I.ok.glob, I.ok.blt, Nat.le_of_eq hC.symm, fun y1 y2 c e1 e2 => ?_, fun y hy => ?_, fun y c hf e => ?_, fun hc => I.ok.hd hc, I.ok.frames, .inl rfl, fun b hb => ?_, I3.bs, Nat.le_trans I.ok.bsz I3.sz, fun b o e hb => ?_, fun b hb hf => ?_, I3.stack, I3.stkFree⟩,
    rfl, I.bare, Un.kept k4, ⟨m, hns, fun i y v e1 e2 e3' => ?_⟩, fun y c e => ?_, ?_, fun y c e => ?_, fun p hp => absurd (show p ∈ ([] : List (Addr × Obj)) from hp) (by simp), I3.hok.kept k4, ?_⟩
  · rcases look _ _ e1 with ⟨a1, a2⟩ | ⟨a1, a2⟩ <;> rcases look _ _ e2 with ⟨b1, b2⟩ | ⟨b1, b2⟩
    · rw [a1, b1]
    · have := clt _ _ b2
      rw [a2] at this
      exact absurd this (Nat.not_lt.mpr (Nat.le_succ _))
    · have := clt _ _ a2
      rw [b2] at this
      exact absurd this (Nat.not_lt.mpr (Nat.le_succ _))
    · exact I.ok.inj _ _ c (closL_some a2 hasF) (closL_some b2 hasF)
  · by_cases q : y = x
    · subst q
      exact ⟨C + 1, by show List.lookup y ((y, C + 1) :: _) = _; simp [List.lookup_cons]⟩
    obtain ⟨k, e, z⟩ : ∃ k, scope.names.lookup y = some k ∧ (k = .free) := by
      rcases hy with hx | hx
      · obtain ⟨k, e, z⟩ := relab_of hx
        rcases z with z | z
        · subst z; exact absurd (B.is (PySem.mem_of_lookup e) rfl) q
        · exact ⟨k, e, z.1⟩
      · obtain ⟨k, e, z⟩ := relab_of hx
        rcases z with z | z
        · subst z; exact ⟨_, e, rfl⟩
        · exact ⟨k, e, z.1⟩
    subst z
    refine ⟨(X.env.cells.lookup y).getD 0, ?_⟩
    show List.lookup y ((x, C + 1) :: _) = _
    rw [List.lookup_cons, show (y == x) = false from by simpa using q]
    exact closL_has e
  · rcases look _ _ e with ⟨a1, a2⟩ | ⟨a1, a2⟩
    · rw [a2]
      show h3.objs.size ≤ C + 1
      rw [hC]; exact Nat.le_succ _
    · exact absurd (by simpa using hf) a1
  · have ncell : ∀ b, b < C → ∀ y c, ((x, C + 1) :: closL X.env.cells scope.names []).lookup y = some c → (∀ y c, X.env.cells.lookup y = some c → c ≠ b) → c ≠ b := fun b hb y c e h => by
      rcases look _ _ e with ⟨a1, a2⟩ | ⟨a1, a2⟩
      · rw [a2]; exact Nat.ne_of_gt (Nat.lt_succ_of_lt hb)
      · exact h y c (closL_some a2 hasF)
    rcases List.mem_cons.mp hb with z | hb
    · subst z
      refine ⟨by rw [hD, hC, hz]; exact Nat.ne_of_lt (Nat.lt_succ_self _), fun y c e => ncell _ (by rw [hD, hC, hz]; exact Nat.lt_succ_self _) y c e fun y c e => ?_⟩
      have := cellLt y c e
      rw [hD]; exact Nat.ne_of_lt this
    · have hlt : b < C := by rw [hC, hz]; exact Nat.lt_succ_of_lt (fl b hb)
      exact ⟨Nat.ne_of_lt hlt, fun y c e => ncell _ hlt y c e fun y c e => (f2 b hb).2.2.2.2.1 y c e⟩
  · rcases List.mem_cons.mp hb with z | hb
    · have := Heap.lt_size (I.bk b o e)
      rw [z, hD] at this
      exact Nat.lt_irrefl _ this
    · rcases (f2 b hb).2.2.2.1 with z | z
      · exact I.ok.noex b o e z
      · exact absurd (Nat.lt_of_lt_of_le (Heap.lt_size (I.ok.bs b o e).1) z) (Nat.lt_irrefl _)
  · have hf' := List.mem_cons.mp (I.stkSub b hf)
    rcases List.mem_cons.mp hb with z | hb
    · rcases hf' with y | y
      · have := I.lt
        rw [← y, z, hD] at this
        exact Nat.lt_irrefl _ this
      · exact I.nofs (a := b) (by rw [z, hD]; exact Nat.le_refl _) y
    · rcases hf' with y | y
      · exact (f2 b hb).2.1 y
      · exact (f2 b hb).2.2.1 y
  · obtain ⟨hn, _, j, ej, es⟩ := upS_drop e2
    have ex : fr[i - 1]? = some y := by
      rw [List.getElem?_append_right (show ([x] : List Str).length ≤ i from hn)] at e1
      exact e1
    obtain ⟨hfx, j', ej', eN⟩ := B.fr _ y ex
    have : j' = j := by rw [ej] at ej'; exact (Option.some.inj ej').symm
    subst this
    have hkx := B.free _ (PySem.mem_of_lookup hfx) rfl
    obtain ⟨m0, _, hl⟩ := I.loc
    obtain ⟨u, r, l⟩ := hl j' y v eN es (by rcases hkx with z | z; exact .inr (.inl z); exact .inr (.inr z))
    refine ⟨u, r, .inr ?_⟩
    have yx : y ≠ x := fun z => by
      have := B.lk
      rw [← z, hfx] at this
      cases this
    rcases l with ⟨kl, _⟩ | ⟨_, c, ec, o, eo, ed⟩
    · have kl' : X.env.scope.names.lookup y = some .local := kl
      rcases hkx with z | z
      · exact absurd (z.symm.trans kl') (by decide)
      · exact absurd (z.symm.trans kl') (by decide)
    · obtain ⟨k', e', z⟩ := relab_free (env := X.env) hfx
      have eq : ((x, C + 1) :: closL X.env.cells scope.names []).lookup y = some c := by
        rw [List.lookup_cons, show (y == x) = false from by simpa using yx]
        show (closL X.env.cells scope.names []).lookup y = some c
        rw [closL_has hfx, ec]; rfl
      refine ⟨?_, c, eq, o, k4 c o (k3 c o eo), ed⟩
      rcases z with z | z
      · subst z; exact .inl e'
      · subst z; exact .inr e'
  · rcases look _ _ e with ⟨a1, a2⟩ | ⟨a1, a2⟩
    · rw [a2]; exact ⟨none, hcell⟩
    · obtain ⟨v, o, eo, ed⟩ := I.cell y c (closL_some a2 hasF)
      exact ⟨v, o, k4 c o (k3 c o eo), ed⟩
  · exact I3.hok.fresh (Nat.le_of_eq hC.symm)
  · rcases look _ _ e with ⟨a1, a2⟩ | ⟨a1, a2⟩
    · rw [a2]
      exact I3.hok.fresh (by show h3.objs.size ≤ C + 1; rw [hC]; exact Nat.le_succ _)
    · exact I.freeC y c (closL_some a2 hasF)
  · rw [upS_len, ← B.len]
    show _ = ([x] ++ fr).length
    rw [List.length_append]; rfl

end
end L2

set_option Elab.async false
set_option linter.all false
set_option maxRecDepth 100000
set_option maxHeartbeats 4000000
namespace L2
open PySem PySem.Spec PyProof.Rows
end L2

set_option Elab.async false
set_option linter.all false
namespace L2
end L2

set_option Elab.async false
set_option linter.all false
set_option maxRecDepth 100000
set_option maxHeartbeats 4000000
namespace L2
open PySem PySem.W PySem.Spec PyProof.Rows

/-! ### own exceptions: classes below ValueError, with or without an `__init__` of their own -/
abbrev bmV : List Value := [.type "ValueError", .type "Exception", .type "BaseException", .type "object"]

def xcIn (K : Frag) (C : Addr) (ini : Option Value) : Bool := match K.lookup C with
  | some ⟨.type "type", _, .cls cd, sl⟩ => (match cd.mro with
    | .ref C' :: bm => (match sl.toList with
      | [_, _, _, _, some (.builtin n), _] => C' == C && (n == "ValueError.__new__" && (!cd.hasDel && (tailIn K bmV bm && (nsOkIn K cd.ns && nsIn K cd.ns "__init__" == some ini))))
      | _ => false)
    | _ => false)
  | _ => false

structure Xc (h : Heap) (C : Addr) (ini : Option Value) : Prop where
  is : ∃ (bm : List Value) (N : Addr) (nm qn : Str) (bs : List Value) (hd : Bool) (sn : List Str) (sub : List Value) (ab : Bool) (col : Option Bool) (dd : Option Addr) (k0 k1 k2 k3 k5 : Option Value) (mN : Str → Option Value),
    h.get? C = some (excClassObj nm qn C N bs bm hd sn sub ab col dd k0 k1 k2 k3 k5 "ValueError.__new__") ∧ h.Ns N mN ∧ mN "__init__" = ini ∧ OwnTail h bmV bm

end L2

set_option Elab.async false
set_option linter.all false
set_option maxRecDepth 100000
set_option maxHeartbeats 4000000
namespace L2
open PySem PySem.W PySem.Spec PyProof.Rows

section
variable {P : Program} {w : World} {H : Hp} {h h' : Heap} {a : Addr} {o : HO}
theorem ObjOk.has (x : ObjOk P w H h a o) : ∃ u, h.get? a = some u := by
  cases o with
  | lst xs => obtain ⟨_, _, _, _, e⟩ := x; exact ⟨_, e⟩
  | tup xs => obtain ⟨_, _, _, u, e, _⟩ := x; exact ⟨u, e⟩
  | dK kvs => obtain ⟨_, _, _, _, u, _, _, e, _⟩ := x; exact ⟨u, e⟩
  | dT kvs => obtain ⟨_, _, _, _, u, _, _, e, _⟩ := x; exact ⟨u, e⟩
  | set S n => obtain ⟨u, _, _, _, e, _⟩ := x; exact ⟨u, e⟩
  | ins C dx fs => obtain ⟨_, _, _, e, _⟩ := x; exact ⟨_, e⟩
  | own y => obtain ⟨u, e⟩ := x; exact ⟨u, e⟩
  | xd fs => obtain ⟨_, ⟨u, _, _, e, _⟩, _⟩ := x; exact ⟨u, e⟩
  | rng lo hi => obtain ⟨_, _, _, e⟩ := x; exact ⟨_, e⟩
  | frz ob u => obtain ⟨e, _⟩ := x; exact ⟨_, e⟩
  | tbl ps => exact ⟨_, show h.get? a = some _ from x⟩
  | met f y => exact ⟨_, show h.get? a = some _ from x⟩
  | ext φ => obtain ⟨_, ⟨u, e⟩, _⟩ := x; exact ⟨u, e⟩
theorem HOk.none_of (x : HOk P w H h) (e : h.get? a = none) : H a = none := by
  cases q : H a with
  | none => rfl
  | some u => obtain ⟨z, ez⟩ := (x a u q).has; rw [e] at ez; cases ez
end

section
variable {X : Cx} {pins : List (Addr × Obj)} {σ : St} {H : Hp} {s : Shared} {h' : Heap}
theorem Inv.laidN {a : Addr} {o : HO} {t' : Nat} (I : Inv X pins σ H s) (k : ∀ b u, s.heap.get? b = some u → h'.get? b = some u) (hn : s.heap.get? a = none) (new : ObjOk X.prog X.w (upd H a o) h' a o) :
    Inv X pins σ (upd H a o) { s with heap := h', toks := t' } := by
  have hH := I.hok.none_of hn
  have ne : ∀ b u, s.heap.get? b = some u → b ≠ a := fun b u q z => by rw [z, hn] at q; cases q
  have neH : ∀ b u, H b = some u → b ≠ a := fun b u q z => by rw [z, hH] at q; cases q
  refine I.un ⟨fun b u q _ _ _ => k b u q, fun b u q _ _ _ => ⟨u.slots, k b u q⟩, fun b u q n _ => by rw [upd_ne (ne b u q)]; exact n, fun b u q _ => ⟨u, k b u q⟩,
    fun b xs q => by rw [upd_ne (neH b _ q)]; exact q, fun b u xs q => by rw [upd_ne (neH b _ q)]; exact q, fun b ps q => ⟨#[], by rw [upd_ne (neH b _ q), q]; simp⟩⟩ ?_
  intro b u e
  by_cases hb : b = a
  · subst hb; rw [upd_same] at e; cases e; exact new
  · rw [upd_ne hb] at e
    exact (I.hok b u e).stay (fun c v _ q => k c v q) (fun c q => by rw [upd_ne (neH c _ q)]; exact q) fun c xs q => by rw [upd_ne (neH c _ q)]; exact q
end

section
variable {prog : Program} {w : World} {A : Around} {E : Value → Shared → Prop} {h : Heap} {g : Array GenState} {d : Drawn} {t : Nat} {os : OsState} {C : Addr}
end

section
variable {prog : Program} {w : World} {A : Around} {E : Value → Shared → Prop} {h : Heap} {g : Array GenState} {d : Drawn} {t : Nat} {os : OsState}
variable {nm q : Str} {C N : Addr} {bs bm : List Value} {hdct : Bool} {sn : List Str} {sub : List Value} {ab : Bool} {col : Option Bool} {dd : Option Addr} {k0 k1 k2 k3 k5 : Option Value}
end
end L2

set_option Elab.async false
set_option linter.all false
set_option maxRecDepth 100000
set_option maxHeartbeats 4000000
namespace L2
open PySem PySem.W PySem.Spec PyProof.Rows

structure XK2 (K : Frag) (C : Addr) (ini : Option Value) : Prop where
  cls : xcIn K C ini = true
  sa : findIn K (.ref C) "__setattr__" = some (some (.builtin "object.__setattr__"))
  ga : findIn K (.ref C) "__getattribute__" = some (some (.builtin "BaseException.__getattribute__"))
  gh : findIn K (.ref C) "__getattr__" = some none
  ob : mroIn K C (.type "object") = some true
  be : mroIn K C (.type "BaseException") = some true
  hd : hasDictIn K C = true

section
variable {prog : Program} {w : World} {A : Around} {E : Value → Shared → Prop} {h : Heap} {g : Array GenState} {d : Drawn} {t : Nat} {os : OsState} {K : Frag} {C e t0 : Addr} {ini : Option Value} {f : Str} {v : Value}
end
end L2

set_option Elab.async false
set_option linter.all false
set_option maxRecDepth 100000
set_option maxHeartbeats 4000000
namespace L2
open PySem PySem.W PySem.Spec PyProof.Rows
section
variable {prog : Program} {w : World} {A : Around} {E : Value → Shared → Prop} {h : Heap} {g : Array GenState} {d : Drawn} {t : Nat} {os : OsState} {K : Frag} {C e t0 dx : Addr} {od : Option Addr} {ini : Option Value} {f : Str} {v : Value} {mA : Str → Option Value}

end
end L2

set_option Elab.async false
set_option linter.all false
set_option maxRecDepth 100000
set_option maxHeartbeats 4000000
namespace L2
open PySem PySem.W PySem.Spec PyProof.Rows
structure XKc (K : Frag) (C : Addr) : Prop where
  lk : findIn K (.ref C) "__class__" = some (some (.builtin "object.__class__"))
  gt : specialIn K (.builtin "object.__class__") "__get__" = some (some (.builtin "getset_descriptor.__get__"))
  tk : takesIn K (.builtin "object.__class__") = some true
section
variable {prog : Program} {w : World} {A : Around} {E : Value → Shared → Prop} {h : Heap} {g : Array GenState} {d : Drawn} {t : Nat} {os : OsState} {K : Frag} {C C' e t0 : Addr} {dx : Option Addr} {ini : Option Value} {od : Option Obj}
end
end L2

set_option Elab.async false
set_option linter.all false
set_option maxRecDepth 100000
set_option maxHeartbeats 4000000
namespace L2
open PySem PySem.W PySem.Spec PyProof.Rows

structure XOk (K : Frag) (C : Addr) (ini : Option Value) : Prop where
  k : XK2 K C ini
  c : XKc K C
  kp : keepIn K (.ref C) = true
  ty : typeIn K (.ref C) = some (.type "type")
  cd : ∃ cd, clsIn K C = some cd
  ve : mroIn K C (.type "ValueError") = some true

section
variable {X : Cx} {CX : CXT} {k : Nat} {f C : Addr} {fd : FuncData} {ps : List Str} {ds : List Value} {dvs : List V} {sp : Sp} {E : XK} {x m : Str} {p pos apos : Pos} {e o value : Expr} {es : List Expr} {t : TA} {ta tv : TE} {ini : Option Value}

end
end L2

set_option Elab.async false
set_option linter.all false
set_option maxRecDepth 100000
set_option maxHeartbeats 4000000
namespace L2
open PySem PySem.W PySem.Spec PyProof.Rows
section
variable {X : Cx}
end

structure Xs (K : Frag) (mg : Str → Option Value) (x : Str) (C : Addr) (ini : Option Value) : Prop where
  ok : XOk K C ini
  gl : mg x = some (.ref C)
structure XsI (P : Program) (w : World) (K : Frag) (mg : Str → Option Value) (base : Heap) (x : Str) (C f : Addr) (k : Nat) (ps : List Str) (sp : Sp) : Prop extends Xs K mg x C (some (.ref f)) where
  ex : ∃ fd oF, FnOk P w K mg base CX0 k f fd ps sp ∧ K.lookup f = some oF ∧ oF.cls = .type "function" ∧ Binds K fd ps []
section
variable {X : Cx} {x : Str} {k : Nat} {C f : Addr} {ps : List Str} {sp : Sp} {p pos : Pos} {e : Expr} {es : List Expr} {t : TA}
end
end L2

set_option Elab.async false
set_option linter.all false
set_option maxRecDepth 100000
set_option maxHeartbeats 4000000
namespace L2
open PySem PySem.Spec PyProof.Rows
theorem vals_strs : ∀ {us : List Value} {ns : List Str}, StrsAre us ns → Vals (ns.map V.str) us
  | _, _, .nil => .nil
  | _, _, .cons n t r => .cons ⟨t, rfl⟩ (vals_strs r)
section
variable {X : Cx}
end
end L2

set_option Elab.async false
set_option linter.all false
set_option maxRecDepth 100000
set_option maxHeartbeats 4000000
namespace L2
open PySem PySem.Spec PyProof.Rows
section
variable {prog : Program} {w : World} {κ : Type} [DecidableEq κ] {knd : PySem.KeyKind prog w κ} {A : Around} {E : Value → Shared → Prop} {s : Shared}
end
end L2

set_option Elab.async false
set_option linter.all false
set_option maxRecDepth 100000
set_option maxHeartbeats 4000000
namespace L2
open PySem PySem.Spec PyProof.Rows
section
variable {prog : Program} {w : World} {κ : Type} [DecidableEq κ] {knd : PySem.KeyKind prog w κ}
end
section
variable {X : Cx} {td ty tx : TE} {o e f : Expr} {apos cpos : Pos}
end
end L2

set_option Elab.async false
set_option linter.all false
set_option maxRecDepth 100000
set_option maxHeartbeats 4000000
namespace L2
open PySem PySem.Spec PyProof.Rows
theorem kV_of {P : Program} {w : World} {k : Key} {u : Value} (h : (mixKind P w).is k u = true) : RelV (kV k) u := by
  rw [mixKind_is] at h
  rcases keyIs_shape h with ⟨i, t, rfl, rfl⟩ | ⟨x, t, rfl, rfl⟩
  · exact ⟨t, rfl⟩
  · exact ⟨t, rfl⟩
theorem KV.get : ∀ {kvs : List (Key × V)} {vs : List (Key × Value)} {j : Nat} {q : Key × Value}, KV kvs vs → vs[j]? = some q → ∃ p, kvs[j]? = some p ∧ p.1 = q.1 ∧ RelV p.2 q.2
  | _, _, j, _, .nil, e => by simp at e
  | _, _, 0, _, .cons h _, e => by simp at e; subst e; exact ⟨_, rfl, h⟩
  | _, _, j + 1, _, .cons _ t, e => by
    obtain ⟨p, e1, r⟩ := KV.get (j := j) t (by simpa using e)
    exact ⟨p, by simpa using e1, r⟩
section
variable {X : Cx}
end
end L2

set_option Elab.async false
set_option linter.all false
set_option maxRecDepth 100000
set_option maxHeartbeats 4000000
namespace L2
open PySem PySem.Spec PyProof.Rows
section
variable {X : Cx} {td ty : TE} {o e : Expr} {apos cpos : Pos}
end
end L2

set_option Elab.async false
set_option linter.all false
set_option maxRecDepth 100000
set_option maxHeartbeats 4000000
namespace L2
open PySem PySem.Spec PyProof.Rows
section
variable {X : Cx}
end
end L2

set_option Elab.async false
set_option linter.all false
set_option maxRecDepth 100000
set_option maxHeartbeats 4000000
namespace L2
open PySem PySem.Spec PyProof.Rows
/-! ## a dict with ints or texts as keys, walked: it is frozen meanwhile -/
section
variable {X : Cx} {tg : Expr}
end
end L2

set_option Elab.async false
set_option linter.all false
set_option maxRecDepth 100000
set_option maxHeartbeats 4000000
namespace L2
open PySem PySem.Spec PyProof.Rows
section
variable {X : Cx} {tg : Expr}
end
end L2

set_option Elab.async false
set_option linter.all false
set_option maxRecDepth 100000
set_option maxHeartbeats 4000000
namespace L2
open PySem PySem.Spec PyProof.Rows
open Sem (wp)
section
variable {prog : Program} {w : World} {A : Around} {E : Value → Shared → Prop} {s : Shared}
end
section
variable {prog : Program} {w : World} {A : Around} {E : Value → Shared → Prop} {h : Heap} {g : Array GenState} {d : Drawn} {t : Nat} {os : OsState} {a : Addr} {n : Nat} {its : Array Value}
end
end L2

set_option Elab.async false
set_option linter.all false
set_option maxRecDepth 100000
set_option maxHeartbeats 4000000
namespace L2
open PySem PySem.Spec PyProof.Rows
section
variable {prog : Program} {w : World} {K : Type} [DecidableEq K] {knd : KeyKind prog w K} {A : Around} {R : Result → Shared → Prop} {it l D : Addr} {items : Array Value} {pairs : List (K × Value)} {res : Value}
end
end L2

set_option Elab.async false
set_option linter.all false
set_option maxRecDepth 100000
set_option maxHeartbeats 4000000
namespace L2
open PySem PySem.Spec PyProof.Rows
section
variable {prog : Program} {w : World} {K : Type} [DecidableEq K] {knd : KeyKind prog w K} {A : Around} {E : Value → Shared → Prop} {s : Shared}
end
def PrsL (H : Hp) (xs : List V) (kps : List (Key × V)) : Prop := xs.length = kps.length ∧ ∀ (j : Nat) (x : V), xs[j]? = some x → ∃ (T : Addr) (k : Key) (v : V), x = .ref T ∧ H T = some (.tup [kV k, v]) ∧ kps[j]? = some (k, v)
theorem PrsL.nil {H : Hp} : PrsL H [] [] := ⟨rfl, fun j x e => by simp at e⟩
theorem PrsL.same {H H' : Hp} {xs : List V} {kps : List (Key × V)} (h : PrsL H xs kps) (s : Same H H') : PrsL H' xs kps := ⟨h.1, fun j x e => let ⟨T, k, v, a, b, c⟩ := h.2 j x e; ⟨T, k, v, a, s _ _ b, c⟩⟩
theorem PrsL.snoc {H : Hp} {xs : List V} {kps : List (Key × V)} {T : Addr} {k : Key} {v : V} (h : PrsL H xs kps) (e : H T = some (.tup [kV k, v])) : PrsL H (xs ++ [.ref T]) (kps ++ [(k, v)]) := by
  refine ⟨by rw [List.length_append, List.length_append, h.1]; rfl, fun j x ex => ?_⟩
  have l := h.1
  by_cases hj : j < xs.length
  · rw [List.getElem?_append_left hj] at ex
    obtain ⟨T', k', v', a, b, c⟩ := h.2 j x ex
    exact ⟨T', k', v', a, b, by rw [List.getElem?_append_left (by omega)]; exact c⟩
  · rw [List.getElem?_append_right (by omega)] at ex
    have : j = xs.length := by
      have := (List.getElem?_eq_some_iff.mp ex).1
      simp at this; omega
    subst this
    simp at ex
    subst ex
    exact ⟨T, k, v, rfl, e, by rw [l, List.getElem?_append_right (Nat.le_refl _)]; simp⟩
theorem Vals.at : ∀ {xs : List V} {us : List Value} {i : Nat} {u : Value}, Vals xs us → us[i]? = some u → ∃ x, xs[i]? = some x ∧ RelV x u := fun {xs us i u} r e => by
  have l := Vals.length r
  have h := (List.getElem?_eq_some_iff.mp e).1
  obtain ⟨v, e1, r1⟩ := r.get (i := i) (x := xs[i]'(by omega)) (List.getElem?_eq_getElem _)
  rw [e] at e1
  cases e1
  exact ⟨_, List.getElem?_eq_getElem _, r1⟩
section
variable {X : Cx}
end
end L2

set_option Elab.async false
set_option linter.all false
set_option maxRecDepth 100000
set_option maxHeartbeats 4000000
namespace L2
open PySem PySem.Spec PyProof.Rows
section
variable {X : Cx}
end
end L2

set_option Elab.async false
set_option linter.all false
set_option maxRecDepth 100000
set_option maxHeartbeats 4000000
namespace L2
open PySem PySem.Spec PyProof.Rows
section
variable {X : Cx} {elt tg iter : Expr} {ifs : List Expr} {scope : Scope} {pos : Pos} {wi : TI} {g : TG} {tf : TT} {te : TE} {x : Str}
theorem ps_lcC {yt : Str} {py spos : Pos} {g2 : TG} (fr : List Str) (js : List Nat) (hc : X.calm = true) (hk : scope.kind = .function) (hb : blkOkC scope.names X.env.scope.names X.N x fr js = true) (hi : PI X tg iter wi)
    (hg : ∀ C s H ex, PG (cxBlkC X ([x] ++ fr) scope x C s H ex) tg g) (hf : ∀ C s H ex, PF (cxBlkC X ([x] ++ fr) scope x C s H ex) ifs tf) (he : ∀ C s H ex, PE (cxBlkC X ([x] ++ fr) scope x C s H ex) elt te)
    (hg2 : PG X (.Name yt py) g2) (hsw : swapsWith (.ListComp elt [⟨tg, iter, ifs, 0⟩] scope pos) (some (.Name yt py)) spos.line X.env = pure true := by rfl)
    (hs : ∀ x, foldedSetIterable iter X.env x = pure x := by intro _; rfl) : PS X (.Assign [.Name yt py] (.ListComp elt [⟨tg, iter, ifs, 0⟩] scope pos) spos) (tAsg (tLC wi 1 js g tf te) g2) := by
  intro pins s σ H Dn I h
  have B := blkOkC_of hb
  have hasF : ∀ y ∈ scope.names, y.2 = NameKind.free → ∃ c, X.env.cells.lookup y.1 = some c := fun y hy e => I.ok.has y.1 (B.free y hy e)
  rw [exec_Assign_Name_used _ _ _ _ hsw]
  refine wpAny_bind (wpAny_standAt (wpAny_bind ?_))
  show wpAny _ X.A (do let _ ← comprehension (.ListComp elt [⟨tg, iter, ifs, 0⟩] scope pos) scope X.env _ (newList []) false (eval iter X.env) (some (assign (.Name yt py) X.env))) _ _ s
  refine wpAny_bind (wpAny_mono (wpAny_comprehension_free (use := some (assign (.Name yt py) X.env)) (Q := fun _ s' => ∃ σ' H', Inv X pins σ' H' s' ∧ Dn.nx σ' H') rfl hs (clos_eq hasF) hk (fun y hy e => B.loc y hy e) (thn (hi pins s σ H _ I h) fun v s1 h1 => thn h1 fun itv s2 h2 => ?_)) (fun _ s' hq => wpAny_pure (wpAny_pure hq)) fun _ _ e => e)
  obtain ⟨it, fp, tn, J, H2, e, I2, T, st2, f2, W, ⟨m0, w0⟩, turn⟩ := h2
  subst e
  have fl : ∀ b ∈ fp, b < s2.heap.objs.size := fun b hb => let ⟨o, e, _⟩ := T.obj _ _ st2 b hb; Heap.lt_size e
  refine wpAny_newObj_type (newEnv_one B.one ?_)
  dsimp only
  generalize e3 : s2.heap.push { cls := .type "list", dict := none, data := .seq ([] : List Value).toArray } = h3
  have hns : ((h3.push { cls := .type "dict", data := .dict #[] }).push { cls := .type "cell", data := .cell none }).Ns h3.objs.size (fun _ => none) := (Heap.Ns.new h3 (.type "dict")).keeps fun b o e => Heap.get?_push_of_some _ e
  have hcell : ((h3.push { cls := .type "dict", data := .dict #[] }).push { cls := .type "cell", data := .cell none }).IsCell (h3.objs.size + 1) none := ⟨_, by have := Heap.get?_push_size (h3.push { cls := .type "dict", data := .dict #[] }) (o := { cls := .type "cell", data := .cell none }) rfl; rwa [Heap.size_push] at this, rfl⟩
  have k4 : ∀ b o, h3.get? b = some o → ((h3.push { cls := .type "dict", data := .dict #[] }).push { cls := .type "cell", data := .cell none }).get? b = some o := fun b o e => Heap.get?_push_of_some _ (Heap.get?_push_of_some _ e)
  generalize (h3.push { cls := .type "dict", data := .dict #[] }).push { cls := .type "cell", data := .cell none } = h1 at hns hcell k4
  have k3 : ∀ b o, s2.heap.get? b = some o → h3.get? b = some o := fun b o e => by rw [← e3]; exact Heap.get?_push_of_some _ e
  have I4 : Inv (cxBlkC X ([x] ++ fr) scope x h3.objs.size { s2 with heap := h3 } H2 (s2.heap.objs.size :: fp)) [] (upS 1 js σ) H2 { s2 with heap := h1 } :=
    blk_startC fr js I2 B hk f2 fl rfl e3.symm rfl hns hcell k4
  have I3 : Inv X pins σ H2 { s2 with heap := h3 } := I2.kept (t' := s2.toks) k3
  have hz : h3.objs.size = s2.heap.objs.size + 1 := by rw [← e3, Heap.size_push]
  have hDl : s2.heap.objs.size ≠ h3.objs.size := by rw [hz]; exact Nat.ne_of_lt (Nat.lt_succ_self _)
  have hacc : h1.get? s2.heap.objs.size = some { cls := .type "list", data := .seq ([] : List Value).toArray } := k4 _ _ (by rw [← e3]; exact Heap.get?_push_size _ rfl)
  have fpC := (I3.fpOk (b := h3.objs.size) (Nat.le_refl _) (I3.hok.fresh (Nat.le_refl _))).2
  generalize eD : s2.heap.objs.size = D at *
  generalize eC : h3.objs.size = C at *
  have fD : ∀ b ∈ fp, D ≠ b := fun b hb => Nat.ne_of_gt (fl b hb)
  have look : ∀ y c, ((x, C + 1) :: closL X.env.cells scope.names []).lookup y = some c → c = C + 1 ∨ X.env.cells.lookup y = some c := fun y c e => by
    rw [List.lookup_cons] at e
    by_cases q : (y == x) = true
    · rw [q] at e
      exact .inl (Option.some.inj e).symm
    · rw [(Bool.not_eq_true _).mp q] at e
      exact .inr (closL_some e hasF)
  have hx : ∀ y c, ((x, C + 1) :: closL X.env.cells scope.names []).lookup y = some c → c ≠ D := fun y c e => by
    rcases look y c e with z | z
    · rw [z, hz]; exact Nat.ne_of_gt (Nat.lt_succ_of_lt (Nat.lt_succ_self _))
    · obtain ⟨v, q⟩ := I2.cell y c z
      rw [← eD]; exact Nat.ne_of_lt q.lt
  have hx2 : ∀ b ∈ fp, ∀ y c, ((x, C + 1) :: closL X.env.cells scope.names []).lookup y = some c → c ≠ b := fun b hb y c e => by
    rcases look y c e with z | z
    · rw [z, hz]; exact Nat.ne_of_gt (Nat.lt_succ_of_lt (Nat.lt_succ_of_lt (fl b hb)))
    · exact (f2 b hb).2.2.2.2.1 y c z
  have nfs : ∀ b ∈ D :: fp, b ∉ frs X.stack := I4.ok.exfs
  -- the footprint within the block
  have fpB : ∀ {pins' : List (Addr × Obj)} {H' : Hp} {b : Addr}, b ∈ fp → H' b = none → (∀ p ∈ pins', p.1 ≠ b) → FpOk (cxBlkC X ([x] ++ fr) scope x C { s2 with heap := h3 } H2 (D :: fp)) pins' H' b := fun {pins' H' b} hb hn hp =>
    ⟨hn, (I4.ok.exf b (List.mem_cons_of_mem _ hb)).1, nfs b (List.mem_cons_of_mem _ hb), .inl (List.mem_cons_of_mem _ hb), fun x c e => hx2 b hb x c e, fun p h => hp p (by simpa using h)⟩
  have fpD : ∀ {pins' : List (Addr × Obj)} {H' : Hp}, H' D = none → (∀ p ∈ pins', p.1 ≠ D) → FpOk (cxBlkC X ([x] ++ fr) scope x C { s2 with heap := h3 } H2 (D :: fp)) pins' H' D := fun {pins' H'} hn hp =>
    ⟨hn, hDl, nfs D List.mem_cons_self, .inl List.mem_cons_self, fun x c e => hx x c e, fun p h => hp p (by simpa using h)⟩
  have loop : ∀ s4 : Shared, s4 = { s2 with heap := h1 } →
      codeAny (model X.prog X.w) X.A (.compLoop (.ListComp elt [⟨tg, iter, ifs, 0⟩] scope pos) 0 (.ref it) (.ref D) (compEnvC scope ((x, C + 1) :: closL X.env.cells scope.names []) C X.env))
        (compPost (model X.prog X.w) X.A X.xe (some (assign (.Name yt py) X.env)) (fun _ s' => ∃ σ' H', Inv X pins σ' H' s' ∧ Dn.nx σ' H') (.ref D) C) s4 := by
    intro s4 e4
    refine blk_loop (fun n s' => ∃ i ys its H', ∃ z : Nat, Inv (cxBlkC X ([x] ++ fr) scope x C { s2 with heap := h3 } H2 (D :: fp)) [] (upS 1 js σ) H' s' ∧ tn i s'.heap ∧ (∀ b ∈ fp, H' b = none) ∧ H' D = none ∧
      s'.heap.get? D = some { cls := .type "list", data := .seq (its : List Value).toArray z } ∧ Vals ys its ∧ W i n ys H') ?_ m0 ?_
    · rintro n s5 ⟨i, ys, its, H5, z5, I5, st5, fr5, hD5, ho5, rv5, w5⟩
      have I5' := I5.pinned (fp := [D]) (fun b hb => by rw [List.mem_singleton.mp hb]; exact fpD hD5 (fun p hp => absurd hp (by simp))) (fun b hb => by
        rw [List.mem_singleton.mp hb]; exact ⟨_, ho5, fun v q => nomatch q⟩)
      have pD : ∀ p ∈ [] ++ pinsAt [D] s5.heap, p.1 = D := fun p hp => by
        rw [List.nil_append] at hp
        exact List.mem_singleton.mp (of_pinsAt hp).1
      have mD : (D, ({ cls := .type "list", data := .seq its.toArray z5 } : Obj)) ∈ [] ++ pinsAt [D] s5.heap := by
        rw [List.nil_append]; exact mem_pinsAt (List.mem_singleton.mpr rfl) ho5
      have fp5 : ∀ {H' : Hp}, (∀ b ∈ fp, H' b = none) → ∀ b ∈ fp, FpOk (cxBlkC X ([x] ++ fr) scope x C { s2 with heap := h3 } H2 (D :: fp)) ([] ++ pinsAt [D] s5.heap) H' b := fun hn b hb => fpB hb (hn b hb) fun p hp => by
        rw [pD p hp]; exact fD b hb
      rcases turn i n ys H5 w5 with ⟨stop, hlen, q⟩ | ⟨go, N, hN, step⟩
      · refine thn (T.done (cxBlkC X ([x] ++ fr) scope x C { s2 with heap := h3 } H2 (D :: fp)) rfl rfl rfl hc i _ s5 _ H5 _ I5' (fp5 fr5) st5 stop) fun r s6 ⟨hr, I6⟩ => ?_
        subst hr
        obtain ⟨m6, hn6, _⟩ := I6.loc
        obtain ⟨o6, nD6, _⟩ := I6.pin (D, _) (List.mem_append_right _ mD)
        have k7 : ∀ b o, b ≠ C → s6.heap.get? b = some o → s6.heap.get? b = some o := fun b o _ e => e
        have J0 : Inv X pins σ (upd H5 D (.lst ys)) s6 := by
          refine I3.call' (s' := s6) (ch := D :: fp) I6.os (un_track (un_but I6.base (Nat.le_of_eq eC) k7) List.mem_cons_self (I2.hok.fresh ?_)) (hok_track (hok_but I6.hok I6.free k7) nD6 ⟨hlen, its, z5, rv5, k7 D _ hDl o6⟩) I6.bare fun b hb => ?_
          · rw [← eD]; exact Nat.le_refl _
          · rcases List.mem_cons.mp hb with y | hb
            · subst y
              refine ⟨.inr (by rw [← eD]; exact I2.sz), by rw [← eD]; exact Nat.ne_of_gt I2.lt, fun x c e => ?_, fun p hp => ?_⟩
              · obtain ⟨v, q⟩ := I2.cell x c e
                rw [← eD]; exact Nat.ne_of_lt q.lt
              · rw [← eD]; exact Nat.ne_of_lt (Heap.lt_size (I2.pin p hp).1)
            · obtain ⟨_, g1, _, g3, g4, g5⟩ := f2 b hb
              exact ⟨g3, g1, g4, g5⟩
        obtain ⟨oC, eoC, dC⟩ : ∃ o, s6.heap.get? C = some o ∧ ∀ v, o.data ≠ .cell v := by
          obtain ⟨o, es, ep, ho, hd, _⟩ := hn6
          exact ⟨o, ho, fun v z => by rw [hd] at z; cases z⟩
        have hC0 : (upd H5 D (.lst ys)) C = none := by
          rw [upd_ne (Ne.symm hDl)]; exact I6.free
        have J1 := J0.pinned (fp := [C]) (fun b hb => by rw [List.mem_singleton.mp hb]; exact ⟨hC0, fpC⟩) (fun b hb => by rw [List.mem_singleton.mp hb]; exact ⟨oC, eoC, dC⟩)
        have mC : (C, oC) ∈ pins ++ pinsAt [C] s6.heap := List.mem_append_right _ (mem_pinsAt (List.mem_singleton.mpr rfl) eoC)
        refine thn (hg2 _ s6 σ _ (.ref D) (.ref D) _ J1 rfl (q D nD6)) fun _ s8 ⟨σ8, H8, I8, q8⟩ => ?_
        obtain ⟨e8, n8, _⟩ := I8.pin (C, oC) (List.mem_append_right _ mC)
        refine ⟨m6, ?_, fun h9 hs9 => ⟨σ8, H8, ?_, q8⟩⟩
        · obtain ⟨o, es, ep, ho, r⟩ := hn6
          have ho' : s6.heap.get? C = some o := ho
          rw [eoC] at ho'; cases ho'
          exact ⟨oC, es, ep, e8, r⟩
        · obtain ⟨g1, _, g3, g4, g5⟩ := fpC
          exact (I8.unpinned).turned (t' := s8.toks) (it := C) (fun b o hb e => hs9.extBut b o hb e) n8 g1 g3 g4 g5
      · refine thn (T.item (cxBlkC X ([x] ++ fr) scope x C { s2 with heap := h3 } H2 (D :: fp)) rfl rfl rfl hc i _ s5 _ H5 _ I5' (fp5 fr5) st5 go) fun r s6 ⟨u, hr, h6⟩ => ?_
        subst hr
        refine thn h6 fun _ s7 ⟨x7, H7, I7, r7, y7, st7, fr7⟩ => ?_
        have I7' := I7.pinned (fp5 fr7) (T.obj _ _ st7)
        refine thn (hg _ _ _ _ _ s7 _ H7 x7 u _ I7' r7 (step x7 H7 y7)) fun _ s8 ⟨σ8, H8, I8, hd8, q8⟩ => ?_
        refine thn (hf _ _ _ _ _ s8 σ8 H8 _ I8 q8) fun ok s9 ⟨H9, I9, q9⟩ => ?_
        have weak : ∀ {H' : Hp} {s' : Shared}, Inv (cxBlkC X ([x] ++ fr) scope x C { s2 with heap := h3 } H2 (D :: fp)) (([] ++ pinsAt [D] s5.heap) ++ pinsAt fp s7.heap) σ8 H' s' →
            Inv (cxBlkC X ([x] ++ fr) scope x C { s2 with heap := h3 } H2 (D :: fp)) [] (upS 1 js σ) H' s' := fun {H' s'} J => by
          refine (J.unpinned).unpinned.weak (I5.len.trans J.len.symm) fun k v e => ?_
          obtain ⟨hn, e1, _⟩ := upS_drop e
          rw [← hd8, List.getElem?_drop] at e1
          rw [← e1]
          congr 1
          omega
        have mF : ∀ b ∈ fp, ∀ o, s7.heap.get? b = some o → (b, o) ∈ ([] ++ pinsAt [D] s5.heap) ++ pinsAt fp s7.heap := fun b hb o e => List.mem_append_right _ (mem_pinsAt hb e)
        have mD' := List.mem_append_left (pinsAt fp s7.heap) mD
        have frB : ∀ {H' : Hp} {s' : Shared}, Inv (cxBlkC X ([x] ++ fr) scope x C { s2 with heap := h3 } H2 (D :: fp)) (([] ++ pinsAt [D] s5.heap) ++ pinsAt fp s7.heap) σ8 H' s' → ∀ b ∈ fp, H' b = none := fun {H' s'} J b hb => by
          obtain ⟨o, e, _⟩ := T.obj _ _ st7 b hb
          exact (J.pin (b, o) (List.mem_append_right _ (mF b hb o e))).2.1
        cases ok with
        | false =>
          have q9' : N ys H9 := by simpa using q9
          obtain ⟨m', hm, w'⟩ := hN _ _ q9'
          obtain ⟨o9, nD9, _⟩ := I9.pin (D, _) (List.mem_append_right _ mD')
          exact ⟨m', hm, i + 1, ys, its, H9, z5, weak I9, T.keep _ _ _ st7 fun b hb o e => (I9.pin (b, o) (List.mem_append_right _ (mF b hb o e))).1, frB I9, nD9, o9, rv5, w'⟩
        | true =>
          have q9' : te σ8 H9 fun y H6 => ys.length < sizeLine ∧ N (ys ++ [y]) H6 := by simpa using q9
          refine thn (he _ _ _ _ _ s9 σ8 H9 _ I9 q9') fun yv s10 ⟨y, H10, I10, r10, hlt, w10⟩ => ?_
          obtain ⟨m', hm, w'⟩ := hN _ _ w10
          obtain ⟨o10, nD10, _⟩ := I10.pin (D, _) (List.mem_append_right _ mD')
          refine wpAny_list_append_plain (l := D) (items := its.toArray) (hsz := by rw [List.size_toArray, ← rv5.length]; exact Nat.le_of_lt hlt) ⟨_, o10⟩ fun h11 hl11 hs11 => ?_
          obtain ⟨z11, e11⟩ := hl11
          refine ⟨m', hm, i + 1, ys ++ [y], its ++ [yv], H10, z11, ?_, T.keep _ _ _ st7 fun b hb o e => hs11.extBut b o (Ne.symm (fD b hb)) (I10.pin (b, o) (List.mem_append_right _ (mF b hb o e))).1, frB I10, nD10, ?_, rv5.append (.cons r10 .nil), w'⟩
          · exact (weak I10).turned (t' := s10.toks) (it := D) (fun b o hb e => hs11.extBut b o hb e) nD10 hDl (.inl List.mem_cons_self) (fun x c e => hx x c e) fun p hp => absurd (show p ∈ ([] : List (Addr × Obj)) from hp) (by simp)
          · rw [e11]; simp
    · subst e4
      exact ⟨0, [], [], H2, 0, I4, T.keep _ _ _ st2 fun b hb o e => k4 b o (k3 b o e), fun b hb => (f2 b hb).1, I2.hok.fresh (by rw [← eD]; exact Nat.le_refl _), hacc, .nil, w0⟩
  exact codeAny_compStart_list (loop _ rfl) (T.self X.A 0 _ _ _ (T.keep _ _ _ st2 fun b hb o e => k4 b o (k3 b o e)) (loop _ rfl))
theorem ps_lcX {px : Pos} {yt : Str} {py spos : Pos} {g2 : TG} (fr : List Str) (js : List Nat) (hc : X.calm = true) (hk : scope.kind = .function) (hb : blkOkC scope.names X.env.scope.names X.N x fr js = true) (hi : PI X (.Name x px) iter wi)
    (hf : ∀ C s H ex, PF (cxBlkC X ([x] ++ fr) scope x C s H ex) ifs tf) (he : ∀ C s H ex, PE (cxBlkC X ([x] ++ fr) scope x C s H ex) elt te)
    (hg2 : PG X (.Name yt py) g2) (hsw : swapsWith (.ListComp elt [⟨.Name x px, iter, ifs, 0⟩] scope pos) (some (.Name yt py)) spos.line X.env = pure true := by rfl)
    (hs : ∀ x, foldedSetIterable iter X.env x = pure x := by intro _; rfl) : PS X (.Assign [.Name yt py] (.ListComp elt [⟨.Name x px, iter, ifs, 0⟩] scope pos) spos) (tAsg (tLC wi 1 js (gName 0) tf te) g2) := by
  have B := blkOkC_of hb
  refine ps_lcC fr js hc hk hb hi (fun C s H ex => ?_) hf he hg2 hsw hs
  have lk : (compEnvC scope ((x, C + 1) :: closL X.env.cells scope.names []) C X.env).scope.names.lookup x = some .cell := relab_cell B.lk
  exact pg_name (X := cxBlkC X ([x] ++ fr) scope x C s H ex) B.nd rfl (.inr lk) (.inl (by show (x == x) = true; simp))
variable {y : Str} {px py tp : Pos} {kk : Nat}
end
end L2

set_option Elab.async false
set_option linter.all false
set_option maxRecDepth 100000
set_option maxHeartbeats 4000000
namespace L2
open PySem PySem.Spec PyProof.Rows
/-! the places of a set's table -/
def Up (xs : Array Nat) : Prop := xs.toList.Pairwise (· < ·)
theorem Up.lt {xs : Array Nat} (h : Up xs) {i j : Nat} {a b : Nat} (hi : xs[i]? = some a) (hj : xs[j]? = some b) (hij : i < j) : a < b := by
  have h1 := Array.getElem?_eq_some_iff.mp hi
  have h2 := Array.getElem?_eq_some_iff.mp hj
  obtain ⟨l1, e1⟩ := h1
  obtain ⟨l2, e2⟩ := h2
  have := List.pairwise_iff_getElem.mp h i j (by simpa using l1) (by simpa using l2) hij
  simpa [e1, e2] using this
theorem below_go (xs : Array Nat) (j : Nat) : ∀ (fuel lo hi : Nat), hi - lo ≤ fuel → lo ≤ hi → hi ≤ xs.size → Up xs → (∀ i a, i < lo → xs[i]? = some a → a < j) → (∀ i a, hi ≤ i → xs[i]? = some a → j ≤ a) →
    SetTable.below.go xs j fuel lo hi ≤ xs.size ∧ (∀ i a, i < SetTable.below.go xs j fuel lo hi → xs[i]? = some a → a < j) ∧ ∀ i a, SetTable.below.go xs j fuel lo hi ≤ i → xs[i]? = some a → j ≤ a
  | 0, lo, hi, h1, h2, h3, u, a1, a2 => by
    have e : hi = lo := by omega
    subst e
    exact ⟨h3, a1, a2⟩
  | fuel + 1, lo, hi, h1, h2, h3, u, a1, a2 => by
    unfold SetTable.below.go
    by_cases c : lo < hi
    · rw [if_pos c]
      dsimp only
      have hm : (lo + hi) / 2 < xs.size := by omega
      have em : xs[(lo + hi) / 2]? = some (xs[(lo + hi) / 2]'hm) := Array.getElem?_eq_getElem hm
      have eg : xs.getD ((lo + hi) / 2) j = xs[(lo + hi) / 2]'hm := by rw [Array.getD_eq_getD_getElem?, em]; rfl
      rw [eg]
      by_cases d : xs[(lo + hi) / 2]'hm < j
      · rw [if_pos d]
        refine below_go xs j fuel _ hi (by omega) (by omega) h3 u (fun i a hi' e => ?_) a2
        by_cases q : i = (lo + hi) / 2
        · subst q; rw [em] at e; cases e; exact d
        · have := u.lt e em (by omega)
          omega
      · rw [if_neg d]
        refine below_go xs j fuel lo _ (by omega) (by omega) (by omega) u a1 fun i a hi' e => ?_
        by_cases q : i = (lo + hi) / 2
        · subst q; rw [em] at e; cases e; omega
        · have := u.lt em e (by omega)
          omega
    · rw [if_neg c]
      have e : hi = lo := by omega
      subst e
      exact ⟨h3, a1, a2⟩
theorem below_of {xs : Array Nat} (u : Up xs) (j : Nat) : SetTable.below xs j ≤ xs.size ∧ (∀ i a, i < SetTable.below xs j → xs[i]? = some a → a < j) ∧ ∀ i a, SetTable.below xs j ≤ i → xs[i]? = some a → j ≤ a := by
  unfold SetTable.below
  exact below_go xs j xs.size 0 xs.size (by omega) (Nat.zero_le _) (Nat.le_refl _) u (fun i a h => absurd h (Nat.not_lt_zero _)) fun i a h e => absurd (Array.getElem?_eq_some_iff.mp e).1 (by omega)
theorem below_eq {xs : Array Nat} (u : Up xs) {i : Nat} {j : Nat} (hi : i ≤ xs.size) (h1 : ∀ k a, k < i → xs[k]? = some a → a < j) (h2 : ∀ k a, i ≤ k → xs[k]? = some a → j ≤ a) : SetTable.below xs j = i := by
  obtain ⟨b1, b2, b3⟩ := below_of u j
  by_cases c : SetTable.below xs j < i
  · have hl : SetTable.below xs j < xs.size := by omega
    have e := Array.getElem?_eq_getElem hl
    have := h1 _ _ c e
    have := b3 _ _ (Nat.le_refl _) e
    omega
  · by_cases d : i < SetTable.below xs j
    · have hl : i < xs.size := by omega
      have e := Array.getElem?_eq_getElem hl
      have := b2 _ _ d e
      have := h2 _ _ (Nat.le_refl _) e
      omega
    · omega
theorem up_insert {xs : Array Nat} (u : Up xs) {j : Nat} (hn : xs[SetTable.below xs j]? ≠ some j) : Up (SetTable.insertAt xs (SetTable.below xs j) j) := by
  obtain ⟨b1, b2, b3⟩ := below_of u j
  unfold Up SetTable.insertAt
  generalize SetTable.below xs j = p at *
  have el : ((xs.extract 0 p).push j ++ xs.extract p xs.size).toList = xs.toList.take p ++ (j :: xs.toList.drop p) := by
    simp [Array.toList_extract, List.extract_eq_drop_take]
    exact List.take_of_length_le (by simp)
  rw [el, List.pairwise_append]
  have u' : xs.toList.Pairwise (· < ·) := u
  refine ⟨u'.sublist (List.take_sublist _ _), List.pairwise_cons.mpr ⟨fun a ha => ?_, u'.sublist (List.drop_sublist _ _)⟩, fun a ha b hb => ?_⟩
  · obtain ⟨k, hk, e⟩ := List.mem_drop_iff_getElem.mp ha
    have e' : xs[k + p]? = some a := by rw [← Array.getElem?_toList, List.getElem?_eq_some_iff]; exact ⟨by omega, by rw [← e]; congr 1; omega⟩
    have := b3 (k + p) a (by omega) e'
    by_cases q : k = 0
    · subst q
      rw [Nat.zero_add] at e'
      exact Nat.lt_of_le_of_ne this fun z => hn (by rw [e', z])
    · have hp : p < xs.size := by rw [Array.length_toList] at hk; omega
      have := b3 p _ (Nat.le_refl _) (Array.getElem?_eq_getElem hp)
      have := u.lt (Array.getElem?_eq_getElem hp) e' (by omega)
      omega
  · obtain ⟨k, hk, e⟩ := List.mem_take_iff_getElem.mp ha
    have e' : xs[k]? = some a := by rw [← Array.getElem?_toList, List.getElem?_eq_some_iff]; exact ⟨by omega, e⟩
    have ha' := b2 k a (by omega) e'
    rcases List.mem_cons.mp hb with z | z
    · rw [z]; exact ha'
    · obtain ⟨k2, hk2, e2⟩ := List.mem_drop_iff_getElem.mp z
      have e2' : xs[k2 + p]? = some b := by rw [← Array.getElem?_toList, List.getElem?_eq_some_iff]; exact ⟨by omega, by rw [← e2]; congr 1; omega⟩
      have := b3 (k2 + p) b (by omega) e2'
      omega
end L2

set_option Elab.async false
set_option linter.all false
set_option maxRecDepth 100000
set_option maxHeartbeats 4000000
namespace L2
open PySem PySem.Spec PyProof.Rows
structure TabOk (b : Bool) (t : SetTable) : Prop where
  up : Up t.place
  no : t.dummies = #[]
  led : t.led = b
theorem has_none (j : Nat) : SetTable.has #[] j = false := by
  unfold SetTable.has
  rw [show (#[] : Array Nat)[SetTable.below #[] j]? = none from Array.getElem?_eq_none (by simp)]
  rfl
theorem slot_none {t : SetTable} (h : t.dummies = #[]) (j : Nat) : (t.slot j = .empty ∧ t.place[SetTable.below t.place j]? ≠ some j) ∨ ∃ i, t.slot j = .live i := by
  unfold SetTable.slot
  rw [h, has_none]
  dsimp only
  by_cases c : (t.place[SetTable.below t.place j]? == some j) = true
  · rw [if_pos c]
    exact .inr ⟨_, rfl⟩
  · rw [if_neg c, if_neg Bool.false_ne_true]
    exact .inl ⟨rfl, fun z => c (by rw [z]; simp)⟩
theorem advance_dummy (t : SetTable) (p : SetTable.Probe) : (t.advance p).dummy = p.dummy := by
  unfold SetTable.advance
  split
  · rfl
  · rfl
theorem probe_empty {t : SetTable} (hd : t.dummies = #[]) {f : Nat → Int} {h : Int} : ∀ (fuel : Nat) (p : SetTable.Probe) (j : Nat) (d : Option Nat), SetTable.probe.go t f h fuel p = some (.empty j d) → t.place[SetTable.below t.place j]? ≠ some j ∧ d = p.dummy
  | 0, p, j, d, e => by unfold SetTable.probe.go at e; cases e
  | fuel + 1, p, j, d, e => by
    unfold SetTable.probe.go at e
    rcases slot_none hd p.j with ⟨c1, c2⟩ | ⟨i, c⟩
    · rw [c1] at e
      cases e
      exact ⟨c2, rfl⟩
    · rw [c] at e
      dsimp only at e
      split at e
      · cases e
      · have := probe_empty hd fuel _ j d e
        rw [advance_dummy] at this
        exact this
theorem free_ok {t : SetTable} (hd : t.dummies = #[]) {h : Int} {s : Nat} {w : Bool} (e : t.freeSlot h = some (s, w)) : t.place[SetTable.below t.place s]? ≠ some s := by
  unfold SetTable.freeSlot SetTable.probe at e
  split at e
  · rename_i j d q
    obtain ⟨h1, h2⟩ := probe_empty hd _ _ _ _ q
    cases (show d = none from h2)
    cases e
    exact h1
  · cases e
theorem up_range (n : Nat) : Up (Array.range n) := by
  unfold Up
  rw [Array.toList_range]
  exact List.pairwise_lt_range
theorem TabOk.stand {b : Bool} {t : SetTable} (h : TabOk b t) (n : Nat) : TabOk b (t.standIn n) := ⟨up_range n, rfl, h.led⟩
theorem TabOk.plain {b p : Bool} {t : SetTable} (h : TabOk b t) : TabOk b { t with plain := p } := ⟨h.up, h.no, h.led⟩
theorem TabOk.or {b : Bool} {t : SetTable} (h : TabOk b t) (n : Nat) : TabOk b (t.orStandIn n) := by
  unfold SetTable.orStandIn
  split
  · exact h
  · exact h.stand n
theorem TabOk.layNew {b : Bool} {t : SetTable} (h : TabOk b t) (es : Array (Int × Value)) (k : Int) (x : Value) : TabOk b (layNew t es k x).2.1 := by
  unfold PySem.layNew
  split
  · rename_i slot w e
    have hp : TabOk b (t.put slot).1 := ⟨up_insert h.up (free_ok h.no e), by
      show (if SetTable.has t.dummies slot = true then _ else t.dummies) = #[]
      rw [h.no, has_none]
      rfl, h.led⟩
    exact hp.or _
  · exact h.stand _
theorem up_live {α : Type} (m : Nat) (f : Nat → Option α) : (((List.range m).filterMap fun j => (f j).map (j, ·)).map (·.1)).Pairwise (· < ·) := by
  have hs : ∀ l : List Nat, ((l.filterMap fun j => (f j).map (j, ·)).map (·.1)).Sublist l := fun l => by
    induction l with
    | nil => exact .slnil
    | cons x l ih =>
      rw [List.filterMap_cons]
      cases f x with
      | none => exact ih.cons _
      | some y => exact ih.cons₂ _
  exact List.Pairwise.sublist (hs _) List.pairwise_lt_range
theorem TabOk.relay {b : Bool} {t : SetTable} (h : TabOk b t) (es : Array (Int × Value)) (n : Nat) : TabOk b (relayAll t es n).2.1 := by
  unfold relayAll
  split
  · rename_i t' order e
    dsimp only
    split
    · unfold SetTable.relaid SetTable.laid at e
      obtain ⟨owner, _, e2⟩ := Option.bind_eq_some_iff.mp e
      cases e2
      refine ⟨?_, rfl, h.led⟩
      exact up_live _ fun j => owner.getD j none
    · exact h.stand _
  · exact h.stand _
theorem TabOk.fresh (b : Bool) : TabOk b (.fresh 0 0 b) := ⟨List.Pairwise.nil, rfl, rfl⟩
end L2

set_option Elab.async false
set_option linter.all false
set_option maxRecDepth 100000
set_option maxHeartbeats 4000000
namespace L2
open PySem PySem.Spec PyProof.Rows
theorem nodup_end {α : Type} {l : List α} {x : α} (h : l.Nodup) (hx : x ∉ l) : (l ++ [x]).Nodup := by
  rw [List.nodup_append]
  exact ⟨h, by simp, fun a ha b hb e => hx (by rw [List.mem_singleton] at hb; rw [← hb, ← e]; exact ha)⟩
theorem paired_perm {α β : Type} {R : α → β → Prop} {ys ys' : List β} (p : ys'.Perm ys) : ∀ {xs : List α}, Paired R xs ys → ∃ xs', xs'.Perm xs ∧ Paired R xs' ys' := by
  induction p with
  | nil => intro xs h; exact ⟨xs, .refl _, h⟩
  | cons y _ ih =>
    intro xs h
    cases h with
    | cons r t =>
      obtain ⟨xs', p', h'⟩ := ih t
      exact ⟨_ :: xs', p'.cons _, .cons r h'⟩
  | swap y z l =>
    intro xs h
    cases h with
    | cons r t =>
      cases t with
      | cons r2 t2 => exact ⟨_, .swap _ _ _, .cons r2 (.cons r t2)⟩
  | trans _ _ ih1 ih2 =>
    intro xs h
    obtain ⟨x1, p1, h1⟩ := ih2 h
    obtain ⟨x2, p2, h2⟩ := ih1 h1
    exact ⟨x2, p2.trans p1, h2⟩
theorem paired_app {α β : Type} {R : α → β → Prop} {x : α} {y : β} (r : R x y) : ∀ {xs : List α} {ys : List β}, Paired R xs ys → Paired R (xs ++ [x]) (ys ++ [y])
  | _, _, .nil => .cons r .nil
  | _, _, .cons h t => .cons h (paired_app r t)
theorem paired_mem {α β : Type} {R : α → β → Prop} : ∀ {xs : List α} {ys : List β}, Paired R xs ys → (∀ x ∈ xs, ∃ y ∈ ys, R x y) ∧ ∀ y ∈ ys, ∃ x ∈ xs, R x y
  | _, _, .nil => ⟨fun x h => (nomatch h), fun y h => (nomatch h)⟩
  | _, _, .cons h t => by
    obtain ⟨a, b⟩ := paired_mem t
    refine ⟨fun x hx => ?_, fun y hy => ?_⟩
    · rcases List.mem_cons.mp hx with z | z
      · rw [z]; exact ⟨_, List.mem_cons_self, h⟩
      · obtain ⟨y, hy, r⟩ := a x z
        exact ⟨y, List.mem_cons_of_mem _ hy, r⟩
    · rcases List.mem_cons.mp hy with z | z
      · rw [z]; exact ⟨_, List.mem_cons_self, h⟩
      · obtain ⟨x, hx, r⟩ := b y z
        exact ⟨x, List.mem_cons_of_mem _ hx, r⟩
section
variable {prog : Program} {w : World} {K : Type} [DecidableEq K] (knd : KeyKind prog w K)
def ElX (es : List (Int × Value)) (ks : List K) : Prop := ElemsOf knd es ∧ ∃ ks', ks'.Perm ks ∧ Paired (fun k (e : Int × Value) => knd.is k e.2 = true) ks' es
def ObX (b : Bool) (o : Obj) (ks : List K) : Prop := ∃ es ep t, o.ExactSet ∧ o.data = .set es ep t ∧ ElX knd es.toList ks ∧ ks.Nodup ∧ es.size < scanBound ∧ t.fits es.size = true ∧ TabOk b t
def SetX (b : Bool) (h : Heap) (a : Addr) (ks : List K) : Prop := ∃ o, h.get? a = some o ∧ ObX knd b o ks
variable {knd}
theorem ElX.perm {es es' : List (Int × Value)} {ks : List K} (h : ElX knd es ks) (p : es'.Perm es) : ElX knd es' ks := by
  obtain ⟨h1, ks', p', pr⟩ := h
  obtain ⟨ks2, p2, pr2⟩ := paired_perm p pr
  exact ⟨h1.perm p, ks2, p2.trans p', pr2⟩
theorem ElX.len {es : List (Int × Value)} {ks : List K} (h : ElX knd es ks) : es.length = ks.length := by
  obtain ⟨_, ks', p', pr⟩ := h
  rw [← p'.length_eq]
  exact (Paired.length pr).symm
theorem ElX.mem {es : List (Int × Value)} {ks : List K} (h : ElX knd es ks) (k : K) : k ∈ ks ↔ ∃ e ∈ es, knd.is k e.2 = true := by
  obtain ⟨_, ks', p', pr⟩ := h
  obtain ⟨a, b⟩ := paired_mem pr
  rw [← p'.mem_iff]
  refine ⟨a k, fun ⟨e, he, r⟩ => ?_⟩
  obtain ⟨k', hk, r'⟩ := b e he
  rwa [knd.inj _ _ _ r r']
theorem ElX.snoc {es : List (Int × Value)} {ks : List K} (h : ElX knd es ks) {k : K} {x : Value} (hk : knd.is k x = true) (hx : x.scannable = true) : ElX knd (es ++ [(knd.hash k, x)]) (ks ++ [k]) := by
  obtain ⟨h1, ks', p', pr⟩ := h
  exact ⟨h1.push hk hx, ks' ++ [k], p'.append_right _, paired_app (R := fun k (e : Int × Value) => knd.is k e.2 = true) hk pr⟩
theorem SetX.at {b : Bool} {h h' : Heap} {a : Addr} {ks : List K} (x : SetX knd b h a ks) (k : ∀ o, h.get? a = some o → h'.get? a = some o) : SetX knd b h' a ks := let ⟨o, e, r⟩ := x; ⟨o, k o e, r⟩
variable {A : Around} {E : Value → Shared → Prop} {s : Shared}
theorem putX {b : Bool} {h : Heap} {a : Addr} {o : Obj} {es : Array (Int × Value)} {ep : Nat} {t : SetTable} (ho : h.get? a = some o) (hex : o.ExactSet) (hd : o.data = .set es ep t) {es' : Array (Int × Value)} {t' : SetTable} {ks : List K} (el : ElX knd es'.toList ks) (nd : ks.Nodup)
    (hb : es'.size < scanBound) (hf : t'.fits es'.size = true) (tb : TabOk b t') : ∃ o', (h.update a (Obj.putSet es' t')).get? a = some o' ∧ o'.ExactSet ∧ o'.data = .set es' (ep + 1) t' ∧ ObX knd b o' ks := by
  have g := Heap.get?_update_self (Obj.putSet es' t') ho (by rw [putSet_of es' t' hd]; rfl)
  rw [putSet_of es' t' hd] at g
  exact ⟨_, g, hex, rfl, es', ep + 1, t', hex, rfl, el, nd, hb, hf, tb⟩
theorem tailX {b : Bool} {g : Bool → Sem Unit} (hg : ∀ (c : Bool) (s1 : Shared) (Q' : Unit → Shared → Prop), Q' () s1 → wpAny (model prog w) A (g c) Q' E s1) {a : Addr} {o : Obj} {es : Array (Int × Value)} {ep : Nat} {t : SetTable} (ho : s.heap.get? a = some o) (hex : o.ExactSet)
    (hd : o.data = .set es ep t) {es1 : Array (Int × Value)} {t2 : SetTable} {ks : List K} (el : ElX knd es1.toList ks) (nd : ks.Nodup) (hb : es1.size < scanBound) (hf : t2.fits es1.size = true) (tb : TabOk b t2) {wasDummy : Bool} {R : Option Bool → Shared → Prop}
    (h : ∀ h', Heap.SameBut a s.heap h' → SetX knd b h' a ks → R (some true) { s with heap := h' }) :
    wpAny (model prog w) A (storeSet a es1 t2 >>= fun _ => if (!wasDummy && t2.tooFull) = true then g (relayAll t2 es1 (SetTable.grown es1.size)).2.2 >>= fun _ => storeSet a (relayAll t2 es1 (SetTable.grown es1.size)).1 (relayAll t2 es1 (SetTable.grown es1.size)).2.1 >>= fun _ => pure (some true) else pure (some true)) R E s := by
  obtain ⟨o1, g1, x1, d1, ob1⟩ := putX ho hex hd el nd hb hf tb
  have sb := Heap.SameBut.update s.heap a (Obj.putSet es1 t2)
  refine wpAny_bind (wpAny_storeSet_of ho hd ?_ (fits_of_scanBound hb))
  split
  · have pm := relayAll_perm t2 es1 (SetTable.grown es1.size)
    have ft := relayAll_fits t2 es1 (SetTable.grown es1.size)
    have tr := tb.relay es1 (SetTable.grown es1.size)
    have sz : (relayAll t2 es1 (SetTable.grown es1.size)).1.size = es1.size := by have := pm.length_eq; rwa [Array.length_toList, Array.length_toList] at this
    obtain ⟨o2, g2, x2, d2, ob2⟩ := putX g1 x1 d1 (el.perm pm) nd (by rw [sz]; exact hb) ft tr
    exact wpAny_bind (hg _ _ _ (wpAny_bind (wpAny_storeSet_of g1 d1 (wpAny_pure (h _ (sb.trans (Heap.SameBut.update _ a _)) ⟨o2, g2, ob2⟩)) (fits_of_scanBound (by rw [sz]; exact hb)))))
  · exact wpAny_pure (h _ sb ⟨o1, g1, ob1⟩)
theorem addX {b : Bool} {a : Addr} {ks : List K} {k : K} {x : Value} {Q : Bool → Shared → Prop} (hkey : knd.is k x = true) (hsc : x.scannable = true) (hS : SetX knd b s.heap a ks) (hroom : ks.length + 1 < scanBound)
    (h : ∀ h' c, Heap.SameBut a s.heap h' → SetX knd b h' a (if k ∈ ks then ks else ks ++ [k]) → Q c { s with heap := h' }) : wpAny (model prog w) A (setAddHashed a x (knd.hash k)) Q E s := by
  obtain ⟨o, ho, es, ep, t, hex, hd, el, nd, hb, hf, tb⟩ := hS
  have ln := el.len
  rw [Array.length_toList] at ln
  unfold setAddHashed setAddHashedIn; refine wpAny_holding (wpAny_bind (wpAny_setState_of ho hd hf ?_)); dsimp only
  rw [byScan_of hsc hb el.1, if_pos rfl]
  unfold setAddByScan
  refine wpAny_bind (wpAny_bind (wpAny_rule (wpAny_bind (wpAny_setScan_of hkey ho hd hf el.1 ?_))))
  cases hr : List.findIdx? (fun e => knd.is k e.2) es.toList with
  | some j =>
    obtain ⟨hj, hpj, _⟩ := List.findIdx?_eq_some_iff_getElem.mp hr
    have hk : k ∈ ks := (el.mem k).mpr ⟨_, List.getElem_mem hj, hpj⟩
    have := h s.heap false (Heap.SameBut.refl a s.heap) (by rw [if_pos hk]; exact ⟨o, ho, es, ep, t, hex, hd, el, nd, hb, hf, tb⟩)
    exact wpAny_pure (wpAny_pure this)
  | none =>
    have hk : k ∉ ks := fun z => by
      obtain ⟨e, he, r⟩ := (el.mem k).mp z
      have := List.findIdx?_eq_none_iff.mp hr e he
      rw [r] at this
      cases this
    rw [if_neg hk] at h
    have gw : ∀ (c : Bool) (s1 : Shared) (Q' : Unit → Shared → Prop), Q' () s1 → wpAny (model prog w) A (match c with | true => rule "set.scan.the-table-gave-way" | false => pure ()) Q' E s1 := fun c s1 Q' hq => by
      cases c
      · exact wpAny_pure hq
      · exact wpAny_rule hq
    have pm := layNew_perm t es (knd.hash k) x
    have ft := layNew_fits t es (knd.hash k) x
    have tn := tb.layNew es (knd.hash k) x
    generalize layNew t es (knd.hash k) x = L at pm ft tn
    obtain ⟨es1, t1, wd, gave⟩ := L
    dsimp only at pm ft tn ⊢
    rw [Array.toList_push] at pm
    have el1 : ElX knd es1.toList (ks ++ [k]) := (el.snoc hkey hsc).perm pm
    have l1 := el1.len
    rw [Array.length_toList, List.length_append] at l1
    have hb1 : es1.size < scanBound := by rw [l1]; exact hroom
    have nd1 : (ks ++ [k]).Nodup := nodup_end nd hk
    refine wpAny_bind (gw _ _ _ ?_)
    split
    · rw [hashByValue_scannable 8 hsc]
      refine wpAny_bind (wpAny_pure (tailX gw ho hex hd el1 nd1 hb1 ?_ ?_ fun h' sb sx => wpAny_pure (h h' true sb sx)))
      · split
        · exact ft
        · exact SetTable.fits_plain_off ft
      · split
        · exact tn
        · exact tn.plain
    · exact wpAny_bind (wpAny_pure (tailX gw ho hex hd el1 nd1 hb1 ft tn fun h' sb sx => wpAny_pure (h h' true sb sx)))
end
end L2

set_option Elab.async false
set_option linter.all false
set_option maxRecDepth 100000
set_option maxHeartbeats 4000000
namespace L2
open PySem PySem.Spec PyProof.Rows
def ledB (w : World) : Bool := !w.params.followText "set-order"
def setO (w : World) : Obj := { cls := .type "set", dict := none, data := .set #[] 0 (.fresh 0 0 (ledB w)) }
section
variable {K : Type} [DecidableEq K]
def addKy (ks : List K) (k : K) : List K := if k ∈ ks then ks else ks ++ [k]
def uniK (ks js : List K) : List K := js.foldl addKy ks
theorem addKy_len (ks : List K) (k : K) : (addKy ks k).length ≤ ks.length + 1 := by
  unfold addKy
  split
  · omega
  · rw [List.length_append]; exact Nat.le_refl _
theorem uniK_len : ∀ (js ks : List K), (uniK ks js).length ≤ ks.length + js.length
  | [], ks => Nat.le_refl _
  | j :: js, ks => by
    have h1 := uniK_len js (addKy ks j)
    have h2 := addKy_len ks j
    show (uniK (addKy ks j) js).length ≤ _
    rw [List.length_cons]
    omega
theorem uniK_mem : ∀ {js ks : List K} {x : K}, x ∈ uniK ks js ↔ x ∈ ks ∨ x ∈ js
  | [], ks, x => by simp [uniK]
  | j :: js, ks, x => by
    show x ∈ uniK (addKy ks j) js ↔ _
    rw [uniK_mem, List.mem_cons]
    unfold addKy
    split
    · rename_i h
      constructor
      · rintro (z | z)
        · exact .inl z
        · exact .inr (.inr z)
      · rintro (z | z | z)
        · exact .inl z
        · rw [z]; exact .inl h
        · exact .inr z
    · rw [List.mem_append, List.mem_singleton, or_assoc]
theorem uniK_drop {ks js : List K} {i : Nat} {k : K} (h : js[i]? = some k) : uniK (addKy ks k) (js.drop (i + 1)) = uniK ks (js.drop i) := by
  obtain ⟨h1, h2⟩ := List.getElem?_eq_some_iff.mp h
  rw [List.drop_eq_getElem_cons h1, h2]
  rfl
variable {prog : Program} {w : World} {knd : KeyKind prog w K} {A : Around} {R : Result → Shared → Prop} {it l S : Addr} {items : Array Value} {keys : List K} {b : Bool}
theorem su_loop (hh : A.handled = none) (hil : l ≠ it) (hlS : l ≠ S) (hiS : it ≠ S) (hlen : keys.length = items.size) (hat : ∀ (j : Nat) (u : Value), items[j]? = some u → ∃ k, keys[j]? = some k ∧ knd.is k u = true ∧ u.scannable = true) :
    ∀ (m : Nat) (s : Shared) (i : Nat) (ks : List K), items.size - i = m → i ≤ items.size → s.heap.IsListIter it l i → s.heap.IsList l items → SetX knd b s.heap S ks → ks.length + m + 1 < scanBound →
      (∀ h' tk, SetX knd b h' S (uniK ks (keys.drop i)) → (∀ c o, c ≠ it → c ≠ S → s.heap.get? c = some o → h'.get? c = some o) → R (.ok (.ret .none)) { s with heap := h', toks := tk }) →
      codeAny (model prog w) A (.builtin "set.update.loop" ⟨[.ref S, .ref it], []⟩) R s := by
  intro m
  induction m with
  | zero =>
    intro s i ks hm hi ii il sx hz q
    have hend : items[i]? = none := by simp; omega
    refine codeAny_builtin PyProof.Rows.F.entry_set_update_loop ?_
    rw [Around.under_plainId PyProof.Rows.F.plain_set_update_loop _]
    refine wpAny_bind (wpAny_pyNext_list_end hh ii il hend fun h' hx => wpAny_pure ?_)
    have e0 : uniK ks (keys.drop i) = ks := by rw [List.drop_eq_nil_of_le (by omega)]; rfl
    exact q h' s.toks (by rw [e0]; exact sx.at fun o e => hx S o (Ne.symm hiS) e) fun c o hc _ e => hx c o hc e
  | succ m ih =>
    intro s i ks hm hi ii il sx hz q
    have hlt : i < items.size := by omega
    obtain ⟨u, hu⟩ : ∃ u, items[i]? = some u := ⟨_, Array.getElem?_eq_getElem hlt⟩
    obtain ⟨k, ek, kk, sc⟩ := hat i u hu
    refine codeAny_builtin PyProof.Rows.F.entry_set_update_loop ?_
    rw [Around.under_plainId PyProof.Rows.F.plain_set_update_loop _]
    refine wpAny_bind (wpAny_pyNext_list_item ii il hu fun h1 i1 s1 => ?_)
    have k1 : ∀ c o, c ≠ it → s.heap.get? c = some o → h1.get? c = some o := fun c o hc e => (s1.2 c hc).trans e
    refine wpAny_bind (wpAny_holding (show wpAny _ _ (setAdd S u) _ _ _ from wpAny_holding (wpAny_bind (knd.pyHash kk ?_))))
    refine addX (s := { s with heap := h1, toks := s.toks + 1 }) kk sc (sx.at fun o e => k1 S o (Ne.symm hiS) e) (by omega) fun h2 c sb sx2 => ?_
    have k2 : ∀ c o, c ≠ it → c ≠ S → s.heap.get? c = some o → h2.get? c = some o := fun c o hc hc' e => (sb.2 c hc').trans (k1 c o hc e)
    have lk := addKy_len ks k
    refine wpAny_pure ⟨plainId_quiet PyProof.Rows.F.plain_set_update_loop _, ?_⟩
    refine ih { s with heap := h2, toks := s.toks + 1 } (i + 1) (addKy ks k) (by omega) hlt (i1.at fun o e => (sb.2 it hiS).trans e) (il.at fun o e => k2 l o hil hlS e) sx2 (by omega) fun h' tk sx' kp => ?_
    exact q h' tk (by rw [← uniK_drop ek]; exact sx') fun c o hc hc' e => kp c o hc hc' (k2 c o hc hc' e)
end
section
variable {prog : Program} {w : World} {A : Around} {E : Value → Shared → Prop} {s : Shared}
theorem type_by {T newId initId : String} {args : List Value} {Q Q1 : Value → Shared → Prop} (ft : TypeCalled T newId initId) (hct : checkTypeCall T ⟨args, []⟩ = pure ())
    (hnew : codeAny (model prog w) A.in1 (.call (.builtin newId) ⟨.type T :: args, []⟩) (wants Q1 E) s)
    (hnext : ∀ u s1, Q1 u s1 → s1.TypeIs u T ∧ codeAny (model prog w) A.in1 (.call (.builtin initId) ⟨u :: args, []⟩) (wants (fun r s2 => r = .none ∧ Q u s2) E) s1) :
    wpAny (model prog w) A (call (.type T) args) Q E s := by
  obtain ⟨c, tl, m1⟩ := ft.mro
  have m2 := ft.made
  have m3 := ft.sub
  have m4 := ft.notType
  have m5 := ft.canCreate
  refine wpAny_call (codeAny_of_tree (show wpAny _ _ (callAny (.type T) _) _ _ _ from wpAny_pure ⟨Code.quiet_builtin _ (by decide +kernel), codeAny_builtin F.entry_type_call ?_⟩))
  rw [Around.under_plain (weight_type_call_type T args []) rfl]
  repeat' (first | assumption | wp_step)
  refine codeAny_mono hnew fun r s1 hr => ?_
  match r, hr with
  | .error e, hr => exact hr
  | .ok (.ret u), hr =>
    obtain ⟨ty, ci⟩ := hnext _ _ hr
    have m6 := ft.init.lookup
    have m7 := ft.init.bind u
    repeat' (first | assumption | wp_step)
    refine codeAny_mono ci fun r2 s2 hr2 => ?_
    match r2, hr2 with
    | .error e, hr2 => exact hr2
    | .ok (.ret v), ⟨ev, hq⟩ =>
      subst ev
      repeat' (first | assumption | wp_step)
theorem new_setX (x : Value) {Q1 : Value → Shared → Prop} (h : Q1 (.ref s.heap.objs.size) { s with heap := s.heap.push (setO w) }) :
    codeAny (model prog w) A (.call (.builtin "set.__new__") ⟨[.type "set", x], []⟩) (wants Q1 E) s := by
  refine codeAny_call_builtin F.plain_set_new F.entry_set_new (wpAny_of_eq (F.newCall_set_1 x) ?_)
  unfold Builtin.«set.__new__» Builtin.Frozenset.newClass
  have m1 := sub_set_self
  obtain ⟨hp, g, d, tk, os⟩ := s
  dsimp only
  wp_walk
  refine wpAny_askSetting (wpAny_pure ?_)
  simp only [newObj]
  exact wpAny_bind (wpAny_alloc (wpAny_pure (wpAny_pure h)))
end
end L2

set_option Elab.async false
set_option linter.all false
set_option maxRecDepth 100000
set_option maxHeartbeats 4000000
namespace L2
open PySem PySem.Spec PyProof.Rows
section
variable {prog : Program} {w : World} {K : Type} [DecidableEq K] {knd : KeyKind prog w K} {A : Around} {E : Value → Shared → Prop} {s : Shared}
theorem setX_new (h : Heap) : SetX knd (ledB w) (h.push (setO w)) h.objs.size [] :=
  ⟨setO w, Heap.get?_push_size _ rfl, #[], 0, _, ⟨rfl, rfl, rfl⟩, rfl, ⟨fun e he => by simp at he, [], .refl _, .nil⟩, List.nodup_nil, by decide, rfl, TabOk.fresh _⟩
theorem call_setX {l : Addr} {items : Array Value} {n : Nat} {keys : List K} {Q : Value → Shared → Prop} (hh : A.handled = none) (hl : s.heap.get? l = some { cls := .type "list", data := .seq items n }) (hlen : keys.length = items.size) (hb : items.size + 1 < scanBound)
    (hat : ∀ (j : Nat) (u : Value), items[j]? = some u → ∃ k, keys[j]? = some k ∧ knd.is k u = true ∧ u.scannable = true)
    (h : ∀ h' tk, SetX knd (ledB w) h' s.heap.objs.size (uniK [] keys) → (∀ c o, s.heap.get? c = some o → h'.get? c = some o) → Q (.ref s.heap.objs.size) { s with heap := h', toks := tk }) :
    wpAny (model prog w) A (call (.type "set") [.ref l]) Q E s := by
  refine type_by (Q1 := fun u s1 => u = .ref s.heap.objs.size ∧ s1 = { s with heap := s.heap.push (setO w) }) F.called_set (F.typeCall_set_1 (.ref l)) (new_setX (.ref l) ⟨rfl, rfl⟩) fun u s1 e => ?_
  obtain ⟨eu, es⟩ := e
  subst eu es
  have hS : (s.heap.push (setO w)).get? s.heap.objs.size = some (setO w) := Heap.get?_push_size _ rfl
  have hT : Shared.TypeIs { s with heap := s.heap.push (setO w) } (.ref s.heap.objs.size) "set" := ⟨_, hS, rfl⟩
  have hl1 := Heap.get?_push_of_some (setO w) hl
  refine ⟨hT, codeAny_call_builtin F.called_set.init.plain F.entry_set_init (check_set_init_1 hT ?_)⟩
  have m1 := F.sub_list_set
  have m2 := F.sub_list_frozenset
  have m3 : (Value.type "list" == Value.type "dict") = false := by decide
  have hlS : l < s.heap.objs.size := Heap.lt_size hl
  unfold setO at hS hT hl1
  unfold Builtin.«set.__init__» noKeywords Builtin.Frozenset.updateFrom setO
  generalize hPI : pyIter = PI
  wp_walk
  subst hPI
  refine wpAny_pyIter_list ⟨_, hl1, rfl, n, rfl⟩ (wpAny_bind (wpAny_runValue ?_))
  have hh3 : A.in1.in1.in1.handled = none := by simp [hh]
  have sz : (s.heap.push (setO w)).objs.size = s.heap.objs.size + 1 := Heap.size_push ..
  have lt1 : ∀ c o, s.heap.get? c = some o → c < s.heap.objs.size := fun c o e => Heap.lt_size e
  refine su_loop (knd := knd) (b := ledB w) (A := A.in1.in1) (S := s.heap.objs.size) (it := (s.heap.push (setO w)).objs.size) (l := l) (items := items) (keys := keys) hh3 (by rw [sz]; exact Nat.ne_of_lt (Nat.lt_succ_of_lt hlS)) (Nat.ne_of_lt hlS) (by rw [sz]; exact Nat.ne_of_gt (Nat.lt_succ_self _)) hlen hat items.size
    ⟨(s.heap.push (setO w)).push { cls := .type "list_iterator", data := .fields #[.ref l, .int 0 0] }, s.gens, s.drawn, s.toks, s.os⟩ 0 [] rfl (Nat.zero_le _) ⟨_, Heap.get?_push_size _ rfl, rfl, rfl⟩ ⟨_, Heap.get?_push_of_some _ hl1, rfl, n, rfl⟩ ((setX_new s.heap).at fun o e => Heap.get?_push_of_some _ e) (by rw [List.length_nil]; omega) fun h' tk sx kp => ?_
  refine wpAny_pure (wpAny_pure ⟨rfl, h h' tk (by simpa using sx) fun c o e => ?_⟩)
  have := lt1 c o e
  exact kp c o (by rw [sz]; exact Nat.ne_of_lt (Nat.lt_succ_of_lt this)) (Nat.ne_of_lt this) (Heap.get?_push_of_some _ (Heap.get?_push_of_some _ e))
end
end L2

set_option Elab.async false
set_option linter.all false
set_option maxRecDepth 100000
set_option maxHeartbeats 4000000
namespace L2
open PySem PySem.Spec PyProof.Rows
theorem slot_si_next : Slot "set_iterator" "__next__" "set_iterator.__next__" :=
  .of (owner := "set_iterator") (n := "__next__") (by rw [typeLookup_type, builtinLookup_eq_fast]; kernel_rfl) (by decide +kernel) (by decide +kernel) (by decide +kernel)
    (by first | exact .inl (by decide +kernel) | exact .inr (by decide +kernel)) (by rw [isSubtype_type]; kernel_rfl)
theorem entry_si_next : entryFor table "set_iterator.__next__" = some Builtin.«set_iterator.__next__» := entryFor_of_tree (by kernel_rfl)
theorem args_si_next (x : Value) : argsOk "set_iterator.__next__" ⟨[x], []⟩ := by unfold argsOk; kernel_rfl
theorem slot_set_iter : Slot "set" (Str.ofString "__iter__") "set.__iter__" := PySem.F.slot_set_iter
theorem entry_set_iter : entryFor table "set.__iter__" = some Builtin.«frozenset.__iter__» :=
  entryFor_alias (id' := "frozenset.__iter__") (by kernel_rfl) (by first | rfl | decide +kernel) (by decide +kernel) (by kernel_rfl)
theorem args_set_iter (x : Value) : argsOk "set.__iter__" ⟨[x], []⟩ := by unfold argsOk; kernel_rfl
theorem erase_perm {α : Type} : ∀ (l : List α) (i : Nat) (h : i < l.length), (l[i] :: l.eraseIdx i).Perm l
  | x :: l, 0, _ => .refl _
  | x :: l, i + 1, h => by
    have := erase_perm l i (by simpa using h)
    exact (List.Perm.swap _ _ _).trans (this.cons x)
section
variable {M : Model} {A : Around} {E : Value → Shared → Prop} {s : Shared}
theorem wp_choose {src : Source} {n : Nat} {Q : Nat → Shared → Prop} (hn : 0 < n) (h : ∀ i, i < n → Q i { s with drawn := s.drawn.bump src }) : wpAny M A (choose src n) Q E s := fun Γ p hΓ =>
  ⟨Nat.ne_of_gt hn, h _ (Nat.mod_lt _ hn)⟩
theorem wp_order {α : Type} : ∀ (n : Nat) (xs : List α) (s : Shared) {Q : List α → Shared → Prop}, xs.length ≤ n → (∀ d ys, ys.Perm xs → Q ys { s with drawn := d }) → wpAny M A (drawOrder n xs) Q E s
  | 0, xs, s, Q, hl, h => by
    cases xs with
    | nil => exact wpAny_pure (h s.drawn [] (.refl _))
    | cons x xs => simp at hl
  | n + 1, [], s, Q, hl, h => wpAny_pure (h s.drawn [] (.refl _))
  | n + 1, x :: xs, s, Q, hl, h => by
    unfold drawOrder
    refine wpAny_bind (wp_choose (by simp) fun i hi => ?_)
    rw [List.getElem?_eq_getElem hi]
    dsimp only
    refine wpAny_bind (wp_order n ((x :: xs).eraseIdx i) _ ?_ fun d ys p => wpAny_pure (h d _ ?_))
    · rw [List.length_eraseIdx]
      split <;> simp at * <;> omega
    · exact (p.cons _).trans (erase_perm _ _ hi)
end
theorem pick_go {α : Type} (next : Nat → Nat) : ∀ (fuel k : Nat) (left : List α) (out : Array α), left.length ≤ fuel → (pickOrder.go next fuel k left out).toList.Perm (out.toList ++ left)
  | 0, k, left, out, h => by
    cases left with
    | nil => unfold pickOrder.go; simp
    | cons x xs => simp at h
  | fuel + 1, k, left, out, h => by
    unfold pickOrder.go
    cases left with
    | nil => simp
    | cons x xs =>
      have hi : next k % (x :: xs).length < (x :: xs).length := Nat.mod_lt _ (by simp)
      rw [List.getElem?_eq_getElem hi]
      dsimp only
      have h1 := pick_go next fuel (k + 1) ((x :: xs).eraseIdx (next k % (x :: xs).length)) (out.push ((x :: xs)[next k % (x :: xs).length]'hi)) (by rw [List.length_eraseIdx, if_pos hi]; simp at h ⊢; omega)
      refine h1.trans ?_
      rw [Array.toList_push, List.append_assoc]
      exact List.Perm.append_left _ (erase_perm _ _ hi)
theorem pick_perm {α : Type} (next : Nat → Nat) (xs : Array α) : (pickOrder next xs).toList.Perm xs.toList := by
  unfold pickOrder
  have := pick_go next xs.size 0 xs.toList #[] (by simp)
  simpa using this
end L2

set_option Elab.async false
set_option linter.all false
set_option maxRecDepth 100000
set_option maxHeartbeats 4000000
namespace L2
open PySem PySem.Spec PyProof.Rows
def siO (first : Value) (i : Nat) (src : Value) (n ep : Nat) : Obj := { cls := .type "set_iterator", data := .fields #[first, .int i 0, src, .int n 0, .int ep 0] }
section
variable {prog : Program} {w : World} {A : Around} {E : Value → Shared → Prop} {h : Heap} {g : Array GenState} {d : Drawn} {tk : Nat} {os : OsState} {it a : Addr} {o : Obj} {es : Array (Int × Value)} {ep : Nat} {t : SetTable} {i : Nat}
theorem si_entry {sl : Nat} {x : Value} {nx : Nat} {Q : Fin → Shared → Prop} (hi : h.get? it = some (siO (.int sl 0) i (.ref a) es.size ep)) (ho : h.get? a = some o) (hd : o.data = .set es ep t) (hf : t.fits es.size = true)
    (hN : ∀ (Q' : Option (Value × Nat) → Shared → Prop), Q' (some (x, nx)) ⟨h, g, d, tk, os⟩ → wpAny (model prog w) A (setNext a sl i ep) Q' E ⟨h, g, d, tk, os⟩)
    (hq : ∀ h', h'.get? it = some (siO (.int nx 0) (i + 1) (.ref a) es.size ep) → Heap.SameBut it h h' → Q (.done (.ret x)) ⟨h', g, d, tk, os⟩) :
    wpAny (model prog w) A (Builtin.«set_iterator.__next__» ⟨[.ref it], []⟩) Q E ⟨h, g, d, tk, os⟩ := by
  unfold siO at hi
  have hE : ∀ {Q' : Array (Int × Value) → Shared → Prop}, Q' es ⟨h, g, d, tk, os⟩ → wpAny (model prog w) A (setEntries a) Q' E ⟨h, g, d, tk, os⟩ := fun q => wpAny_setEntries_of (s := ⟨h, g, d, tk, os⟩) ho hd hf q
  unfold Builtin.«set_iterator.__next__»
  generalize hSN : setNext = SN at hN
  generalize hSF : setField = SF
  repeat (any_goals (first | assumption | (with_reducible refine hE ?_) | wp_step))
  subst hSF
  have z1 : ((sl : Int)).toNat = sl := Int.toNat_natCast _
  have z2 : ((i : Int)).toNat = i := Int.toNat_natCast _
  have z3 : ((ep : Int)).toNat = ep := Int.toNat_natCast _
  rw [z1, z2, z3]
  refine hN _ ?_
  refine wpAny_bind (wpAny_setField hi rfl (by show 0 < 5; decide) ?_)
  have g1 := Heap.get?_update_self (Obj.mapFields (·.setIfInBounds 0 (rawInt nx))) hi rfl
  refine wpAny_bind (wpAny_setField g1 rfl (by show 1 < 5; decide) (wpAny_pure (hq _ ?_ ?_)))
  · exact Heap.get?_update_self (Obj.mapFields (·.setIfInBounds 1 (rawInt ((i : Int) + 1)))) g1 rfl
  · exact (Heap.SameBut.update _ _ _).trans (Heap.SameBut.update _ _ _)
theorem si_entry_end {sl : Nat} {Q : Fin → Shared → Prop} (hh : A.handled = none) (hi : h.get? it = some (siO (.int sl 0) i (.ref a) es.size ep)) (ho : h.get? a = some o) (hd : o.data = .set es ep t) (hf : t.fits es.size = true)
    (hN : ∀ (Q' : Option (Value × Nat) → Shared → Prop), Q' none ⟨h, g, d, tk, os⟩ → wpAny (model prog w) A (setNext a sl i ep) Q' E ⟨h, g, d, tk, os⟩)
    (hq : ∀ h' e, Heap.ExtBut it h h' → (∃ ob, h'.get? e = some ob ∧ ob.cls = .type "StopIteration") → E (.ref e) ⟨h', g, d, tk, os⟩) :
    wpAny (model prog w) A (Builtin.«set_iterator.__next__» ⟨[.ref it], []⟩) Q E ⟨h, g, d, tk, os⟩ := by
  unfold siO at hi
  have hE : ∀ {Q' : Array (Int × Value) → Shared → Prop}, Q' es ⟨h, g, d, tk, os⟩ → wpAny (model prog w) A (setEntries a) Q' E ⟨h, g, d, tk, os⟩ := fun q => wpAny_setEntries_of (s := ⟨h, g, d, tk, os⟩) ho hd hf q
  unfold Builtin.«set_iterator.__next__»
  generalize hSN : setNext = SN at hN
  generalize hSF : setField = SF
  repeat (any_goals (first | assumption | (with_reducible refine hE ?_) | wp_step))
  subst hSF
  have z1 : ((sl : Int)).toNat = sl := Int.toNat_natCast _
  have z2 : ((i : Int)).toNat = i := Int.toNat_natCast _
  have z3 : ((ep : Int)).toNat = ep := Int.toNat_natCast _
  rw [z1, z2, z3]
  refine hN _ (wpAny_bind (wpAny_setField hi rfl (by show 2 < 5; decide) ?_))
  refine wpAny_bind (show wpAny _ _ (newExc (.type "StopIteration") []) _ _ _ from ?_)
  unfold newExc newTuple
  refine wpAny_bind (wpAny_newObj_type (wpAny_bind (m := firstArgMember _ _) (wpAny_of_eq (a := Value.none) (by first | rfl | (simp only [firstArgMember]; rfl)) (wpAny_newObj_type ?_))))
  unfold raiseNew
  refine wpAny_bind (wpAny_handled ?_)
  rw [hh]
  refine wpAny_bind (wpAny_pure (wpAny_throw (hq _ _ (fun b p hb e => ?_) ⟨_, Heap.get?_push_size _ rfl, rfl⟩)))
  exact Heap.get?_push_of_some _ (Heap.get?_push_of_some _ ((Heap.get?_update_other _ _ (Ne.symm hb)).trans e))
end
end L2

set_option Elab.async false
set_option linter.all false
set_option maxRecDepth 100000
set_option maxHeartbeats 4000000
namespace L2
open PySem PySem.Spec PyProof.Rows
section
variable {prog : Program} {w : World} {A : Around} {E : Value → Shared → Prop} {s : Shared} {a : Addr} {o : Obj} {es : Array (Int × Value)} {ep : Nat} {t : SetTable} {i sl : Nat}
theorem by_text {Q : Bool → Shared → Prop} (h : Q (w.params.followText "set-order") s) : wpAny (model prog w) A setsByText Q E s := wpAny_bind (wpAny_askSetting (wpAny_pure h))
theorem next_text {Q : Option (Value × Nat) → Shared → Prop} (hT : w.params.followText "set-order" = true) (ho : s.heap.get? a = some o) (hd : o.data = .set es ep t) (hf : t.fits es.size = true)
    (h : Q (((pickOrder (w.params.setOrder a ep) es)[i]?).map fun e => (e.2, sl)) s) : wpAny (model prog w) A (setNext a sl i ep) Q E s := by
  unfold setNext
  refine wpAny_bind (wpAny_setState_of ho hd hf (wpAny_bind (by_text ?_)))
  rw [hT, if_pos rfl, if_neg (by simp)]
  refine wpAny_bind ?_
  unfold setWalk
  refine wpAny_bind (wpAny_setState_of ho hd hf (wpAny_bind (by_text ?_)))
  rw [hT, if_pos rfl]
  exact wpAny_bind (wpAny_askSetting (wpAny_pure (wpAny_pure h)))
theorem next_led {Q : Option (Value × Nat) → Shared → Prop} (hT : w.params.followText "set-order" = false) (hp : (!t.plain && decide (es.size > 1)) = false) (hl : t.led = true) (ho : s.heap.get? a = some o) (hd : o.data = .set es ep t) (hf : t.fits es.size = true)
    (h : Q (match es[SetTable.below t.place sl]?, t.place[SetTable.below t.place sl]? with | some (_, x), some j => some (x, j + 1) | _, _ => none) s) : wpAny (model prog w) A (setNext a sl i ep) Q E s := by
  unfold setNext
  refine wpAny_bind (wpAny_setState_of ho hd hf (wpAny_bind (by_text ?_)))
  rw [hT, if_neg Bool.false_ne_true]
  refine (show wpAny _ _ (if (!t.plain && decide (es.size > 1)) = true then _ else _) _ _ _ from ?_)
  rw [hp, if_neg Bool.false_ne_true]
  refine wpAny_bind (show wpAny _ _ (if (!t.led && !es.isEmpty) = true then unsupported "set:maker-not-led" else pure ()) _ _ _ from ?_)
  rw [hl]
  exact wpAny_pure (wpAny_pure h)
theorem next_drawn {x : Value} {hs : Int} {p : Nat} {Q : Value → Shared → Prop} (ho : s.heap.get? a = some o) (hd : o.data = .set es ep t) (hf : t.fits es.size = true) (hx : es[p]? = some (hs, x)) (h : Q x s) : wpAny (model prog w) A (setNextDrawn a p ep) Q E s := by
  unfold setNextDrawn
  refine wpAny_bind (wpAny_setState_of ho hd hf ?_)
  dsimp only
  rw [if_neg (by simp), hx]
  exact wpAny_pure h
theorem is_drawn {Q : Bool → Shared → Prop} (ho : s.heap.get? a = some o) (hd : o.data = .set es ep t) (hf : t.fits es.size = true) (h : Q (!w.params.followText "set-order" && (!t.plain && decide (es.size > 1))) s) : wpAny (model prog w) A (setDrawn a) Q E s := by
  unfold setDrawn
  exact wpAny_bind (wpAny_setState_of ho hd hf (wpAny_bind (by_text (wpAny_pure h))))
end
section
variable {prog : Program} {w : World} {A : Around} {E : Value → Shared → Prop} {h : Heap} {g : Array GenState} {d : Drawn} {tk : Nat} {os : OsState} {it a T : Addr} {o oT : Obj} {es : Array (Int × Value)} {ep : Nat} {t : SetTable} {i n c : Nat} {ps : Array Value}
theorem si_entryD {x : Value} {hs : Int} {p : Nat} {Q : Fin → Shared → Prop} (hi : h.get? it = some (siO (.ref T) i (.ref a) es.size ep)) (ho : h.get? a = some o) (hd : o.data = .set es ep t) (hf : t.fits es.size = true) (hT : h.get? T = some oT) (hdT : oT.data = .seq ps c)
    (hp : ps[i]? = some (.int p 0)) (hx : es[p]? = some (hs, x)) (hq : ∀ h', h'.get? it = some (siO (.ref T) (i + 1) (.ref a) es.size ep) → Heap.SameBut it h h' → Q (.done (.ret x)) ⟨h', g, d, tk, os⟩) :
    wpAny (model prog w) A (Builtin.«set_iterator.__next__» ⟨[.ref it], []⟩) Q E ⟨h, g, d, tk, os⟩ := by
  unfold siO at hi
  have hE : ∀ {Q' : Array (Int × Value) → Shared → Prop}, Q' es ⟨h, g, d, tk, os⟩ → wpAny (model prog w) A (setEntries a) Q' E ⟨h, g, d, tk, os⟩ := fun q => wpAny_setEntries_of (s := ⟨h, g, d, tk, os⟩) ho hd hf q
  have hS : ∀ {Q' : Option (Array Value) → Shared → Prop}, Q' (some ps) ⟨h, g, d, tk, os⟩ → wpAny (model prog w) A (seqItems? (.ref T)) Q' E ⟨h, g, d, tk, os⟩ := fun q => wpAny_seqItems (s := ⟨h, g, d, tk, os⟩) hT hdT q
  unfold Builtin.«set_iterator.__next__»
  generalize hSN : setNextDrawn = SN
  generalize hSF : setField = SF
  repeat (any_goals (first | assumption | (with_reducible refine hE ?_) | (with_reducible refine hS ?_) | wp_step))
  subst hSF hSN
  have z2 : ((i : Int)).toNat = i := Int.toNat_natCast _
  have z3 : ((ep : Int)).toNat = ep := Int.toNat_natCast _
  rw [z2, z3, hp]
  refine wpAny_bind (show wpAny _ _ (setNextDrawn a ((p : Int)).toNat ep) _ _ _ from ?_)
  rw [Int.toNat_natCast]
  refine next_drawn (s := ⟨h, g, d, tk, os⟩) ho hd hf hx (wpAny_bind (wpAny_setField hi rfl (by show 1 < 5; decide) (wpAny_pure (hq _ ?_ (Heap.SameBut.update _ _ _)))))
  exact Heap.get?_update_self (Obj.mapFields (·.setIfInBounds 1 (rawInt ((i : Int) + 1)))) hi rfl
theorem si_entryD_end {Q : Fin → Shared → Prop} (hh : A.handled = none) (hi : h.get? it = some (siO (.ref T) i (.ref a) es.size ep)) (ho : h.get? a = some o) (hd : o.data = .set es ep t) (hf : t.fits es.size = true) (hT : h.get? T = some oT) (hdT : oT.data = .seq ps c)
    (hp : ps[i]? = none) (hq : ∀ h' e, Heap.ExtBut it h h' → (∃ ob, h'.get? e = some ob ∧ ob.cls = .type "StopIteration") → E (.ref e) ⟨h', g, d, tk, os⟩) :
    wpAny (model prog w) A (Builtin.«set_iterator.__next__» ⟨[.ref it], []⟩) Q E ⟨h, g, d, tk, os⟩ := by
  unfold siO at hi
  have hE : ∀ {Q' : Array (Int × Value) → Shared → Prop}, Q' es ⟨h, g, d, tk, os⟩ → wpAny (model prog w) A (setEntries a) Q' E ⟨h, g, d, tk, os⟩ := fun q => wpAny_setEntries_of (s := ⟨h, g, d, tk, os⟩) ho hd hf q
  have hS : ∀ {Q' : Option (Array Value) → Shared → Prop}, Q' (some ps) ⟨h, g, d, tk, os⟩ → wpAny (model prog w) A (seqItems? (.ref T)) Q' E ⟨h, g, d, tk, os⟩ := fun q => wpAny_seqItems (s := ⟨h, g, d, tk, os⟩) hT hdT q
  unfold Builtin.«set_iterator.__next__»
  generalize hSN : setNextDrawn = SN
  generalize hSF : setField = SF
  repeat (any_goals (first | assumption | (with_reducible refine hE ?_) | (with_reducible refine hS ?_) | wp_step))
  subst hSF hSN
  have z2 : ((i : Int)).toNat = i := Int.toNat_natCast _
  rw [z2, hp]
  refine wpAny_bind (wpAny_setField hi rfl (by show 0 < 5; decide) ?_)
  have g1 := Heap.get?_update_self (Obj.mapFields (·.setIfInBounds 0 (rawInt 0))) hi rfl
  refine wpAny_bind (wpAny_setField g1 rfl (by show 2 < 5; decide) ?_)
  refine wpAny_bind (show wpAny _ _ (newExc (.type "StopIteration") []) _ _ _ from ?_)
  unfold newExc newTuple
  refine wpAny_bind (wpAny_newObj_type (wpAny_bind (m := firstArgMember _ _) (wpAny_of_eq (a := Value.none) (by first | rfl | (simp only [firstArgMember]; rfl)) (wpAny_newObj_type ?_))))
  unfold raiseNew
  refine wpAny_bind (wpAny_handled ?_)
  rw [hh]
  refine wpAny_bind (wpAny_pure (wpAny_throw (hq _ _ (fun b p hb e => ?_) ⟨_, Heap.get?_push_size _ rfl, rfl⟩)))
  exact Heap.get?_push_of_some _ (Heap.get?_push_of_some _ ((Heap.get?_update_other _ _ (Ne.symm hb)).trans ((Heap.get?_update_other _ _ (Ne.symm hb)).trans e)))
end
section
variable {prog : Program} {w : World} {A : Around} {E : Value → Shared → Prop} {s : Shared} {it : Addr} {oi : Obj}
theorem si_next {x : Value} {Q : Option Value → Shared → Prop} {N : Heap → Prop} (hi : s.heap.get? it = some oi) (hc : oi.cls = .type "set_iterator")
    (he : ∀ (Q' : Fin → Shared → Prop) (E' : Value → Shared → Prop), (∀ h', N h' → Heap.SameBut it s.heap h' → Q' (.done (.ret x)) { s with heap := h' }) → wpAny (model prog w) A.in1 (Builtin.«set_iterator.__next__» ⟨[.ref it], []⟩) Q' E' s)
    (hq : ∀ h', N h' → Heap.SameBut it s.heap h' → Q (some x) { s with heap := h' }) : wpAny (model prog w) A (pyNext (.ref it)) Q E s := by
  unfold pyNext
  refine wpAny_bind (wpAny_attempt (wpAny_callSpecial?_slot (name := Str.ofString "__next__") (T := "set_iterator") ⟨_, hi, hc⟩ slot_si_next (wpAny_call_entry slot_si_next (T := "set_iterator") ⟨_, hi, hc⟩ entry_si_next (he _ _ fun h' n sb => ⟨x, rfl, wpAny_pure (hq h' n sb)⟩) (args_si_next _))))
theorem si_stop {Q : Option Value → Shared → Prop} (hi : s.heap.get? it = some oi) (hc : oi.cls = .type "set_iterator")
    (he : ∀ (Q' : Fin → Shared → Prop) (E' : Value → Shared → Prop), (∀ h' e, Heap.ExtBut it s.heap h' → (∃ ob, h'.get? e = some ob ∧ ob.cls = .type "StopIteration") → E' (.ref e) { s with heap := h' }) → wpAny (model prog w) A.in1 (Builtin.«set_iterator.__next__» ⟨[.ref it], []⟩) Q' E' s)
    (hq : ∀ h', Heap.ExtBut it s.heap h' → Q none { s with heap := h' }) : wpAny (model prog w) A (pyNext (.ref it)) Q E s := by
  unfold pyNext
  refine wpAny_bind (wpAny_attempt (wpAny_callSpecial?_slot (name := Str.ofString "__next__") (T := "set_iterator") ⟨_, hi, hc⟩ slot_si_next (wpAny_call_entry slot_si_next (T := "set_iterator") ⟨_, hi, hc⟩ entry_si_next (he _ _ fun h' e xb ob => ?_) (args_si_next _))))
  obtain ⟨ob, e1, e2⟩ := ob
  refine wpAny_bind (wpAny_isInstance (T := "StopIteration") (b := true) ⟨_, e1, e2⟩ isSubtype_stop ?_)
  exact wpAny_pure (hq h' xb)
end
end L2

set_option Elab.async false
set_option linter.all false
set_option maxRecDepth 100000
set_option maxHeartbeats 4000000
namespace L2
open PySem PySem.Spec PyProof.Rows
theorem slot_si_iter : Slot "set_iterator" "__iter__" "set_iterator.__iter__" :=
  .of (owner := "set_iterator") (n := "__iter__") (by rw [typeLookup_type, builtinLookup_eq_fast]; kernel_rfl) (by decide +kernel) (by decide +kernel) (by decide +kernel)
    (by first | exact .inl (by decide +kernel) | exact .inr (by decide +kernel)) (by rw [isSubtype_type]; kernel_rfl)
theorem entry_si_iter : entryFor table "set_iterator.__iter__" = some Builtin.«dict_keyiterator.__iter__» :=
  entryFor_alias (id' := "dict_keyiterator.__iter__") (by kernel_rfl) (by first | rfl | decide +kernel) (by decide +kernel) (by kernel_rfl)
theorem args_si_iter (x : Value) : argsOk "set_iterator.__iter__" ⟨[x], []⟩ := by unfold argsOk; kernel_rfl
section
variable {prog : Program} {w : World} {A : Around}
theorem si_walks {it : Addr} {fp : List Addr} {n : Nat} {P : Nat → Value → Prop} {St : Nat → Heap → Prop} (hf : it ∈ fp) (ho : ∀ i h, St i h → ∃ oi, h.get? it = some oi ∧ oi.cls = .type "set_iterator")
    (hfr : ∀ i h h', St i h → (∀ b ∈ fp, ∀ o, h.get? b = some o → h'.get? b = some o) → St i h')
    (hit : ∀ i (s : Shared), i < n → St i s.heap → ∃ x, P i x ∧ ∀ (Q' : Fin → Shared → Prop) (E' : Value → Shared → Prop), (∀ h', St (i + 1) h' → Heap.SameBut it s.heap h' → Q' (.done (.ret x)) { s with heap := h' }) → wpAny (model prog w) A.in1 (Builtin.«set_iterator.__next__» ⟨[.ref it], []⟩) Q' E' s)
    (hen : ∀ (s : Shared), St n s.heap → ∀ (Q' : Fin → Shared → Prop) (E' : Value → Shared → Prop), (∀ h' e, Heap.ExtBut it s.heap h' → (∃ ob, h'.get? e = some ob ∧ ob.cls = .type "StopIteration") → E' (.ref e) { s with heap := h' }) → wpAny (model prog w) A.in1 (Builtin.«set_iterator.__next__» ⟨[.ref it], []⟩) Q' E' s) :
    Walks prog w A it fp [it] n P St where
  sub := fun b hb => by rw [List.mem_singleton.mp hb]; exact hf
  frame := hfr
  item := fun i s Q E hi st hQ => by
    obtain ⟨oi, e, c⟩ := ho i _ st
    obtain ⟨x, px, hx⟩ := hit i s hi st
    exact si_next e c hx fun h' st' sb => hQ x h' s.toks px st' fun b o hb e => (sb.2 b fun z => hb (by rw [z]; exact List.mem_singleton.mpr rfl)).trans e
  done := fun s Q E st hQ => by
    obtain ⟨oi, e, c⟩ := ho n _ st
    exact si_stop e c (hen s st) fun h' xb => hQ h' s.toks fun b o hb e => xb b o (fun z => hb (by rw [z]; exact List.mem_singleton.mpr rfl)) e
  self := fun i s Q E st hQ => by
    obtain ⟨oi, e, c⟩ := ho i _ st
    refine wpAny_pyIter_slot (T := "set_iterator") ⟨_, e, c⟩ slot_si_iter (wpAny_call_entry slot_si_iter (T := "set_iterator") ⟨_, e, c⟩ entry_si_iter ?_ (args_si_iter _))
    exact wpAny_pure ⟨_, rfl, "set_iterator", _, ⟨_, e, c⟩, slot_si_next.lookup, hQ⟩
def slotAt (pl : Array Nat) : Nat → Nat
  | 0 => 0
  | i + 1 => pl.getD i 0 + 1
theorem below_slot {pl : Array Nat} (u : Up pl) {i : Nat} (h : i ≤ pl.size) : SetTable.below pl (slotAt pl i) = i := by
  cases i with
  | zero => exact below_eq u (Nat.zero_le _) (fun k a hk => absurd hk (Nat.not_lt_zero _)) fun k a _ _ => Nat.zero_le _
  | succ i =>
    have e : pl[i]? = some (pl[i]'(by omega)) := Array.getElem?_eq_getElem _
    have es : slotAt pl (i + 1) = pl[i]'(by omega) + 1 := by show pl.getD i 0 + 1 = _; rw [Array.getD_eq_getD_getElem?, e]; rfl
    rw [es]
    refine below_eq u h (fun k a hk ek => ?_) fun k a hk ek => ?_
    · by_cases q : k = i
      · subst q; rw [e] at ek; cases ek; omega
      · have := u.lt ek e (by omega); omega
    · have := u.lt e ek (by omega); omega
variable {it a T : Addr} {o oT : Obj} {es : Array (Int × Value)} {ep c : Nat} {t : SetTable}
theorem walk_text (hh : A.handled = none) (hT : w.params.followText "set-order" = true) (hd : o.data = .set es ep t) (hf : t.fits es.size = true) :
    Walks prog w A it [it, a] [it] es.size (fun i v => ((pickOrder (w.params.setOrder a ep) es).toList.map (·.2))[i]? = some v) (fun i h => h.get? it = some (siO (.int 0 0) i (.ref a) es.size ep) ∧ h.get? a = some o) := by
  have ln : (pickOrder (w.params.setOrder a ep) es).size = es.size := by have := (pick_perm (w.params.setOrder a ep) es).length_eq; rwa [Array.length_toList, Array.length_toList] at this
  refine si_walks (by simp) (fun i h st => ⟨_, st.1, rfl⟩) (fun i h h' st k => ⟨k it (by simp) _ st.1, k a (by simp) _ st.2⟩) (fun i s hi st => ?_) fun s st Q' E' hq => ?_
  · have e : (pickOrder (w.params.setOrder a ep) es)[i]? = some ((pickOrder (w.params.setOrder a ep) es)[i]'(by omega)) := Array.getElem?_eq_getElem _
    refine ⟨((pickOrder (w.params.setOrder a ep) es)[i]'(by omega)).2, by rw [List.getElem?_map, Array.getElem?_toList, e]; rfl, fun Q' E' hq => ?_⟩
    obtain ⟨h, g, d, tk, os⟩ := s
    refine si_entry (sl := 0) (nx := 0) st.1 st.2 hd hf (fun Q2 q2 => next_text (s := ⟨h, g, d, tk, os⟩) hT st.2 hd hf (by rw [e]; exact q2)) fun h' g1 sb => hq h' ⟨g1, ?_⟩ sb
    have ne : a ≠ it := fun z => by
      have h1 := st.1
      have h2 := st.2
      rw [z, h1] at h2
      cases h2
      cases hd
    exact (sb.2 a ne).trans st.2
  · have e : (pickOrder (w.params.setOrder a ep) es)[es.size]? = none := Array.getElem?_eq_none (by omega)
    obtain ⟨h, g, d, tk, os⟩ := s
    exact si_entry_end (sl := 0) hh st.1 st.2 hd hf (fun Q2 q2 => next_text (s := ⟨h, g, d, tk, os⟩) hT st.2 hd hf (by rw [e]; exact q2)) fun h' e xb ob => hq h' e xb ob
theorem walk_led (hh : A.handled = none) (hT : w.params.followText "set-order" = false) (hp : (!t.plain && decide (es.size > 1)) = false) (hl : t.led = true) (u : Up t.place) (hd : o.data = .set es ep t) (hf : t.fits es.size = true) :
    Walks prog w A it [it, a] [it] es.size (fun i v => (es.toList.map (·.2))[i]? = some v) (fun i h => h.get? it = some (siO (.int (slotAt t.place i : Nat) 0) i (.ref a) es.size ep) ∧ h.get? a = some o) := by
  have sz : t.place.size = es.size := by
    simp only [SetTable.fits, Bool.and_eq_true, beq_iff_eq] at hf
    exact hf.1
  refine si_walks (by simp) (fun i h st => ⟨_, st.1, rfl⟩) (fun i h h' st k => ⟨k it (by simp) _ st.1, k a (by simp) _ st.2⟩) (fun i s hi st => ?_) fun s st Q' E' hq => ?_
  · have e : es[i]? = some (es[i]'hi) := Array.getElem?_eq_getElem _
    have ep' : t.place[i]? = some (t.place[i]'(by omega)) := Array.getElem?_eq_getElem _
    have es1 : slotAt t.place (i + 1) = t.place[i]'(by omega) + 1 := by show t.place.getD i 0 + 1 = _; rw [Array.getD_eq_getD_getElem?, ep']; rfl
    refine ⟨(es[i]'hi).2, by rw [List.getElem?_map, Array.getElem?_toList, e]; rfl, fun Q' E' hq => ?_⟩
    obtain ⟨h, g, d, tk, os⟩ := s
    refine si_entry (sl := slotAt t.place i) (nx := slotAt t.place (i + 1)) st.1 st.2 hd hf (fun Q2 q2 => next_led (s := ⟨h, g, d, tk, os⟩) hT hp hl st.2 hd hf ?_) fun h' g1 sb => hq h' ⟨g1, ?_⟩ sb
    · rw [below_slot u (by omega), e, ep']
      rw [es1] at q2
      exact q2
    · have ne : a ≠ it := fun z => by
        have h1 := st.1
        have h2 := st.2
        rw [z, h1] at h2
        cases h2
        cases hd
      exact (sb.2 a ne).trans st.2
  · obtain ⟨h, g, d, tk, os⟩ := s
    refine si_entry_end (sl := slotAt t.place es.size) hh st.1 st.2 hd hf (fun Q2 q2 => next_led (s := ⟨h, g, d, tk, os⟩) hT hp hl st.2 hd hf ?_) fun h' e xb ob => hq h' e xb ob
    rw [below_slot u (by omega), Array.getElem?_eq_none (xs := es) (by omega)]
    exact q2
theorem walk_drawn {ps : List Nat} (hh : A.handled = none) (hd : o.data = .set es ep t) (hf : t.fits es.size = true) (hT : oT.data = .seq (ps.map fun i : Nat => Value.int i 0).toArray c) (pm : ps.Perm (List.range es.size)) :
    Walks prog w A it [it, a, T] [it] es.size (fun i v => (ps.map fun j => (es.getD j (0, .none)).2)[i]? = some v) (fun i h => h.get? it = some (siO (.ref T) i (.ref a) es.size ep) ∧ h.get? a = some o ∧ h.get? T = some oT) := by
  have ln : ps.length = es.size := by have := pm.length_eq; rwa [List.length_range] at this
  have lt : ∀ j ∈ ps, j < es.size := fun j hj => List.mem_range.mp (pm.mem_iff.mp hj)
  have ne : ∀ (h : Heap) (i : Nat), h.get? it = some (siO (.ref T) i (.ref a) es.size ep) → h.get? a = some o → h.get? T = some oT → a ≠ it ∧ T ≠ it := fun h i h1 h2 h3 => by
    refine ⟨fun z => ?_, fun z => ?_⟩
    · rw [z, h1] at h2; cases h2; cases hd
    · rw [z, h1] at h3; cases h3; cases hT
  refine si_walks (by simp) (fun i h st => ⟨_, st.1, rfl⟩) (fun i h h' st k => ⟨k it (by simp) _ st.1, k a (by simp) _ st.2.1, k T (by simp) _ st.2.2⟩) (fun i s hi st => ?_) fun s st Q' E' hq => ?_
  · have hi' : i < ps.length := by omega
    have hj := lt _ (List.getElem_mem hi')
    have e : es[ps[i]]? = some (es[ps[i]]'hj) := Array.getElem?_eq_getElem _
    refine ⟨(es[ps[i]]'hj).2, ?_, fun Q' E' hq => ?_⟩
    · rw [List.getElem?_map, List.getElem?_eq_getElem hi']
      show some (es.getD ps[i] (0, .none)).2 = some _
      rw [Array.getD_eq_getD_getElem?, e]
      rfl
    obtain ⟨h, g, d, tk, os⟩ := s
    obtain ⟨n1, n2⟩ := ne h i st.1 st.2.1 st.2.2
    refine si_entryD (p := ps[i]) st.1 st.2.1 hd hf st.2.2 hT (by simp [hi']) (hs := (es[ps[i]]'hj).1) e fun h' g1 sb => hq h' ⟨g1, (sb.2 a n1).trans st.2.1, (sb.2 T n2).trans st.2.2⟩ sb
  · obtain ⟨h, g, d, tk, os⟩ := s
    exact si_entryD_end hh st.1 st.2.1 hd hf st.2.2 hT (by simp; omega) fun h' e xb ob => hq h' e xb ob
end
end L2

set_option Elab.async false
set_option linter.all false
set_option maxRecDepth 100000
set_option maxHeartbeats 4000000
namespace L2
open PySem PySem.Spec PyProof.Rows
section
variable {prog : Program} {w : World} {A : Around} {E : Value → Shared → Prop} {s : Shared} {a : Addr} {o : Obj} {es : Array (Int × Value)} {ep : Nat} {t : SetTable}
def Begun (prog : Program) (w : World) (s : Shared) (a : Addr) (es : Array (Int × Value)) (Q : Value → Shared → Prop) : Prop :=
  ∀ (it : Addr) (fp : List Addr) (h' : Heap) (d' : Drawn) (ord : List Value) (St : Nat → Heap → Prop), s.heap.objs.size ≤ it → (∀ A' : Around, A'.handled = none → Walks prog w A' it fp [it] es.size (fun i v => ord[i]? = some v) St) → St 0 h' →
    (∀ c u, s.heap.get? c = some u → h'.get? c = some u) → (∀ c ∈ fp, c = a ∨ s.heap.objs.size ≤ c) → ord.Perm (es.toList.map (·.2)) → Q (.ref it) { s with heap := h', drawn := d' }
theorem iter_setX {Q : Value → Shared → Prop} (ho : s.heap.get? a = some o) (hex : o.ExactSet) (hd : o.data = .set es ep t) (hf : t.fits es.size = true) (hb : es.size < scanBound) (tb : TabOk (ledB w) t) (h : Begun prog w s a es Q) : wpAny (model prog w) A (pyIter (.ref a)) Q E s := by
  have hT : s.TypeIs (.ref a) "set" := ⟨_, ho, hex.1⟩
  refine wpAny_pyIter_slot hT slot_set_iter (wpAny_call_entry slot_set_iter hT entry_set_iter ?_ (args_set_iter _))
  have lt := Heap.lt_size ho
  unfold Builtin.«frozenset.__iter__»
  refine wpAny_bind (show wpAny _ _ (pure a) _ _ _ from wpAny_pure ?_)
  refine wpAny_bind (show wpAny _ _ (setEntries a >>= fun x => pure x.size) _ _ _ from wpAny_bind (wpAny_setEntries_of ho hd hf (wpAny_pure ?_)))
  refine wpAny_bind (is_drawn ho hd hf ?_)
  cases ft : w.params.followText "set-order" with
  | true =>
    refine wpAny_bind (wpAny_pure (wpAny_bind (wpAny_setEpoch_of ho hd hf (wpAny_bind (wpAny_newObj_type (wpAny_pure ⟨_, rfl, "set_iterator", _, ⟨_, Heap.get?_push_size _ rfl, rfl⟩, slot_si_next.lookup, ?_⟩))))))
    refine h s.heap.objs.size [s.heap.objs.size, a] _ s.drawn _ _ (Nat.le_refl _) (fun A' hh => walk_text hh ft hd hf) ⟨Heap.get?_push_size _ rfl, Heap.get?_push_of_some _ ho⟩ (fun c u e => Heap.get?_push_of_some _ e) (fun c hc => ?_) ((pick_perm _ es).map _)
    rcases List.mem_cons.mp hc with z | z
    · rw [z]; exact .inr (Nat.le_refl _)
    · exact .inl (List.mem_singleton.mp z)
  | false =>
    have hl : t.led = true := by rw [tb.led]; unfold ledB; rw [ft]; rfl
    cases hp : (!t.plain && decide (es.size > 1)) with
    | false =>
      refine wpAny_bind (wpAny_pure (wpAny_bind (wpAny_setEpoch_of ho hd hf (wpAny_bind (wpAny_newObj_type (wpAny_pure ⟨_, rfl, "set_iterator", _, ⟨_, Heap.get?_push_size _ rfl, rfl⟩, slot_si_next.lookup, ?_⟩))))))
      refine h s.heap.objs.size [s.heap.objs.size, a] _ s.drawn _ _ (Nat.le_refl _) (fun A' hh => walk_led hh ft hp hl tb.up hd hf) ⟨Heap.get?_push_size _ rfl, Heap.get?_push_of_some _ ho⟩ (fun c u e => Heap.get?_push_of_some _ e) (fun c hc => ?_) (.refl _)
      rcases List.mem_cons.mp hc with z | z
      · rw [z]; exact .inr (Nat.le_refl _)
      · exact .inl (List.mem_singleton.mp z)
    | true =>
      refine wpAny_bind (wp_order _ _ s (by simp) fun d' ps pm => ?_)
      have ln : ps.length = es.size := by have := pm.length_eq; rwa [List.length_range] at this
      refine wpAny_bind (show wpAny _ _ (newObj (.type "tuple") (.seq (ps.map fun (i : Nat) => rawInt i).toArray)) _ _ _ from wpAny_newObj_type ?_ (by show (ps.map fun (i : Nat) => rawInt i).toArray.size ≤ sizeLine; rw [List.size_toArray, List.length_map, ln]; exact fits_of_scanBound hb))
      have ho1 := Heap.get?_push_of_some { cls := .type "tuple", data := .seq (ps.map fun (i : Nat) => rawInt i).toArray } ho
      refine wpAny_bind (wpAny_setEpoch_of ho1 hd hf (wpAny_bind (wpAny_newObj_type (wpAny_pure ⟨_, rfl, "set_iterator", _, ⟨_, Heap.get?_push_size _ rfl, rfl⟩, slot_si_next.lookup, ?_⟩))))
      refine h _ [_, a, s.heap.objs.size] _ d' _ _ ?_ (fun A' hh => walk_drawn (T := s.heap.objs.size) (ps := ps) hh hd hf (c := 0) (oT := { cls := .type "tuple", data := .seq (ps.map fun (i : Nat) => rawInt i).toArray }) rfl pm) ⟨Heap.get?_push_size _ rfl, Heap.get?_push_of_some _ ho1, Heap.get?_push_of_some _ (Heap.get?_push_size _ rfl)⟩ (fun c u e => Heap.get?_push_of_some _ (Heap.get?_push_of_some _ e)) (fun c hc => ?_) ?_
      · rw [Heap.size_push]; exact Nat.le_succ _
      · rcases List.mem_cons.mp hc with z | z
        · rw [z, Heap.size_push]; exact .inr (Nat.le_succ _)
        · rcases List.mem_cons.mp z with z | z
          · exact .inl z
          · rw [List.mem_singleton.mp z]; exact .inr (Nat.le_refl _)
      · have e : es.toList.map (·.2) = (List.range es.size).map fun j => (es.getD j (0, .none)).2 := by
          refine List.ext_getElem (by simp) fun j h1 h2 => ?_
          simp only [List.length_map, List.length_range, Array.length_toList] at h1
          simp [Array.getD_eq_getD_getElem?, h1]
        rw [e]
        exact pm.map _
end
end L2

set_option Elab.async false
set_option linter.all false
set_option maxRecDepth 100000
set_option maxHeartbeats 4000000
namespace L2
open PySem PySem.Spec PyProof.Rows
section
variable {prog : Program} {w : World} {A : Around} {E : Value → Shared → Prop} {s : Shared} {a : Addr} {o : Obj} {es : Array (Int × Value)} {ep : Nat} {t : SetTable}
theorem hint_set {Q : Bool → Shared → Prop} (hT : s.TypeIs (.ref a) "set") (h : Q false s) : wpAny (model prog w) A (Builtin.List.listLengthHint (.ref a)) Q E s := by
  unfold Builtin.List.listLengthHint
  refine wpAny_bind (wpAny_specialOf hT PySem.F.slot_set_len.lookup ?_)
  generalize e0 : ("set.__len__" : String) = id0
  wp_delta
  rw [show splitId id0 = some ("set", "__len__") from by subst e0; decide +kernel]
  subst e0
  refine wpAny_bind (wpAny_isInstance (T := "set") (b := true) hT (by rw [isSubtype_type]; kernel_rfl) ?_)
  refine wpAny_ite_split (fun z => absurd z (by decide)) fun _ => wpAny_ite_split (fun _ => wpAny_bind (wpAny_typeOf hT (wpAny_pure h))) fun z => absurd (by decide +kernel) z
theorem acc_ord {acc : Array Value} {ord : List Value} {n : Nat} (h : ItemsOf (fun i v => ord[i]? = some v) acc n) (l : ord.length = n) : acc.toList = ord := by
  refine List.ext_getElem? fun i => ?_
  by_cases hi : i < acc.size
  · have e := Array.getElem?_eq_getElem hi
    rw [Array.getElem?_toList, e]
    exact (h.2 i _ e).symm
  · rw [List.getElem?_eq_none (by rw [Array.length_toList]; omega), List.getElem?_eq_none (by have := h.1; omega)]
theorem ext_setX {R : Result → Shared → Prop} (hh : A.handled = none) (ho : s.heap.get? a = some o) (hex : o.ExactSet) (hd : o.data = .set es ep t) (hf : t.fits es.size = true) (hb : es.size < scanBound) (tb : TabOk (ledB w) t) (S : Addr) (hSa : S ≠ a) (res : Value) (c0 : Nat)
    (hS : s.heap.get? S = some { cls := .type "list", data := .seq #[] c0 })
    (hR : ∀ h' tk d' acc c', (∀ b u, b ≠ S → s.heap.get? b = some u → h'.get? b = some u) → h'.get? S = some { cls := .type "list", dict := none, data := .seq acc c', slots := #[] } → acc.toList.Perm (es.toList.map (·.2)) → R (.ok (.ret res)) { s with heap := h', toks := tk, drawn := d' }) :
    wpAny (model prog w) A.in1 (Builtin.List.listExtendWith (.ref S) (.ref a) res) (fun fin s' => match fin with | .done f => R (.ok f) s' | .again c' => c'.quiet = true ∧ codeAny (model prog w) A c' R s') (fun e s' => R (.error e) s') s := by
  have hn := fits_of_scanBound hb
  have hT : s.TypeIs (.ref a) "set" := ⟨_, ho, hex.1⟩
  have ltS := Heap.lt_size hS
  have nsr : Builtin.List.listSameRef (.ref S) (.ref a) = false := by simp [Builtin.List.listSameRef, hSa]
  have nl : (Value.type "set" == Value.type "list") = false := by decide
  have nt : (Value.type "set" == Value.type "tuple") = false := by decide
  unfold Builtin.List.listExtendWith
  refine wpAny_bind (wpAny_typeOf hT ?_)
  simp only [nsr, nl, nt, Bool.or_false, Bool.false_eq_true, if_false]
  refine wpAny_bind (iter_setX ho hex hd hf hb tb fun it fp h1 d1 ord St hit W st k1 fpn pm => ?_)
  have lo : ord.length = es.size := by have := pm.length_eq; rwa [List.length_map, Array.length_toList] at this
  have hSf : S ∉ fp := fun z => by
    rcases fpn S z with q | q
    · exact hSa q
    · exact absurd ltS (Nat.not_lt.mpr q)
  have loop : ∀ (h2 : Heap) (c1 tk : Nat), St 0 h2 → (∀ b u, b ≠ S → s.heap.get? b = some u → h2.get? b = some u) → h2.get? S = some { cls := .type "list", data := .seq #[] c1 } →
      codeAny (model prog w) A (.builtin "list.extend.loop" ⟨[.ref S, .ref it, res], []⟩) R ⟨h2, s.gens, d1, tk, s.os⟩ := by
    intro h2 c1 tk st2 k2 hS2
    refine codeAny_extend_loopS (W A.in1 hh).toS hn S hSf res es.size 0 _ #[] c1 rfl (Nat.zero_le _) st2 hS2 (ItemsOf.nil _) fun s' acc c' hm hS' it' => ?_
    rw [Moved.eq_with hm]
    refine hR s'.heap s'.toks d1 acc c' (fun b u hb e => hm.heap b u (fun z => ?_) (k2 b u hb e)) hS' (by rw [acc_ord it' lo]; exact pm)
    rcases List.mem_cons.mp z with q | q
    · exact hb q
    · rw [List.mem_singleton.mp q] at e
      exact absurd (Heap.lt_size e) (Nat.not_lt.mpr hit)
  have hS1 := k1 S _ hS
  have hT1 : Shared.TypeIs ⟨h1, s.gens, d1, s.toks, s.os⟩ (.ref a) "set" := ⟨_, k1 a _ ho, hex.1⟩
  refine wpAny_bind (wpAny_holding (hint_set hT1 ?_))
  refine wpAny_ite_split (fun _ => ?_) (fun _ => wpAny_pure ⟨plainId_quiet PySem.F.plain_extend_loop _, loop h1 c0 _ st (fun b u _ e => k1 b u e) hS1⟩)
  refine wpAny_bind (wpAny_rule (wpAny_bind (show wpAny _ _ (updateSeq S (·.push .none) >>= fun _ => updateSeq S (·.pop)) _ _ _ from wpAny_bind (wpAny_updateSeq hS1 rfl ?_))))
  have hS2 := Heap.get?_update_self (Obj.mapSeq (·.push Value.none)) hS1 rfl
  refine wpAny_updateSeq (hz := by seq_fits) hS2 rfl ?_
  have hS3 := Heap.get?_update_self (Obj.mapSeq (·.pop)) hS2 rfl
  have oth : ∀ b u, b ≠ S → h1.get? b = some u → ((h1.update S (Obj.mapSeq (·.push Value.none))).update S (Obj.mapSeq (·.pop))).get? b = some u := fun b u hb e => (Heap.get?_update_other _ _ (Ne.symm hb)).trans ((Heap.get?_update_other _ _ (Ne.symm hb)).trans e)
  refine wpAny_pure ⟨plainId_quiet PySem.F.plain_extend_loop _, loop _ _ _ ((W A.in1 hh).frame 0 _ _ st fun b hb u e => oth b u (fun z => hSf (z ▸ hb)) e) (fun b u hb e => oth b u hb (k1 b u e)) hS3⟩
end
end L2

set_option Elab.async false
set_option linter.all false
set_option maxRecDepth 100000
set_option maxHeartbeats 4000000
namespace L2
open PySem PySem.Spec PyProof.Rows
section
variable {prog : Program} {w : World} {A : Around} {E : Value → Shared → Prop} {s : Shared} {a : Addr} {o : Obj} {es : Array (Int × Value)} {ep : Nat} {t : SetTable}
theorem coll_setX {R : List Value → Shared → Prop} (hh : A.handled = none) (ho : s.heap.get? a = some o) (hex : o.ExactSet) (hd : o.data = .set es ep t) (hf : t.fits es.size = true) (hb : es.size < scanBound) (tb : TabOk (ledB w) t)
    (h : ∀ h' tk d' vs, (∀ b u, s.heap.get? b = some u → h'.get? b = some u) → vs.Perm (es.toList.map (·.2)) → R vs { s with heap := h', toks := tk, drawn := d' }) : wpAny (model prog w) A (collect (.ref a)) R E s := by
  have lt := Heap.lt_size ho
  unfold collect
  refine wpAny_bind (wpAny_runValue (codeAny_builtin PySem.F.entry_proto_collect ?_))
  rw [Around.under_plainId PySem.F.plain_proto_collect _]
  refine (show wpAny _ A.in1 (newList [] >>= fun l => again (.builtin "list.__iadd__" ⟨[l, .ref a], []⟩)) _ _ s from wpAny_bind (wpAny_newObj_type (wpAny_pure ⟨plainId_quiet PySem.F.plain_list_iadd _, codeAny_builtin PySem.F.entry_list_iadd ?_⟩)))
  rw [Around.under_plainId PySem.F.plain_list_iadd _]
  have hS : (s.heap.push { cls := .type "list", data := .seq ([] : List Value).toArray }).get? s.heap.objs.size = some { cls := .type "list", data := .seq #[] } := Heap.get?_push_size _ rfl
  have key := ext_setX (A := A) (w := w) (prog := prog) (s := { s with heap := s.heap.push { cls := .type "list", data := .seq ([] : List Value).toArray } }) (a := a)
    (R := fun q s' => ∃ (h' : Heap) (tk : Nat) (d' : Drawn) (acc : Array Value) (c' : Nat), q = .ok (.ret (.ref s.heap.objs.size)) ∧ s' = { s with heap := h', toks := tk, drawn := d' } ∧ (∀ b u, s.heap.get? b = some u → h'.get? b = some u) ∧
      h'.get? s.heap.objs.size = some { cls := .type "list", dict := none, data := .seq acc c', slots := #[] } ∧ acc.toList.Perm (es.toList.map (·.2)))
    hh (Heap.get?_push_of_some _ ho) hex hd hf hb tb s.heap.objs.size (Nat.ne_of_gt lt) (.ref s.heap.objs.size) 0 hS fun h' tk d' acc c' k e p => ⟨h', tk, d', acc, c', rfl, rfl, fun b u eb => k b u (Nat.ne_of_lt (Heap.lt_size eb)) (Heap.get?_push_of_some _ eb), e, p⟩
  refine wpAny_mono key (fun fin s' x => ?_) fun e s' x => ?_
  · cases fin with
    | done f =>
      obtain ⟨h', tk, d', acc, c', e, rfl, k, eS, p⟩ := x
      cases e
      exact wpAny_bind (wpAny_load eS (wpAny_pure (h h' tk d' _ k p)))
    | again c1 =>
      refine ⟨x.1, codeAny_mono x.2 fun q s2 y => ?_⟩
      obtain ⟨h', tk, d', acc, c', rfl, rfl, k, eS, p⟩ := y
      exact wpAny_bind (wpAny_load eS (wpAny_pure (h h' tk d' _ k p)))
  · obtain ⟨_, _, _, _, _, e', _⟩ := x
    cases e'
end
section
variable {X : Cx}
def setH (P : Program) (w : World) (p : Addr) (ks : List Key) : HO := .ext fun h => SetX (mixKind P w) (ledB w) h p ks
theorem call_setL (hh : X.A.handled = none) : CallR X (.type "set") (fun xs H Q => ∃ (a : Addr) (ks : List Key), xs = [.ref a] ∧ H a = some (.lst (ks.map kV)) ∧ ks.length ≤ 4000 ∧ ∀ p, H p = none → Q (.ref p) (upd H p (setH X.prog X.w p (uniK [] ks)))) := by
  intro pins s σ H xs us Q I r h
  obtain ⟨a, ks, rfl, hx, hl, q⟩ := h
  obtain ⟨u, rfl, ru⟩ := Vals.one r
  cases (show u = Value.ref a from ru)
  obtain ⟨zz, its, n, rel, hg⟩ := (show ObjOk X.prog X.w H s.heap a (.lst (ks.map kV)) from I.hok a _ hx)
  have ln := rel.length
  rw [List.length_map] at ln
  have hn : H s.heap.objs.size = none := I.hok.fresh (Nat.le_refl _)
  have sb : scanBound = 4096 := rfl
  refine call_setX (knd := mixKind X.prog X.w) (keys := ks) hh hg (by simp [ln]) (by simp; omega) (fun j u e => ?_) fun h' tk sx k => ?_
  · rw [List.getElem?_toArray] at e
    obtain ⟨x, ex, rx⟩ := Vals.at rel e
    rw [List.getElem?_map] at ex
    obtain ⟨kk, ek, rfl⟩ := Option.map_eq_some_iff.mp ex
    refine ⟨kk, ek, kV_is rx, ?_⟩
    cases kk with
    | inl i => obtain ⟨t, rfl⟩ := rx; rfl
    | inr i => obtain ⟨t, rfl⟩ := rx; rfl
  · refine ⟨.ref s.heap.objs.size, _, I.laid (a := s.heap.objs.size) (o := setH X.prog X.w s.heap.objs.size (uniK [] ks)) (t' := tk) k (Nat.le_refl _) ⟨sx, ?_, fun h1 h2 x e => x.at e⟩, rfl, q _ hn⟩
    obtain ⟨o, e, _⟩ := sx
    exact ⟨o, e⟩
end
end L2

set_option Elab.async false
set_option linter.all false
set_option maxRecDepth 100000
set_option maxHeartbeats 4000000
namespace L2
open PySem PySem.Spec PyProof.Rows
theorem Inv.drawn {X : Cx} {pins : List (Addr × Obj)} {σ : St} {H : Hp} {s : Shared} (I : Inv X pins σ H s) (d : Drawn) : Inv X pins σ H { s with drawn := d } :=
  I.call' (s' := { s with drawn := d }) (ch := []) rfl Un.refl I.hok I.bare fun b hb => (nomatch hb)
theorem paired_map {α β γ : Type} {R : α → γ → Prop} {f : β → γ} : ∀ {xs : List α} {ys : List β}, Paired (fun x y => R x (f y)) xs ys → Paired R xs (ys.map f)
  | _, _, .nil => .nil
  | _, _, .cons h t => .cons h (paired_map t)
theorem rights : ∀ {ks : List Key}, (∀ k ∈ ks, ∃ i, k = Sum.inr i) → ∃ zs : List Str, ks = zs.map Sum.inr
  | [], _ => ⟨[], rfl⟩
  | k :: ks, h => by
    obtain ⟨i, e⟩ := h k (by simp)
    obtain ⟨zs, e2⟩ := rights (ks := ks) fun k' hk => h k' (List.mem_cons_of_mem _ hk)
    exact ⟨i :: zs, by rw [e, e2]; rfl⟩
theorem strs_paired {P : Program} {w : World} : ∀ {zs : List Str} {vs : List Value}, Paired (fun k v => (mixKind P w).is k v = true) (zs.map Sum.inr) vs → StrsAre vs zs
  | [], vs, h => by cases h; exact .nil
  | z :: zs, vs, h => by
    cases h with
    | cons r t =>
      obtain ⟨tk, rfl⟩ := kV_of r
      exact .cons z tk (strs_paired t)
theorem nodup_of_map {α β : Type} {f : α → β} {l : List α} (h : (l.map f).Nodup) : l.Nodup := by
  have h' : l.Pairwise fun a b => f a ≠ f b := List.pairwise_map.mp h
  exact h'.imp fun n e => n (by rw [e])
section
variable {X : Cx}
theorem sort_setX {pins : List (Addr × Obj)} {σ : St} {H : Hp} {s : Shared} {a : Addr} {ks : List Key} {E : Value → Shared → Prop} {Q : Value → Shared → Prop} (hh : X.A.handled = none) (I : Inv X pins σ H s) (hx : H a = some (setH X.prog X.w a ks))
    (h : ∀ (h' : Heap) (tk : Nat) (d' : Drawn) (vs : List Value) (ks' : List Key), ks'.Perm ks → ks.Nodup → Paired (fun k v => (mixKind X.prog X.w).is k v = true) ks' vs → (∀ b u, s.heap.get? b = some u → h'.get? b = some u) →
      wpAny (model X.prog X.w) X.A.in1.in1 (Builtin.«list.sort» ⟨[.ref h'.objs.size], []⟩) (fun fin s' => ∃ v, fin = .done (.ret v) ∧ Q (.ref h'.objs.size) s') E { s with heap := h'.push (seqObj "list" vs.toArray 0), toks := tk, drawn := d' }) (h64 : ks.length < 64) :
    wpAny (model X.prog X.w) X.A (call (.builtin "sorted") [.ref a]) Q E s := by
  obtain ⟨sx, _, _⟩ := (show ObjOk X.prog X.w H s.heap a (setH X.prog X.w a ks) from I.hok a _ hx)
  obtain ⟨o, ho, es, ep, t, hex, hd, el, nd, hb, hf, tb⟩ := sx
  have le := el.len
  rw [Array.length_toList] at le
  obtain ⟨_, ks1, p1, pr⟩ := el
  have sz : sizeLine = 16777216 := sizeLine_eq
  refine Calls.call_function_entry kind_sorted plain_sorted entry_sorted (args_sorted1 _) ?_
  delta Builtin.«sorted»
  refine wpAny_bind (m := checkCount "sorted" 1 1 _) (wpAny_pure (wpAny_bind (coll_setX hh ho hex hd hf hb tb fun h' tk d' vs keep pm => ?_)))
  obtain ⟨ks2, p2, pr2⟩ := paired_perm pm (paired_map (R := fun k v => (mixKind X.prog X.w).is k v = true) (f := Prod.snd) pr)
  have lv : vs.length = es.size := by have := pm.length_eq; rwa [List.length_map, Array.length_toList] at this
  refine wpAny_bind (wpAny_newList ?_ (by omega))
  have at_ : (h'.push (seqObj "list" vs.toArray 0)).get? h'.objs.size = some (seqObj "list" vs.toArray 0) := Heap.get?_push_size _ rfl
  refine wpAny_bind (wpAny_holding (wpAny_call_entry slot_list_sort ⟨_, at_, rfl⟩ entry_list_sort (wpAny_mono (h h' tk d' vs ks2 (p2.trans p1) nd pr2 keep) (fun fin s' x => ?_) fun _ _ e => e) (args_list_sort _)))
  obtain ⟨v, ev, q⟩ := x
  exact ⟨v, ev, wpAny_pure ⟨_, rfl, q⟩⟩
theorem laid_sorted {pins : List (Addr × Obj)} {σ : St} {H : Hp} {s : Shared} {h' : Heap} {vs : List Value} {out : Array Value} {zs : List V} {tk : Nat} {d' : Drawn} (I : Inv X pins σ H s) (keep : ∀ b u, s.heap.get? b = some u → h'.get? b = some u) (rel : Vals zs out.toList) (hz : zs.length ≤ sizeLine) :
    Inv X pins σ (upd H h'.objs.size (.lst zs)) { s with heap := sortedHeap (h'.push (seqObj "list" vs.toArray 0)) h'.objs.size vs out, toks := tk, drawn := d' } ∧ H h'.objs.size = none := by
  have at_ : (h'.push (seqObj "list" vs.toArray 0)).get? h'.objs.size = some (seqObj "list" vs.toArray 0) := Heap.get?_push_size _ rfl
  have new : s.heap.get? h'.objs.size = none := by
    cases z : s.heap.get? h'.objs.size with
    | none => rfl
    | some o => exact absurd (Heap.lt_size (keep _ _ z)) (Nat.lt_irrefl _)
  obtain ⟨ep2, fin⟩ := sortedHeap_at (out := out) at_
  refine ⟨(I.drawn d').laidN (a := h'.objs.size) (o := .lst zs) (t' := tk) (fun b o e => ?_) new ⟨hz, out.toList, ep2, rel, by rw [fin]⟩, I.hok.none_of new⟩
  have lt := Heap.lt_size (keep b o e)
  rw [sortedHeap_old (Nat.ne_of_lt lt) (by rw [Heap.size_push]; exact Nat.lt_succ_of_lt lt)]
  exact Heap.get?_push_of_some _ (keep b o e)
theorem call_sortedXS (hh : X.A.handled = none) : CallR X (.builtin "sorted") (fun xs H Q => ∃ (a : Addr) (ns : List Str), xs = [.ref a] ∧ H a = some (setH X.prog X.w a (uniK [] (ns.map Sum.inr))) ∧ ns.length < 64 ∧
    ∀ (p : Addr) (ms : List Str), H p = none → sortedS ms = true → ms.Nodup → (∀ j, j ∈ ms ↔ j ∈ ns) → Q (.ref p) (upd H p (.lst (ms.map V.str)))) := by
  intro pins s σ H xs us Q I r h
  obtain ⟨a, ns, rfl, hx, h64, q⟩ := h
  obtain ⟨u, rfl, ru⟩ := Vals.one r
  cases (show u = Value.ref a from ru)
  have lk := uniK_len (ns.map Sum.inr : List Key) []
  rw [List.length_nil, List.length_map] at lk
  have sz : sizeLine = 16777216 := sizeLine_eq
  refine sort_setX hh I hx (fun h' tk d' vs ks' pm nd pr keep => ?_) (by omega)
  have mem : ∀ k, k ∈ ks' ↔ k ∈ ns.map Sum.inr := fun k => by rw [pm.mem_iff, uniK_mem]; simp
  obtain ⟨zs, ez⟩ := rights fun k hk => by
    obtain ⟨i, _, e⟩ := List.mem_map.mp ((mem k).mp hk)
    exact ⟨i, e.symm⟩
  subst ez
  have at_ : (h'.push (seqObj "list" vs.toArray 0)).get? h'.objs.size = some (seqObj "list" vs.toArray 0) := Heap.get?_push_size _ rfl
  have lz := pm.length_eq
  rw [List.length_map] at lz
  have lv : vs.length = zs.length := by have := Paired.length pr; rw [List.length_map] at this; omega
  have hS := strs_paired pr
  refine list_sort_treeK strKind_oneLt (s := { s with heap := h'.push (seqObj "list" vs.toArray 0), toks := tk, drawn := d' }) at_ hS.keysOf (fun v1 v2 rest e => keyKind_strs (by rw [← e]; exact hS)) (by omega) fun st' b1 b2 => ⟨_, rfl, ?_⟩
  obtain ⟨ms, a1, a2, a3⟩ := sorted_out_str hS b1 b2
  have ndz : zs.Nodup := nodup_of_map (pm.nodup_iff.mpr nd)
  obtain ⟨J, hn⟩ := laid_sorted (vs := vs) (out := (arrOf st').map (·.2)) (zs := ms.map V.str) (tk := tk) (d' := d') I keep (vals_strs a1) (by rw [List.length_map, a2.length_eq]; omega)
  refine ⟨.ref h'.objs.size, _, J, rfl, q _ ms hn a3 (a2.nodup_iff.mpr ndz) fun j => ?_⟩
  rw [a2.mem_iff]
  have := mem (Sum.inr j)
  simpa using this
end
end L2

set_option Elab.async false
set_option linter.all false
set_option maxRecDepth 100000
set_option maxHeartbeats 4000000
namespace L2
open PySem PySem.Spec PyProof.Rows
section
variable {X : Cx} {elt iter1 iter : Expr} {ifs1 ifs : List Expr} {scope : Scope} {pos : Pos} {wi wi1 : TI} {tf tf1 : TT} {te : TE} {x y z u : Str} {px py pz pu tp tp2 : Pos} {kk kk2 : Nat}
variable {oo e : Expr} {ees : List Expr} {to : TE} {tt : TA} {name : Str} {apos cpos : Pos} {T id : String} {r : V → List V → Hp → VK → Prop}
end
end L2

set_option Elab.async false
set_option linter.all false
set_option maxRecDepth 100000
set_option maxHeartbeats 4000000
namespace L2
open PySem PySem.Spec PyProof.Rows PySem.W
/-! the tree of questions by which a list is sorted, its answers those of a rank -/
def KRun {α : Type} (bt : Nat → Nat → Bool) (n : Nat) : KasT α → (α → Prop) → Prop
  | .ret a, Q => Q a
  | .ask i j k, Q => i < n ∧ j < n ∧ KRun bt n (k (bt i j)) Q
theorem KRun.mono {α : Type} {bt : Nat → Nat → Bool} {n : Nat} {Q Q' : α → Prop} (h : ∀ a, Q a → Q' a) : ∀ {t : KasT α}, KRun bt n t Q → KRun bt n t Q'
  | .ret a, x => h a x
  | .ask i j k, ⟨a, b, c⟩ => ⟨a, b, KRun.mono h c⟩
theorem KRun.bind {α β : Type} {bt : Nat → Nat → Bool} {n : Nat} {f : α → KasT β} {Q : β → Prop} : ∀ {t : KasT α}, KRun bt n t (fun a => KRun bt n (f a) Q) → KRun bt n (t.bind f) Q
  | .ret a, x => x
  | .ask i j k, ⟨a, b, c⟩ => ⟨a, b, KRun.bind c⟩
theorem KRun.wp {α : Type} {bt : Nat → Nat → Bool} {n : Nat} {ask : Nat → Nat → (Bool → Shared → Prop) → Shared → Prop} {J : Shared → Prop} {Q : α → Prop} {G : α → Shared → Prop}
    (ha : ∀ i j, i < n → j < n → ∀ (C : Bool → Shared → Prop) s, J s → (∀ s', J s' → C (bt i j) s') → ask i j C s) (hg : ∀ a s, Q a → J s → G a s) : ∀ {t : KasT α} {s : Shared}, KRun bt n t Q → J s → t.kasWp ask G s
  | .ret a, s, x, j => hg a s x j
  | .ask i j k, s, ⟨a, b, c⟩, js => ha i j a b _ s js fun s' js' => KRun.wp ha hg c js'
section
variable {n : Nat} {r : Nat → Nat}
def vA (r : Nat → Nat) (p : Array Nat) (k : Nat) : Nat := r (p.getD k 0)
structure Gd (n : Nat) (p : Array Nat) : Prop where
  pm : p.toList.Perm (List.range n)
theorem Gd.sz {p : Array Nat} (g : Gd n p) : p.size = n := by have := g.pm.length_eq; rwa [Array.length_toList, List.length_range] at this
theorem Gd.at {p : Array Nat} (g : Gd n p) {k : Nat} (h : k < n) : p[k]? = some (p.getD k 0) := by
  rw [Array.getD_eq_getD_getElem?, Array.getElem?_eq_getElem (by rw [g.sz]; exact h)]
  rfl
theorem Gd.lt {p : Array Nat} (g : Gd n p) (hn : 0 < n) (k : Nat) : p.getD k 0 < n := by
  by_cases h : k < n
  · have := g.at h
    rw [← Array.getElem?_toList] at this
    exact List.mem_range.mp (g.pm.mem_iff.mp (List.mem_of_getElem? this))
  · rw [Array.getD_eq_getD_getElem?, Array.getElem?_eq_none (by rw [g.sz]; omega)]
    exact hn
theorem Gd.inj {p : Array Nat} (g : Gd n p) (ri : ∀ i j, i < n → j < n → r i = r j → i = j) {i j : Nat} (hi : i < n) (hj : j < n) (e : vA r p i = vA r p j) : i = j := by
  have hn : 0 < n := by omega
  have h1 := ri _ _ (g.lt hn i) (g.lt hn j) e
  have nd : p.toList.Nodup := g.pm.nodup_iff.mpr List.nodup_range
  have a1 := g.at hi
  have a2 := g.at hj
  rw [← Array.getElem?_toList] at a1 a2
  obtain ⟨b1, c1⟩ := List.getElem?_eq_some_iff.mp a1
  obtain ⟨b2, c2⟩ := List.getElem?_eq_some_iff.mp a2
  exact (List.getElem_inj nd).mp (by rw [c1, c2, h1])
theorem Gd.rev {p : Array Nat} (g : Gd n p) (i j : Nat) : Gd n (kas_rev p i j) := ⟨(Array.perm_iff_toList_perm.mp (mirror_perm p i j _)).trans g.pm⟩
theorem Gd.bub {p : Array Nat} (g : Gd n p) (i j : Nat) : Gd n (bubble p i j) := ⟨(Array.perm_iff_toList_perm.mp (bubble_perm p i j)).trans g.pm⟩
def AscA (r : Nat → Nat) (p : Array Nat) (m : Nat) : Prop := ∀ i j, i < j → j < m → vA r p i < vA r p j
def DscA (r : Nat → Nat) (p : Array Nat) (m : Nat) : Prop := ∀ i j, i < j → j < m → vA r p j < vA r p i
theorem AscA.step {p : Array Nat} {m : Nat} (h : AscA r p m) (h1 : 1 ≤ m) (h2 : vA r p (m - 1) < vA r p m) : AscA r p (m + 1) := fun i j hij hj => by
  by_cases e : j = m
  · subst e
    by_cases e2 : i = j - 1
    · subst e2; exact h2
    · have := h i (j - 1) (by omega) (by omega)
      omega
  · exact h i j hij (by omega)
theorem DscA.step {p : Array Nat} {m : Nat} (h : DscA r p m) (h1 : 1 ≤ m) (h2 : vA r p m < vA r p (m - 1)) : DscA r p (m + 1) := fun i j hij hj => by
  by_cases e : j = m
  · subst e
    by_cases e2 : i = j - 1
    · subst e2; exact h2
    · have := h i (j - 1) (by omega) (by omega)
      omega
  · exact h i j hij (by omega)
variable {bt : Nat → Nat → Bool} (ri : ∀ i j, i < n → j < n → r i = r j → i = j) (hb : ∀ i j, i < n → j < n → bt i j = decide (r i < r j))
include ri hb
theorem run_asc {p : Array Nat} (g : Gd n p) : ∀ (f m : Nat), 1 ≤ m → m + f ≤ n → AscA r p m → KRun bt n (kas_asc p f m) fun m' => AscA r p m' ∧ m ≤ m' ∧ m' ≤ m + f ∧ (m' < m + f → vA r p m' < vA r p (m' - 1))
  | 0, m, h1, h2, a => ⟨a, Nat.le_refl _, Nat.le_refl _, fun z => absurd z (Nat.lt_irrefl _)⟩
  | f + 1, m, h1, h2, a => by
    have hn : 0 < n := by omega
    refine ⟨g.lt hn _, g.lt hn _, ?_⟩
    rw [hb _ _ (g.lt hn _) (g.lt hn _)]
    by_cases c : vA r p m < vA r p (m - 1)
    · rw [show decide (r (p.getD m 0) < r (p.getD (m - 1) 0)) = true from decide_eq_true c]
      dsimp only
      rw [if_pos rfl]
      exact ⟨a, Nat.le_refl _, by omega, fun _ => c⟩
    · rw [show decide (r (p.getD m 0) < r (p.getD (m - 1) 0)) = false from decide_eq_false c]
      dsimp only
      rw [if_neg Bool.false_ne_true]
      have ne : vA r p m ≠ vA r p (m - 1) := fun z => by have := g.inj ri (by omega) (by omega) z; omega
      refine KRun.mono (fun m' ⟨b1, b2, b3, b4⟩ => ⟨b1, by omega, by omega, fun z => b4 (by omega)⟩) (run_asc g f (m + 1) (by omega) (by omega) (a.step h1 (by omega)))
theorem run_desc {p : Array Nat} (g : Gd n p) : ∀ (f m : Nat), 1 ≤ m → m + f ≤ n → DscA r p m → KRun bt n (kas_desc f p m 0) fun x => x.1 = p ∧ x.2.2 = 0 ∧ DscA r p x.2.1 ∧ m ≤ x.2.1 ∧ x.2.1 ≤ m + f
  | 0, m, h1, h2, a => ⟨rfl, rfl, a, Nat.le_refl _, Nat.le_refl _⟩
  | f + 1, m, h1, h2, a => by
    have hn : 0 < n := by omega
    refine ⟨g.lt hn _, g.lt hn _, ?_⟩
    rw [hb _ _ (g.lt hn _) (g.lt hn _)]
    by_cases c : vA r p m < vA r p (m - 1)
    · rw [show decide (r (p.getD m 0) < r (p.getD (m - 1) 0)) = true from decide_eq_true c]
      dsimp only
      rw [if_pos rfl, if_neg (Nat.lt_irrefl 0)]
      exact KRun.mono (fun x ⟨b0, b1, b2, b3, b4⟩ => ⟨b0, b1, b2, by omega, by omega⟩) (run_desc g f (m + 1) (by omega) (by omega) (a.step h1 c))
    · rw [show decide (r (p.getD m 0) < r (p.getD (m - 1) 0)) = false from decide_eq_false c]
      dsimp only
      rw [if_neg Bool.false_ne_true]
      have ne : vA r p m ≠ vA r p (m - 1) := fun z => by have := g.inj ri (by omega) (by omega) z; omega
      refine ⟨g.lt hn _, g.lt hn _, ?_⟩
      rw [hb _ _ (g.lt hn _) (g.lt hn _), show decide (r (p.getD (m - 1) 0) < r (p.getD m 0)) = true from decide_eq_true (show vA r p (m - 1) < vA r p m by omega)]
      dsimp only
      rw [if_pos rfl]
      exact ⟨rfl, rfl, a, Nat.le_refl _, (by show m ≤ m + (f + 1); omega)⟩
theorem run_place {p : Array Nat} (g : Gd n p) {k : Nat} (hk : k < n) (a : AscA r p k) : ∀ (f l h : Nat), h - l ≤ f → l ≤ h → h ≤ k → (∀ i, i < l → vA r p i < vA r p k) → (∀ i, h ≤ i → i < k → vA r p k < vA r p i) →
    KRun bt n (kas_place p k f l h) fun x => x ≤ k ∧ (∀ i, i < x → vA r p i < vA r p k) ∧ ∀ i, x ≤ i → i < k → vA r p k < vA r p i
  | 0, l, h, h1, h2, h3, a1, a2 => by
    have e : l = h := by omega
    subst e
    exact ⟨h3, a1, a2⟩
  | f + 1, l, h, h1, h2, h3, a1, a2 => by
    have hn : 0 < n := by omega
    unfold kas_place
    by_cases c : l ≥ h
    · rw [if_pos c]
      have e : l = h := by omega
      subst e
      exact ⟨h3, a1, a2⟩
    · rw [if_neg c]
      refine ⟨g.lt hn _, g.lt hn _, ?_⟩
      rw [hb _ _ (g.lt hn _) (g.lt hn _)]
      by_cases d : vA r p k < vA r p ((l + h) / 2)
      · rw [show decide (r (p.getD k 0) < r (p.getD ((l + h) / 2) 0)) = true from decide_eq_true d]
        dsimp only
        rw [if_pos rfl]
        refine run_place g hk a f l _ (by omega) (by omega) (by omega) a1 fun i hi hik => ?_
        by_cases q : i = (l + h) / 2
        · rw [q]; exact d
        · have := a ((l + h) / 2) i (by omega) hik
          omega
      · rw [show decide (r (p.getD k 0) < r (p.getD ((l + h) / 2) 0)) = false from decide_eq_false d]
        dsimp only
        rw [if_neg Bool.false_ne_true]
        have ne : vA r p k ≠ vA r p ((l + h) / 2) := fun z => by have := g.inj ri hk (by omega) z; omega
        refine run_place g hk a f _ h (by omega) (by omega) h3 (fun i hi => ?_) a2
        by_cases q : i = (l + h) / 2
        · rw [q]; omega
        · have := a i ((l + h) / 2) (by omega) (by omega)
          omega
omit hb in
theorem rev_asc {p : Array Nat} (g : Gd n p) {m : Nat} (hm : m ≤ n) (d : DscA r p m) : AscA r (kas_rev p 0 m) m := fun i j hij hj => by
  have at_ : ∀ k, k < m → vA r (kas_rev p 0 m) k = vA r p (m - 1 - k) := fun k hk => by
    unfold vA kas_rev
    have e := getElem?_mirror_all (xs := p) (i := 0) (j := m) (by rw [g.sz]; exact hm) k
    rw [if_pos ⟨Nat.zero_le _, hk⟩, Nat.zero_add] at e
    rw [Array.getD_eq_getD_getElem?, e, ← Array.getD_eq_getD_getElem?]
  rw [at_ i (by omega), at_ j hj]
  exact d _ _ (by omega) (by omega)
theorem run_tail {p : Array Nat} (g : Gd n p) {m : Nat} (h1 : 1 ≤ m) (hm : m ≤ n) (d : DscA r p m) : KRun bt n (kas_tail3 m n p) fun x => Gd n x.2 ∧ AscA r x.2 x.1 ∧ 1 ≤ x.1 ∧ x.1 ≤ n := by
  unfold kas_tail3
  refine KRun.bind (KRun.mono (fun m' ⟨a1, a2, a3, _⟩ => ?_) (run_asc ri hb (g.rev 0 m) (n - m) m h1 (by omega) (rev_asc ri g hm d)))
  exact ⟨g.rev 0 m, a1, by show 1 ≤ m'; omega, by show m' ≤ n; omega⟩
theorem run_count {p : Array Nat} (g : Gd n p) (h2 : 2 ≤ n) : KRun bt n (kas_count n p) fun x => Gd n x.2 ∧ AscA r x.2 x.1 ∧ 1 ≤ x.1 ∧ x.1 ≤ n := by
  have hn : 0 < n := by omega
  unfold kas_count
  refine KRun.bind (KRun.mono (fun m ⟨a1, a2, a3, a4⟩ => ?_) (run_asc ri hb g (n - 1) 1 (Nat.le_refl _) (by omega) fun i j hij hj => by omega))
  by_cases c : (m == n) = true
  · rw [if_pos c]
    exact ⟨g, a1, a2, by show m ≤ n; omega⟩
  · rw [if_neg c]
    have mn : m < n := by
      have : m ≠ n := fun z => c (by rw [z]; simp)
      omega
    by_cases c1 : m > 1
    · rw [if_pos c1]
      refine ⟨g.lt hn _, g.lt hn _, ?_⟩
      rw [hb _ _ (g.lt hn _) (g.lt hn _), show decide (r (p.getD 0 0) < r (p.getD (m - 1) 0)) = true from decide_eq_true (show vA r p 0 < vA r p (m - 1) from a1 0 (m - 1) (by omega) (by omega))]
      dsimp only
      rw [if_pos rfl]
      exact ⟨g, a1, a2, by show m ≤ n; omega⟩
    · rw [if_neg c1]
      have e : m = 1 := by omega
      subst e
      have d2 : DscA r p 2 := fun i j hij hj => by
        have : i = 0 := by omega
        have : j = 1 := by omega
        subst i j
        exact a4 (by omega)
      unfold kas_descPart
      refine KRun.bind (KRun.mono (fun x ⟨b0, b1, b2, b3, b4⟩ => ?_) (run_desc ri hb g (n - (1 + 1)) (1 + 1) (by omega) (by omega) d2))
      rw [b1, if_neg (Nat.lt_irrefl 0), b0]
      exact run_tail ri hb g (by omega) (by omega) b2
theorem run_bin : ∀ (f : Nat) (p : Array Nat) (k : Nat), Gd n p → k + f = n → AscA r p k → KRun bt n (kas_bin f p k) fun x => Gd n x ∧ AscA r x n
  | 0, p, k, g, e, a => by
    have : k = n := by omega
    subst this
    exact ⟨g, a⟩
  | f + 1, p, k, g, e, a => by
    unfold kas_bin
    have hk : k < n := by omega
    refine KRun.bind (KRun.mono (fun l ⟨a1, a2, a3⟩ => ?_) (run_place ri hb g hk a k 0 k (by omega) (Nat.zero_le _) (Nat.le_refl _) (fun i hi => absurd hi (Nat.not_lt_zero _)) fun i h1 h2 => by omega))
    refine run_bin f _ (k + 1) (g.bub k (k - l)) (by omega) fun i j hij hj => ?_
    have at_ : ∀ i, vA r (bubble p k (k - l)) i = if i = l then vA r p k else if l < i ∧ i ≤ k then vA r p (i - 1) else vA r p i := fun i => by
      unfold vA
      have e := getElem?_bubble (xs := p) (src := k) (by rw [g.sz]; exact hk) (k - l) (by omega) i
      rw [show k - (k - l) = l by omega] at e
      rw [Array.getD_eq_getD_getElem?, e]
      by_cases c1 : i = l
      · rw [if_pos c1, if_pos c1, ← Array.getD_eq_getD_getElem?]
      · rw [if_neg c1, if_neg c1]
        by_cases c2 : l < i ∧ i ≤ k
        · rw [if_pos c2, if_pos c2, ← Array.getD_eq_getD_getElem?]
        · rw [if_neg c2, if_neg c2, ← Array.getD_eq_getD_getElem?]
    rw [at_ i, at_ j]
    by_cases c1 : i = l
    · rw [if_pos c1, if_neg (by omega), if_pos (by omega)]
      exact a3 (j - 1) (by omega) (by omega)
    · rw [if_neg c1]
      by_cases c2 : l < i ∧ i ≤ k
      · rw [if_pos c2, if_neg (by omega), if_pos (by omega)]
        exact a (i - 1) (j - 1) (by omega) (by omega)
      · rw [if_neg c2]
        by_cases c3 : j = l
        · rw [if_pos c3]
          exact a2 i (by omega)
        · rw [if_neg c3]
          by_cases c4 : l < j ∧ j ≤ k
          · rw [if_pos c4]
            by_cases c5 : i = j - 1
            · omega
            · exact a i (j - 1) (by omega) (by omega)
          · rw [if_neg c4]
            exact a i j hij (by omega)
theorem run_sort (h2 : 2 ≤ n) : KRun bt n (kas_sort n) fun p => p.toList.Perm (List.range n) ∧ (p.toList.map r).Pairwise (· < ·) := by
  have fin : ∀ p : Array Nat, Gd n p → AscA r p n → p.toList.Perm (List.range n) ∧ (p.toList.map r).Pairwise (· < ·) := fun p g a => by
    refine ⟨g.pm, List.pairwise_map.mpr (List.pairwise_iff_getElem.mpr fun i j hi hj hij => ?_)⟩
    rw [Array.length_toList, g.sz] at hi hj
    have := a i j hij hj
    unfold vA at this
    rw [Array.getD_eq_getD_getElem?, Array.getD_eq_getD_getElem?, Array.getElem?_eq_getElem (by rw [g.sz]; exact hi), Array.getElem?_eq_getElem (by rw [g.sz]; exact hj)] at this
    simpa using this
  unfold kas_sort
  refine KRun.bind (KRun.mono (fun x ⟨g, a, b1, b2⟩ => ?_) (run_count ri hb (p := List.toArray (List.range n)) ⟨.refl _⟩ h2))
  by_cases c : x.1 < n
  · rw [if_pos c, Nat.max_eq_left b1]
    exact KRun.mono (fun p ⟨g', a'⟩ => fin p g' a') (run_bin ri hb (n - x.1) x.2 x.1 g (by omega) a)
  · rw [if_neg c]
    have e : x.1 = n := by omega
    rw [e] at a
    exact fin x.2 g a
end
end L2

set_option Elab.async false
set_option linter.all false
set_option maxRecDepth 100000
set_option maxHeartbeats 4000000
namespace L2
open PySem PySem.Spec PyProof.Rows PySem.W
section
variable {prog : Program} {w : World} {A : Around} {E : Value → Shared → Prop} {s : Shared}
theorem range_getD (vs : List Value) : ((List.range vs.length).map fun i => vs.getD i Value.none) = vs := by
  refine List.ext_getElem (by simp) fun i h1 h2 => ?_
  simp [h2]
theorem sort_rank {a : Addr} {vs : List Value} {n : Nat} {P : PySem.Fin → Shared → Prop} (ho : s.heap.get? a = some (seqObj "list" vs.toArray n)) (h64 : vs.length < 64) (r : Nat → Nat) (ri : ∀ i j, i < vs.length → j < vs.length → r i = r j → i = j)
    (hk : 2 ≤ vs.length → ∀ h', (∀ b o, b ≠ a → s.heap.get? b = some o → h'.get? b = some o) → ∃ κ, (∀ Q : SortKind → Shared → Prop, Q κ { s with heap := h' } → wpAny (model prog w) A (keyKind' vs.toArray) Q (fun _ _ => False) { s with heap := h' }) ∧
      ∀ i j, i < vs.length → j < vs.length → ∀ C : Bool → Shared → Prop, C (decide (r i < r j)) { s with heap := h' } → kas_ask prog w A κ vs i j C { s with heap := h' })
    (h : ∀ p : List Nat, p.Perm (List.range vs.length) → (p.map r).Pairwise (· < ·) → P (.done (.ret .none)) { s with heap := sortedHeap s.heap a vs (p.map fun i => vs.getD i Value.none).toArray }) :
    wpAny (model prog w) A (Builtin.«list.sort» ⟨[.ref a], []⟩) P E s := by
  have ha : a < s.heap.objs.size := Heap.lt_size ho
  have sz : sizeLine = 16777216 := sizeLine_eq
  obtain ⟨e1, ho1⟩ : ∃ e1, (s.heap.update a (Obj.mapSeq fun _ => (#[] : Array Value))).get? a = some (seqObj "list" #[] e1) := ⟨_, get?_update_seq ho fun _ => #[]⟩
  rw [list_sort_plain]
  refine wpAny_bind (listItems_at ho rfl (wpAny_bind (listUpdate_at ho rfl ?_ (by rw [List.size_toArray]; omega) (Nat.zero_le _))))
  refine wpAny_bind (seqEpoch_at ho1 rfl (wpAny_bind (wpAny_newTuple ?_ (by show vs.length ≤ _; omega))))
  refine wpAny_bind (wpAny_newList ?_ (Nat.zero_le _))
  refine wpAny_holding (show wpAny (model prog w) A _ P E { s with heap := ((s.heap.update a (Obj.mapSeq fun _ => (#[] : Array Value))).push (seqObj "tuple" vs.toArray 0)).push (seqObj "list" #[] 0) } from ?_)
  have ho6 : (((s.heap.update a (Obj.mapSeq fun _ => (#[] : Array Value))).push (seqObj "tuple" vs.toArray 0)).push (seqObj "list" #[] 0)).get? a = some (seqObj "list" #[] e1) := Heap.get?_push_of_some _ (Heap.get?_push_of_some _ ho1)
  have oth : ∀ b o, b ≠ a → s.heap.get? b = some o → (((s.heap.update a (Obj.mapSeq fun _ => (#[] : Array Value))).push (seqObj "tuple" vs.toArray 0)).push (seqObj "list" #[] 0)).get? b = some o := fun b o hb e => Heap.get?_push_of_some _ (Heap.get?_push_of_some _ ((Heap.get?_update_other _ _ (Ne.symm hb)).trans e))
  dsimp only
  by_cases h2 : vs.toArray.size < 2
  · rw [if_pos h2, if_pos h2]
    have l2 : vs.length < 2 := by rw [List.size_toArray] at h2; exact h2
    refine wpAny_bind (wpAny_pure ?_)
    rw [StateT.run_pure]
    refine wpAny_bind (wpAny_pure ?_)
    dsimp only
    have eo : ((vs.toArray.zip vs.toArray).map (·.2)) = ((List.range vs.length).map fun i => vs.getD i Value.none).toArray := by
      rw [range_getD]
      refine Array.ext (by simp) fun i h1 h3 => ?_
      simp
    refine wpAny_bind (seqEpoch_at ho6 rfl (wpAny_bind (listUpdate_at ho6 rfl ?_ (Nat.zero_le _) (by rw [show arrOf (SortSt.mk' general' (vs.toArray.zip vs.toArray) #[] 7 none) = vs.toArray.zip vs.toArray from rfl, eo, range_getD, List.size_toArray]; omega))))
    simp only [bne_self_eq_false, Bool.false_eq_true, if_false]
    refine wpAny_pure ?_
    have := h (List.range vs.length) (.refl _) (List.pairwise_map.mpr (List.pairwise_iff_getElem.mpr fun i j hi hj hij => by simp at hj; omega))
    rw [← eo] at this
    exact this
  · rw [if_neg h2, if_neg h2]
    have h2' : 2 ≤ vs.length := by rw [List.size_toArray] at h2; omega
    obtain ⟨κ, kk, ask⟩ := hk h2' _ oth
    refine wpAny_bind (wpAny_mono (kk (fun κ' s' => κ' = κ ∧ s' = _) ⟨rfl, rfl⟩) (fun κ' s' e => ?_) fun _ _ x => x.elim)
    obtain ⟨e1', e2'⟩ := e
    subst e1' e2'
    refine wpAny_bind (wpAny_mono (kat_run (ks := vs) (vs := vs) (κ := κ') (Q := fun st' s' => ∃ p : Array Nat, arrOf st' = p.map (kas_item (vs.toArray.zip vs.toArray)) ∧ failedOf st' = none ∧ p.toList.Perm (List.range vs.length) ∧ (p.toList.map r).Pairwise (· < ·) ∧ s' = { s with heap := ((s.heap.update a (Obj.mapSeq fun _ => (#[] : Array Value))).push (seqObj "tuple" vs.toArray 0)).push (seqObj "list" #[] 0) })
      (G := fun p s' => p.toList.Perm (List.range vs.length) ∧ (p.toList.map r).Pairwise (· < ·) ∧ s' = { s with heap := ((s.heap.update a (Obj.mapSeq fun _ => (#[] : Array Value))).push (seqObj "tuple" vs.toArray 0)).push (seqObj "list" #[] 0) })
      rfl h2' h64 (fun p st' s' _ a2 a3 ⟨a4, a5, a6⟩ => ⟨p, a2, a3, a4, a5, a6⟩) (KRun.wp (J := fun s' => s' = { s with heap := ((s.heap.update a (Obj.mapSeq fun _ => (#[] : Array Value))).push (seqObj "tuple" vs.toArray 0)).push (seqObj "list" #[] 0) }) (bt := fun i j => decide (r i < r j)) (n := vs.length)
        (fun i j hi hj C s' e c => ?_) (fun p s' ⟨q1, q2⟩ e => ⟨q1, q2, e⟩) (run_sort ri (fun i j _ _ => rfl) h2') rfl)) (fun x s' hx => ?_) fun _ _ e => e)
    · subst e
      exact ask i j hi hj C (c _ rfl)
    · obtain ⟨⟨⟩, st'⟩ := x
      obtain ⟨p, b1, b2, b3, b4, b5⟩ := hx
      subst b5
      dsimp only
      have hout := kat_snds (ks := vs) (vs := vs) rfl b1
      have lp : p.toList.length = vs.length := by have := b3.length_eq; rwa [List.length_range] at this
      refine wpAny_bind (seqEpoch_at ho6 rfl (wpAny_bind (listUpdate_at ho6 rfl ?_ (Nat.zero_le _) (by rw [hout, List.size_toArray, List.length_map]; omega))))
      rw [b2]
      simp only [bne_self_eq_false, Bool.false_eq_true, if_false]
      refine wpAny_pure ?_
      have := h p.toList b3 b4
      rw [← hout] at this
      exact this
end
end L2

set_option Elab.async false
set_option linter.all false
set_option maxRecDepth 100000
set_option maxHeartbeats 4000000
namespace L2
open PySem PySem.Spec PyProof.Rows PySem.W
/-! ranks -/
def rkB (n : Nat) (lt : Nat → Nat → Bool) (i : Nat) : Nat := (List.range n).countP fun j => lt j i
theorem rkB_lt {n : Nat} {lt : Nat → Nat → Bool} (irr : ∀ i, i < n → lt i i = false) (tr : ∀ i j k, i < n → j < n → k < n → lt i j = true → lt j k = true → lt i k = true) {i j : Nat} (hi : i < n) (hj : j < n) (h : lt i j = true) : rkB n lt i < rkB n lt j := by
  unfold rkB
  have sub : ∀ l : List Nat, (∀ x ∈ l, x < n) → l.countP (fun x => lt x i) ≤ l.countP (fun x => lt x j) := fun l => by
    induction l with
    | nil => intro _; exact Nat.le_refl _
    | cons x l ih =>
      intro hl
      have h1 := ih fun y hy => hl y (List.mem_cons_of_mem _ hy)
      rw [List.countP_cons, List.countP_cons]
      by_cases c : lt x i = true
      · have := tr x i j (hl x (by simp)) hi hj c h
        rw [if_pos c, if_pos this]; omega
      · rw [if_neg c]
        split <;> omega
  have stric : ∀ l : List Nat, (∀ x ∈ l, x < n) → i ∈ l → l.countP (fun x => lt x i) < l.countP (fun x => lt x j) := fun l => by
    induction l with
    | nil => intro _ z; cases z
    | cons x l ih =>
      intro hl hm
      have hl' : ∀ y ∈ l, y < n := fun y hy => hl y (List.mem_cons_of_mem _ hy)
      rw [List.countP_cons, List.countP_cons]
      rcases List.mem_cons.mp hm with z | z
      · subst z
        rw [if_neg (by rw [irr i hi]; exact Bool.false_ne_true), if_pos h]
        have := sub l hl'
        omega
      · have h1 := ih hl' z
        by_cases c : lt x i = true
        · have := tr x i j (hl x (by simp)) hi hj c h
          rw [if_pos c, if_pos this]; omega
        · rw [if_neg c]
          split <;> omega
  exact stric _ (fun x hx => List.mem_range.mp hx) (List.mem_range.mpr hi)
theorem rkB_iff {n : Nat} {lt : Nat → Nat → Bool} (irr : ∀ i, i < n → lt i i = false) (tr : ∀ i j k, i < n → j < n → k < n → lt i j = true → lt j k = true → lt i k = true) (tot : ∀ i j, i < n → j < n → i ≠ j → lt i j = true ∨ lt j i = true) {i j : Nat} (hi : i < n) (hj : j < n) : lt i j = decide (rkB n lt i < rkB n lt j) := by
  by_cases c : lt i j = true
  · rw [c, decide_eq_true (rkB_lt irr tr hi hj c)]
  · rw [(Bool.not_eq_true _).mp c, eq_comm]
    refine decide_eq_false fun z => ?_
    by_cases e : i = j
    · subst e; omega
    · rcases tot i j hi hj e with q | q
      · exact c q
      · have := rkB_lt irr tr hj hi q; omega
theorem rkB_inj {n : Nat} {lt : Nat → Nat → Bool} (irr : ∀ i, i < n → lt i i = false) (tr : ∀ i j k, i < n → j < n → k < n → lt i j = true → lt j k = true → lt i k = true) (tot : ∀ i j, i < n → j < n → i ≠ j → lt i j = true ∨ lt j i = true) (i j : Nat) (hi : i < n) (hj : j < n) (e : rkB n lt i = rkB n lt j) : i = j := by
  by_cases c : i = j
  · exact c
  · rcases tot i j hi hj c with q | q
    · have := rkB_lt irr tr hi hj q; omega
    · have := rkB_lt irr tr hj hi q; omega
/-! texts in order -/
def ltS (a b : Str) : Bool := decide (a.cps.toList < b.cps.toList)
theorem ltS_irr (a : Str) : ltS a a = false := decide_eq_false (List.lt_irrefl _)
theorem ltS_tr {a b c : Str} (h1 : ltS a b = true) (h2 : ltS b c = true) : ltS a c = true := decide_eq_true (List.lt_trans (of_decide_eq_true h1) (of_decide_eq_true h2))
theorem str_ext {a b : Str} (h : a.cps.toList = b.cps.toList) : a = b := by
  cases a; cases b
  congr
  exact Array.toList_inj.mp h
theorem ltS_tot {a b : Str} (h : a ≠ b) : ltS a b = true ∨ ltS b a = true := by
  by_cases c1 : a.cps.toList < b.cps.toList
  · exact .inl (decide_eq_true c1)
  · by_cases c2 : b.cps.toList < a.cps.toList
    · exact .inr (decide_eq_true c2)
    · exact absurd (str_ext (List.le_antisymm (show a.cps.toList ≤ b.cps.toList from c2) c1)) h
theorem risingS_pw : ∀ {l : List Str} {p : Str}, risingS p l = true → (p :: l).Nodup → (p :: l).Pairwise fun a b => ltS a b = true
  | [], p, _, _ => List.pairwise_singleton _ _
  | x :: l, p, h, nd => by
    have h' : (!ltCps x.cps.toList p.cps.toList && risingS x l) = true := h
    rw [Bool.and_eq_true] at h'
    have nd2 := List.nodup_cons.mp nd
    have ih := risingS_pw h'.2 nd2.2
    have hpx : ltS p x = true := by
      rcases ltS_tot (a := p) (b := x) (fun e => nd2.1 (by rw [e]; simp)) with q | q
      · exact q
      · have z := h'.1
        rw [ltCps_eq] at z
        rw [show decide (x.cps.toList < p.cps.toList) = true from q] at z
        cases z
    refine List.pairwise_cons.mpr ⟨fun b hb => ?_, ih⟩
    rcases List.mem_cons.mp hb with e | e
    · rw [e]; exact hpx
    · exact ltS_tr hpx ((List.pairwise_cons.mp ih).1 b e)
theorem sortedS_pw {l : List Str} (h : sortedS l = true) (nd : l.Nodup) : l.Pairwise fun a b => ltS a b = true := by
  cases l with
  | nil => exact .nil
  | cons p l => exact risingS_pw h nd
theorem upS_eq : ∀ {xs ys : List Str}, (xs.Pairwise fun a b => ltS a b = true) → (ys.Pairwise fun a b => ltS a b = true) → (∀ j, j ∈ xs ↔ j ∈ ys) → xs = ys
  | [], [], _, _, _ => rfl
  | [], y :: ys, _, _, h => absurd ((h y).mpr (by simp)) (by simp)
  | x :: xs, [], _, _, h => absurd ((h x).mp (by simp)) (by simp)
  | x :: xs, y :: ys, hx, hy, h => by
    obtain ⟨x1, x2⟩ := List.pairwise_cons.mp hx
    obtain ⟨y1, y2⟩ := List.pairwise_cons.mp hy
    have no : ∀ {a b : Str}, ltS a b = true → ltS b a = true → False := fun h1 h2 => by have := ltS_tr h1 h2; rw [ltS_irr] at this; cases this
    have e : x = y := by
      rcases List.mem_cons.mp ((h x).mp (by simp)) with a | a
      · exact a
      · rcases List.mem_cons.mp ((h y).mpr (by simp)) with b | b
        · exact b.symm
        · exact (no (x1 y b) (y1 x a)).elim
    subst e
    have irr : ∀ {l : List Str}, (∀ b ∈ l, ltS x b = true) → x ∉ l := fun hl z => by have := hl x z; rw [ltS_irr] at this; cases this
    rw [upS_eq x2 y2 fun j => ?_]
    constructor
    · intro hj
      rcases List.mem_cons.mp ((h j).mp (List.mem_cons_of_mem _ hj)) with a | a
      · exact absurd (a ▸ hj) (irr x1)
      · exact a
    · intro hj
      rcases List.mem_cons.mp ((h j).mpr (List.mem_cons_of_mem _ hj)) with a | a
      · exact absurd (a ▸ hj) (irr y1)
      · exact a
section
variable {X : Cx} {pins : List (Addr × Obj)} {σ : St} {s : Shared}
theorem track_all : ∀ (as : List Addr) (xs : List (List V)) (H : Hp), as.Nodup → (∀ a ∈ as, FpOk X pins H a) → Inv X pins σ H s → as.length = xs.length →
    (∀ (j : Nat) a ys, as[j]? = some a → xs[j]? = some ys → ys.length ≤ sizeLine ∧ ∃ its : List Value, Vals ys its ∧ IsTup s.heap a its.toArray) →
    ∃ H', Inv X pins σ H' s ∧ Same H H' ∧ (∀ c, c ∉ as → H' c = H c) ∧ ∀ (j : Nat) a ys, as[j]? = some a → xs[j]? = some ys → H' a = some (.tup ys)
  | [], xs, H, _, _, I, _, _ => ⟨H, I, Same.refl _, fun _ _ => rfl, fun j a ys e => by simp at e⟩
  | a :: as, [], H, _, _, _, l, _ => by simp at l
  | a :: as, ys :: xs, H, nd, fp, I, l, ob => by
    obtain ⟨na, nd'⟩ := List.nodup_cons.mp nd
    obtain ⟨z, its, rv, it⟩ := ob 0 a ys rfl rfl
    have I1 : Inv X pins σ (upd H a (.tup ys)) s := I.track (fp a (by simp)) ⟨z, its, rv, it⟩
    have fp1 : ∀ b ∈ as, FpOk X pins (upd H a (.tup ys)) b := fun b hb => ⟨by rw [upd_ne (show b ≠ a from fun e => na (e ▸ hb))]; exact (fp b (List.mem_cons_of_mem _ hb)).1, (fp b (List.mem_cons_of_mem _ hb)).2⟩
    obtain ⟨H', I', s', o', t'⟩ := track_all as xs _ nd' fp1 I1 (by simpa using l) fun j b zs e1 e2 => ob (j + 1) b zs (by simpa using e1) (by simpa using e2)
    refine ⟨H', I', (same_upd (fp a (by simp)).1).trans s', fun c hc => ?_, fun j b zs e1 e2 => ?_⟩
    · rw [o' c (fun z => hc (List.mem_cons_of_mem _ z)), upd_ne (fun z => hc (by rw [z]; simp))]
    · cases j with
      | zero =>
        cases e1
        cases e2
        exact s' _ _ upd_same
      | succ j => exact t' j b zs (by simpa using e1) (by simpa using e2)
end
end L2

set_option Elab.async false
set_option linter.all false
set_option maxRecDepth 100000
set_option maxHeartbeats 4000000
namespace L2
open PySem PySem.Spec PyProof.Rows PySem.W
def ltI (kvs : List (Str × Int)) (i j : Nat) : Bool := ltS (kvs.getD i ("", 0)).1 (kvs.getD j ("", 0)).1
theorem ltI_tot {kvs : List (Str × Int)} (nd : (kvs.map (·.1)).Nodup) (i j : Nat) (hi : i < kvs.length) (hj : j < kvs.length) (h : i ≠ j) : ltI kvs i j = true ∨ ltI kvs j i = true := by
  refine ltS_tot fun e => h ?_
  have e1 : (kvs.map (·.1))[i]'(by simpa using hi) = (kvs.map (·.1))[j]'(by simpa using hj) := by simpa [hi, hj] using e
  exact (List.getElem_inj nd).mp e1
theorem katTups_of {h : Heap} : ∀ (as : List Addr), (∀ a ∈ as, ∃ o xs n x t, h.get? a = some o ∧ o.cls = .type "tuple" ∧ o.data = .seq xs n ∧ xs[0]? = some (Value.str x t)) → ∃ fs, KatTups h (as.map Value.ref) fs ∧ fs.length = as.length ∧ ∀ v ∈ fs, ∃ x t, v = Value.str x t
  | [], _ => ⟨[], KatTups.nil, rfl, fun v hv => nomatch hv⟩
  | a :: as, hs => by
    obtain ⟨fs, k, l, m⟩ := katTups_of as fun b hb => hs b (List.mem_cons_of_mem _ hb)
    obtain ⟨o, xs, n, x, t, e1, e2, e3, e4⟩ := hs a (by simp)
    refine ⟨.str x t :: fs, KatTups.cons e1 e2 e3 e4 k, by rw [List.length_cons, l]; rfl, fun v hv => ?_⟩
    rcases List.mem_cons.mp hv with z | z
    · exact ⟨x, t, z⟩
    · exact m v z
section
variable {X : Cx}
def viewH (p d : Addr) : HO := .ext fun h => h.IsItemsView p d
def rItems : V → List V → Hp → VK → Prop := fun x vs H Q => ∃ d kvs, x = .ref d ∧ vs = [] ∧ H d = some (.dK kvs) ∧ ∀ p, H p = none → Q (.ref p) (upd H p (viewH p d))
theorem mt_items : MtM X "dict.items" rItems := by
  intro pins s σ H x vs v us Q I rx rv h
  obtain ⟨d, kvs, rfl, rfl, hd, q⟩ := h
  cases rx
  cases rv
  obtain ⟨zz, lo, vs, rel, dd⟩ := dk_of I.hok hd
  have hn : H s.heap.objs.size = none := I.hok.fresh (Nat.le_refl _)
  refine call_meetsIn PySem.F.slot_dict_items dd.typeIs PySem.F.entry_dict_items (PySem.F.args_dict_items_1 _) (meets_dict_items (mixKind X.prog X.w) d lo) ⟨⟨vs, dd⟩, ?_⟩
  refine ⟨.ref s.heap.objs.size, _, I.laid (a := s.heap.objs.size) (o := viewH s.heap.objs.size d) (t' := s.toks) (fun b u e => Heap.get?_push_of_some _ e) (Nat.le_refl _) ⟨⟨_, Heap.get?_push_size _ rfl, rfl, rfl⟩, ⟨_, Heap.get?_push_size _ rfl⟩, fun h1 h2 x e => let ⟨o, ho, r⟩ := x; ⟨o, e o ho, r⟩⟩, rfl, q _ hn⟩
theorem call_sortedIt (hh : X.A.handled = none) : CallR X (.builtin "sorted") (fun xs H Q => ∃ (p d : Addr) (kvs : List (Str × Int)), xs = [.ref p] ∧ H p = some (viewH p d) ∧ H d = some (.dK (kvs.map fun kv => (Sum.inr kv.1, .int kv.2))) ∧ (kvs.map (·.1)).Nodup ∧ kvs.length < 64 ∧
    ∀ (l : Addr) (ps : List (Str × Int)) (zs : List V) H', Same H H' → H l = none → H' l = some (.lst zs) → ps.Perm kvs → ((ps.map (·.1)).Pairwise fun a b => ltS a b = true) → zs.length = ps.length → (∀ (j : Nat) q, ps[j]? = some q → ∃ T, zs[j]? = some (.ref T) ∧ H T = none ∧ H' T = some (.tup [.str q.1, .int q.2])) → Q (.ref l) H') := by
  intro pins s σ H xs us Q I r h
  obtain ⟨p, d, kvs, rfl, hp, hx, nd, h64, q⟩ := h
  obtain ⟨u, rfl, ru⟩ := Vals.one r
  cases (show u = Value.ref p from ru)
  obtain ⟨hv, _, _⟩ := (show ObjOk X.prog X.w H s.heap p (viewH p d) from I.hok p _ hp)
  obtain ⟨zz, lo, vs, rel, dd⟩ := dk_of I.hok hx
  obtain ⟨ep, da⟩ := dd.dictAt
  have ln := rel.length
  rw [List.length_map] at ln
  have sz : sizeLine = 16777216 := sizeLine_eq
  refine Calls.call_function_entry kind_sorted plain_sorted entry_sorted (args_sorted1 _) ?_
  delta Builtin.«sorted»
  refine wpAny_bind (m := checkCount "sorted" 1 1 _) (wpAny_pure (wpAny_bind (kdx_collect (knd := mixKind X.prog X.w) (kvs := vs) (ep := ep) hh hv da (by omega) fun h' tk as keep la G => ?_)))
  -- what the tuples hold
  have tup : ∀ (j : Nat) a kv, as[j]? = some a → kvs[j]? = some kv → ∃ t1 t2, h'.get? a = some { cls := .type "tuple", data := .seq #[.str kv.1 t1, .int kv.2 t2] } := fun j a kv e1 e2 => by
    obtain ⟨key, k, x, e3, e4, e5⟩ := G.pairs j a e1
    obtain ⟨p', e6, e7, e8⟩ := KV.get rel e3
    rw [List.getElem?_map, e2] at e6
    cases e6
    have e7 : (Sum.inr kv.1 : Key) = k := e7
    subst e7
    obtain ⟨t1, rfl⟩ := kV_of e4
    obtain ⟨t2, rfl⟩ := (show RelV (.int kv.2) x from e8)
    exact ⟨t1, t2, e5⟩
  have lv : (as.map Value.ref).length = kvs.length := by rw [List.length_map]; omega
  refine wpAny_bind (wpAny_newList ?_ (by rw [lv]; omega))
  have at_ : (h'.push (seqObj "list" (as.map Value.ref).toArray 0)).get? h'.objs.size = some (seqObj "list" (as.map Value.ref).toArray 0) := Heap.get?_push_size _ rfl
  have irr : ∀ i, i < kvs.length → ltI kvs i i = false := fun i _ => ltS_irr _
  have tr : ∀ i j k, i < kvs.length → j < kvs.length → k < kvs.length → ltI kvs i j = true → ltI kvs j k = true → ltI kvs i k = true := fun i j k _ _ _ => ltS_tr
  have tot := ltI_tot nd
  have ndA : as.Nodup := G.rise.imp fun h => Nat.ne_of_lt h
  have neD : ∀ a ∈ as, a ≠ h'.objs.size := fun a ha => Nat.ne_of_lt (G.there ha)
  refine wpAny_bind (wpAny_holding (wpAny_call_entry slot_list_sort ⟨_, at_, rfl⟩ entry_list_sort (sort_rank (s := { s with heap := h'.push (seqObj "list" (as.map Value.ref).toArray 0), toks := tk }) at_ (by rw [lv]; exact h64) (rkB kvs.length (ltI kvs)) (by rw [lv]; exact rkB_inj irr tr tot) (fun g2 h2 k2 => ?_) fun p pm pw => ⟨_, rfl, ?_⟩) (args_list_sort _)))
  · have t2 : ∀ (j : Nat) a kv, as[j]? = some a → kvs[j]? = some kv → ∃ t1 t2, h2.get? a = some { cls := .type "tuple", data := .seq #[.str kv.1 t1, .int kv.2 t2] } := fun j a kv e1 e2 => by
      obtain ⟨t1, t2, e⟩ := tup j a kv e1 e2
      exact ⟨t1, t2, k2 a _ (neD a (List.mem_of_getElem? e1)) (Heap.get?_push_of_some _ e)⟩
    obtain ⟨fs, kt, lf, sf⟩ := katTups_of (h := h2) as fun a ha => by
      obtain ⟨j, hj⟩ := List.mem_iff_getElem?.mp ha
      have hjl := (List.getElem?_eq_some_iff.mp hj).1
      obtain ⟨t1, t2', e⟩ := t2 j a (kvs[j]'(by omega)) hj (List.getElem?_eq_getElem _)
      exact ⟨_, _, _, _, t1, e, rfl, rfl, rfl⟩
    refine ⟨tuples' (Value.type "str" != Value.type "tuple"), fun Q' hq' => kat_kind kt (by rw [lf]; rw [List.length_map] at g2; omega) (fun v hv => ?_) rfl hq', fun i j hi hj C hC => ?_⟩
    · obtain ⟨x, t, rfl⟩ := sf v hv
      exact Looks.now
    · rw [lv] at hi hj
      have ei : as[i]? = some (as[i]'(by omega)) := List.getElem?_eq_getElem _
      have ej : as[j]? = some (as[j]'(by omega)) := List.getElem?_eq_getElem _
      have fi : kvs[i]? = some (kvs[i]'hi) := List.getElem?_eq_getElem _
      have fj : kvs[j]? = some (kvs[j]'hj) := List.getElem?_eq_getElem _
      obtain ⟨a1, a2, oi⟩ := t2 i _ _ ei fi
      obtain ⟨b1, b2, oj⟩ := t2 j _ _ ej fj
      have vi : (as.map Value.ref).getD i Value.none = .ref (as[i]'(by omega)) := by rw [List.getD_eq_getElem?_getD, List.getElem?_map, ei]; rfl
      have vj : (as.map Value.ref).getD j Value.none = .ref (as[j]'(by omega)) := by rw [List.getD_eq_getElem?_getD, List.getElem?_map, ej]; rfl
      have gi : kvs.getD i ("", 0) = kvs[i]'hi := by rw [List.getD_eq_getElem?_getD, fi]; rfl
      have gj : kvs.getD j ("", 0) = kvs[j]'hj := by rw [List.getD_eq_getElem?_getD, fj]; rfl
      rw [← rkB_iff irr tr tot hi hj] at hC
      have hC' : C (ltS (kvs[i]'hi).1 (kvs[j]'hj).1) { s with heap := h2, toks := tk } := by unfold ltI at hC; rw [gi, gj] at hC; exact hC
      unfold kas_ask
      rw [vi, vj]
      refine kat_lt oi rfl oj rfl (kat_cons ((mixKind X.prog X.w).eqBool (a := Sum.inr (kvs[i]'hi).1) (b := Sum.inr (kvs[j]'hj).1) (kV_is ⟨a1, rfl⟩) (kV_is ⟨b1, rfl⟩) ?_))
      refine kat_go (fun e => ?_) (fun e => ?_)
      · have ek : (kvs[i]'hi).1 = (kvs[j]'hj).1 := Sum.inr.inj (of_decide_eq_true e)
        have ij : i = j := by
          by_cases z : i = j
          · exact z
          · have tt := tot i j hi hj z
            unfold ltI at tt
            rw [gi, gj, ek, ltS_irr] at tt
            rcases tt with q | q <;> cases q
        subst ij
        refine kat_yes (kat_cons ((mixKind X.prog X.w).eqBool (a := Sum.inl (kvs[i]'hi).2) (b := Sum.inl (kvs[i]'hi).2) (kV_is ⟨a2, rfl⟩) (kV_is ⟨b2, rfl⟩) ?_))
        rw [decide_eq_true rfl]
        refine kat_yes (kat_nil ?_)
        rw [ltS_irr] at hC'
        exact hC'
      · refine kat_no (strKind_oneLt X.prog X.w _ _ _ _ _ ((kvs[i]'hi).1.cps.toList) ((kvs[j]'hj).1.cps.toList) rfl rfl ?_)
        exact hC'
  · rw [lv] at pm
    have fpA : ∀ a ∈ as, FpOk X pins H a := fun a ha => I.fpOk (Nat.le_of_lt (G.above a ha)) (I.hok.fresh (Nat.le_of_lt (G.above a ha)))
    have I1 : Inv X pins σ H { s with heap := h', toks := tk } := I.kept keep
    obtain ⟨H1, J1, s1, _, t1⟩ := track_all (s := { s with heap := h', toks := tk }) as (kvs.map fun kv => [V.str kv.1, V.int kv.2]) H ndA fpA I1 (by rw [List.length_map]; omega) fun j a ys e1 e2 => by
      rw [List.getElem?_map] at e2
      obtain ⟨kv, e3, rfl⟩ := Option.map_eq_some_iff.mp e2
      obtain ⟨b1, b2, e⟩ := tup j a kv e1 e3
      exact ⟨by show 2 ≤ _; omega, [.str kv.1 b1, .int kv.2 b2], .cons ⟨b1, rfl⟩ (.cons ⟨b2, rfl⟩ .nil), ⟨_, e, rfl, 0, rfl⟩⟩
    have lt : ∀ i ∈ p, i < kvs.length := fun i hi => List.mem_range.mp (pm.mem_iff.mp hi)
    have rel : Vals (p.map fun i => V.ref (as.getD i 0)) ((p.map fun i => (as.map Value.ref).getD i Value.none).toArray.toList) := by
      rw [List.toList_toArray]
      have go : ∀ l : List Nat, (∀ i ∈ l, i < kvs.length) → Vals (l.map fun i => V.ref (as.getD i 0)) (l.map fun i => (as.map Value.ref).getD i Value.none) := fun l => by
        induction l with
        | nil => intro _; exact .nil
        | cons i l ih =>
          intro hl
          refine .cons ?_ (ih fun k hk => hl k (List.mem_cons_of_mem _ hk))
          have hi := hl i (by simp)
          have ei : as[i]? = some (as[i]'(by omega)) := List.getElem?_eq_getElem _
          show (as.map Value.ref).getD i Value.none = Value.ref (as.getD i 0)
          rw [List.getD_eq_getElem?_getD, List.getElem?_map, ei, List.getD_eq_getElem?_getD, ei]
          rfl
      exact go p lt
    have lp : p.length = kvs.length := by have := pm.length_eq; rwa [List.length_range] at this
    obtain ⟨J, hn⟩ := laid_sorted (vs := as.map Value.ref) (out := (p.map fun i => (as.map Value.ref).getD i Value.none).toArray) (zs := p.map fun i => V.ref (as.getD i 0)) (tk := tk) (d' := s.drawn) J1 (fun _ _ e => e) rel (by rw [List.length_map]; omega)
    refine wpAny_pure ⟨_, rfl, .ref h'.objs.size, _, J, rfl, q _ (p.map fun i => kvs.getD i ("", 0)) (p.map fun i => V.ref (as.getD i 0)) _ (s1.trans (same_upd hn)) (s1.free hn) upd_same ?_ ?_ (by rw [List.length_map, List.length_map]) fun j qq e => ?_⟩
    · have e1 : (List.range kvs.length).map (fun i => kvs.getD i ("", 0)) = kvs := by
        refine List.ext_getElem (by simp) fun i h1 h2 => ?_
        simp [h2]
      rw [← e1]
      rw [e1]
      have := pm.map (fun i => kvs.getD i ("", 0))
      rwa [e1] at this
    · rw [List.map_map]
      have pw' := List.pairwise_map.mp pw
      refine List.pairwise_map.mpr (pw'.imp_of_mem fun {i j} hi hj hij => ?_)
      have := rkB_iff irr tr tot (lt i hi) (lt j hj)
      rw [decide_eq_true hij] at this
      exact this
    · rw [List.getElem?_map] at e
      obtain ⟨i, ei, rfl⟩ := Option.map_eq_some_iff.mp e
      have hi := lt i (List.mem_of_getElem? ei)
      have ea : as[i]? = some (as[i]'(by omega)) := List.getElem?_eq_getElem _
      have ga : as.getD i 0 = as[i]'(by omega) := by rw [List.getD_eq_getElem?_getD, ea]; rfl
      have ek : kvs[i]? = some (kvs.getD i ("", 0)) := by rw [List.getD_eq_getElem?_getD, List.getElem?_eq_getElem hi]; rfl
      have ma : as.getD i 0 ∈ as := by rw [ga]; exact List.getElem_mem _
      refine ⟨as.getD i 0, by rw [List.getElem?_map, ei]; rfl, (fpA _ ma).1, ?_⟩
      have := t1 i (as.getD i 0) [V.str (kvs.getD i ("", 0)).1, V.int (kvs.getD i ("", 0)).2] (by rw [ga]; exact ea) (by rw [List.getElem?_map, ek]; rfl)
      rw [upd_ne (ne_of_none this hn)]
      exact this
end
end L2

set_option Elab.async false
set_option linter.all false
set_option maxRecDepth 100000
set_option maxHeartbeats 4000000
namespace L2
open PySem PySem.Spec PyProof.Rows
section
variable {X : Cx}
variable {elt iter : Expr} {ifs : List Expr} {scope : Scope} {pos : Pos} {wi : TI} {tf : TT} {te : TE} {x y z : Str} {px py pz tp : Pos} {kk : Nat}
end
end L2

set_option Elab.async false
set_option linter.all false
set_option maxRecDepth 100000
set_option maxHeartbeats 4000000
namespace L2
open PySem PySem.Spec PyProof.Rows
section
variable {X : Cx}
theorem op_neRef (hu : X.A.units < cLine) : OpR X (compareOp .NotEq) (fun x y H Q => ∃ (a b : Addr) (as : List Addr), x = .ref a ∧ y = .ref b ∧ SqL X.K H a (as.map V.ref) ∧ SqL X.K H b (as.map V.ref) ∧ Q (.bl false) H) := by
  intro pins s σ H x y v u Q I rx ry h
  obtain ⟨a, b, as, rfl, rfl, hx, hy, q⟩ := h
  cases rx
  cases ry
  obtain ⟨its1, r1, p1, z1⟩ := I.list hx
  obtain ⟨its2, r2, p2, z2⟩ := I.list hy
  have l1 := r1.length
  have l2 := r2.length
  rw [List.length_map] at l1 l2
  refine SeqAt.RcNeAt.lists (e := fun _ => true) p1.isList p2.isList (by rw [List.size_toArray, List.size_toArray]; omega) hu (fun j h1 h2 => ?_) _ _ _ _ ⟨.bl _, H, I, rfl, ?_⟩
  · have h1' : j < as.length := by rw [List.size_toArray] at h1; omega
    obtain ⟨w1, e1, q1⟩ := r1.get (i := j) (x := .ref as[j]) (by simp [h1'])
    obtain ⟨w2, e2, q2⟩ := r2.get (i := j) (x := .ref as[j]) (by simp [h1'])
    cases (show w1 = Value.ref as[j] from q1)
    cases (show w2 = Value.ref as[j] from q2)
    have g1 : its1.toArray[j] = .ref as[j] := by simpa using (List.getElem?_eq_some_iff.mp e1).2
    have g2 : its2.toArray[j] = .ref as[j] := by simpa using (List.getElem?_eq_some_iff.mp e2).2
    rw [g1, g2]
    exact SeqAt.EqAt.same _
  · rw [show ((List.range its1.toArray.size).all fun _ => true) = true from List.all_eq_true.mpr fun _ _ => rfl]
    exact q
end
end L2

set_option Elab.async false
set_option linter.all false
set_option maxRecDepth 100000
set_option maxHeartbeats 4000000
namespace L2
open PySem PySem.Spec PyProof.Rows
/-! a comprehension with some names, one of them read by a comprehension within -/
section
variable {X : Cx} {elt tg iter : Expr} {ifs : List Expr} {scope : Scope} {pos : Pos} {wi : TI} {g : TG} {tf : TT} {te : TE} {x : Str}
theorem blk_startD {pins : List (Addr × Obj)} {σ : St} {H : Hp} {s : Shared} {fp : List Addr} (ow fr : List Str) (js : List Nat) (I : Inv X pins σ H s) (B : BlkOkC scope.names X.env.scope.names X.N x fr js) (hk : scope.kind = .function)
    (f2 : ∀ b ∈ fp, FpOk X pins H b) (fl : ∀ b ∈ fp, b < s.heap.objs.size) {D C : Addr} (hD : D = s.heap.objs.size) {h3 h1 : Heap} (e3 : h3 = s.heap.push { cls := .type "list", dict := none, data := .seq ([] : List Value).toArray }) (hC : C = h3.objs.size)
    {m : Str → Option Value} (hns : h1.Ns C m) (hcell : h1.IsCell (C + 1) none) (k4 : ∀ b o, h3.get? b = some o → h1.get? b = some o) {t4 : Nat} :
    Inv (cxBlkC X (ow ++ fr) scope x C { s with heap := h3 } H (D :: fp)) [] (upS ow.length js σ) H { s with heap := h1, toks := t4 } := by
  have k3 : ∀ b o, s.heap.get? b = some o → h3.get? b = some o := fun b o e => by rw [e3]; exact Heap.get?_push_of_some _ e
  have I3 : Inv X pins σ H { s with heap := h3 } := I.kept (t' := s.toks) k3
  have hz : h3.objs.size = s.heap.objs.size + 1 := by rw [e3, Heap.size_push]
  have hasF : ∀ y ∈ scope.names, y.2 = NameKind.free → ∃ c, X.env.cells.lookup y.1 = some c := fun y hy e => I.ok.has y.1 (B.free y hy e)
  have cellLt : ∀ x c, X.env.cells.lookup x = some c → c < s.heap.objs.size := fun x c e => by
    obtain ⟨v, q⟩ := I.cell x c e
    exact q.lt
  have clt : ∀ y c, (closL X.env.cells scope.names []).lookup y = some c → c < C := fun y c e => by
    have := cellLt y c (closL_some e hasF)
    rw [hC, hz]; exact Nat.lt_succ_of_lt this
  have look : ∀ y c, ((x, C + 1) :: closL X.env.cells scope.names []).lookup y = some c → (y = x ∧ c = C + 1) ∨ (y ≠ x ∧ (closL X.env.cells scope.names []).lookup y = some c) := fun y c e => by
    rw [List.lookup_cons] at e
    by_cases q : (y == x) = true
    · rw [q] at e
      exact .inl ⟨by simpa using q, (Option.some.inj e).symm⟩
    · rw [(Bool.not_eq_true _).mp q] at e
      exact .inr ⟨fun z => q (by simpa using z), e⟩
  refine ⟨⟨I.ok.mod, hk, I.ok.glob, I.ok.blt, Nat.le_of_eq hC.symm, fun y1 y2 c e1 e2 => ?_, fun y hy => ?_, fun y c hf e => ?_, fun hc => I.ok.hd hc, I.ok.frames, .inl rfl, fun b hb => ?_, I3.bs, Nat.le_trans I.ok.bsz I3.sz, fun b o e hb => ?_, fun b hb hf => ?_, I3.stack, I3.stkFree⟩,
    rfl, I.bare, Un.kept k4, ⟨m, hns, fun i y v e1 e2 e3' => ?_⟩, fun y c e => ?_, ?_, fun y c e => ?_, fun p hp => absurd (show p ∈ ([] : List (Addr × Obj)) from hp) (by simp), I3.hok.kept k4, ?_⟩
  · rcases look _ _ e1 with ⟨a1, a2⟩ | ⟨a1, a2⟩ <;> rcases look _ _ e2 with ⟨b1, b2⟩ | ⟨b1, b2⟩
    · rw [a1, b1]
    · have := clt _ _ b2
      rw [a2] at this
      exact absurd this (Nat.not_lt.mpr (Nat.le_succ _))
    · have := clt _ _ a2
      rw [b2] at this
      exact absurd this (Nat.not_lt.mpr (Nat.le_succ _))
    · exact I.ok.inj _ _ c (closL_some a2 hasF) (closL_some b2 hasF)
  · by_cases q : y = x
    · subst q
      exact ⟨C + 1, by show List.lookup y ((y, C + 1) :: _) = _; simp [List.lookup_cons]⟩
    obtain ⟨k, e, z⟩ : ∃ k, scope.names.lookup y = some k ∧ (k = .free) := by
      rcases hy with hx | hx
      · obtain ⟨k, e, z⟩ := relab_of hx
        rcases z with z | z
        · subst z; exact absurd (B.is (PySem.mem_of_lookup e) rfl) q
        · exact ⟨k, e, z.1⟩
      · obtain ⟨k, e, z⟩ := relab_of hx
        rcases z with z | z
        · subst z; exact ⟨_, e, rfl⟩
        · exact ⟨k, e, z.1⟩
    subst z
    refine ⟨(X.env.cells.lookup y).getD 0, ?_⟩
    show List.lookup y ((x, C + 1) :: _) = _
    rw [List.lookup_cons, show (y == x) = false from by simpa using q]
    exact closL_has e
  · rcases look _ _ e with ⟨a1, a2⟩ | ⟨a1, a2⟩
    · rw [a2]
      show h3.objs.size ≤ C + 1
      rw [hC]; exact Nat.le_succ _
    · exact absurd (by simpa using hf) a1
  · have ncell : ∀ b, b < C → ∀ y c, ((x, C + 1) :: closL X.env.cells scope.names []).lookup y = some c → (∀ y c, X.env.cells.lookup y = some c → c ≠ b) → c ≠ b := fun b hb y c e h => by
      rcases look _ _ e with ⟨a1, a2⟩ | ⟨a1, a2⟩
      · rw [a2]; exact Nat.ne_of_gt (Nat.lt_succ_of_lt hb)
      · exact h y c (closL_some a2 hasF)
    rcases List.mem_cons.mp hb with z | hb
    · subst z
      refine ⟨by rw [hD, hC, hz]; exact Nat.ne_of_lt (Nat.lt_succ_self _), fun y c e => ncell _ (by rw [hD, hC, hz]; exact Nat.lt_succ_self _) y c e fun y c e => ?_⟩
      have := cellLt y c e
      rw [hD]; exact Nat.ne_of_lt this
    · have hlt : b < C := by rw [hC, hz]; exact Nat.lt_succ_of_lt (fl b hb)
      exact ⟨Nat.ne_of_lt hlt, fun y c e => ncell _ hlt y c e fun y c e => (f2 b hb).2.2.2.2.1 y c e⟩
  · rcases List.mem_cons.mp hb with z | hb
    · have := Heap.lt_size (I.bk b o e)
      rw [z, hD] at this
      exact Nat.lt_irrefl _ this
    · rcases (f2 b hb).2.2.2.1 with z | z
      · exact I.ok.noex b o e z
      · exact absurd (Nat.lt_of_lt_of_le (Heap.lt_size (I.ok.bs b o e).1) z) (Nat.lt_irrefl _)
  · have hf' := List.mem_cons.mp (I.stkSub b hf)
    rcases List.mem_cons.mp hb with z | hb
    · rcases hf' with y | y
      · have := I.lt
        rw [← y, z, hD] at this
        exact Nat.lt_irrefl _ this
      · exact I.nofs (a := b) (by rw [z, hD]; exact Nat.le_refl _) y
    · rcases hf' with y | y
      · exact (f2 b hb).2.1 y
      · exact (f2 b hb).2.2.1 y
  · obtain ⟨hn, _, j, ej, es⟩ := upS_drop e2
    have ex : fr[i - ow.length]? = some y := by
      rw [List.getElem?_append_right (show ow.length ≤ i from hn)] at e1
      exact e1
    obtain ⟨hfx, j', ej', eN⟩ := B.fr _ y ex
    have : j' = j := by rw [ej] at ej'; exact (Option.some.inj ej').symm
    subst this
    have hkx := B.free _ (PySem.mem_of_lookup hfx) rfl
    obtain ⟨m0, _, hl⟩ := I.loc
    obtain ⟨u, r, l⟩ := hl j' y v eN es (by rcases hkx with z | z; exact .inr (.inl z); exact .inr (.inr z))
    refine ⟨u, r, .inr ?_⟩
    have yx : y ≠ x := fun z => by
      have := B.lk
      rw [← z, hfx] at this
      cases this
    rcases l with ⟨kl, _⟩ | ⟨_, c, ec, o, eo, ed⟩
    · have kl' : X.env.scope.names.lookup y = some .local := kl
      rcases hkx with z | z
      · exact absurd (z.symm.trans kl') (by decide)
      · exact absurd (z.symm.trans kl') (by decide)
    · obtain ⟨k', e', z⟩ := relab_free (env := X.env) hfx
      have eq : ((x, C + 1) :: closL X.env.cells scope.names []).lookup y = some c := by
        rw [List.lookup_cons, show (y == x) = false from by simpa using yx]
        show (closL X.env.cells scope.names []).lookup y = some c
        rw [closL_has hfx, ec]; rfl
      refine ⟨?_, c, eq, o, k4 c o (k3 c o eo), ed⟩
      rcases z with z | z
      · subst z; exact .inl e'
      · subst z; exact .inr e'
  · rcases look _ _ e with ⟨a1, a2⟩ | ⟨a1, a2⟩
    · rw [a2]; exact ⟨none, hcell⟩
    · obtain ⟨v, o, eo, ed⟩ := I.cell y c (closL_some a2 hasF)
      exact ⟨v, o, k4 c o (k3 c o eo), ed⟩
  · exact I3.hok.fresh (Nat.le_of_eq hC.symm)
  · rcases look _ _ e with ⟨a1, a2⟩ | ⟨a1, a2⟩
    · rw [a2]
      exact I3.hok.fresh (by show h3.objs.size ≤ C + 1; rw [hC]; exact Nat.le_succ _)
    · exact I.freeC y c (closL_some a2 hasF)
  · rw [upS_len, ← B.len]
    show _ = (ow ++ fr).length
    rw [List.length_append]

theorem pe_lcD (ow fr : List Str) (js : List Nat) (hc : X.calm = true) (hk : scope.kind = .function) (hb : blkOkC scope.names X.env.scope.names X.N x fr js = true) (hi : PI X tg iter wi)
    (hg : ∀ C s H ex, PG (cxBlkC X (ow ++ fr) scope x C s H ex) tg g) (hf : ∀ C s H ex, PF (cxBlkC X (ow ++ fr) scope x C s H ex) ifs tf) (he : ∀ C s H ex, PE (cxBlkC X (ow ++ fr) scope x C s H ex) elt te)
    (hs : ∀ x, foldedSetIterable iter X.env x = pure x := by intro _; rfl) : PE X (.ListComp elt [⟨tg, iter, ifs, 0⟩] scope pos) (tLC wi ow.length js g tf te) := by
  intro pins s σ H Q I h
  have B := blkOkC_of hb
  have hasF : ∀ y ∈ scope.names, y.2 = NameKind.free → ∃ c, X.env.cells.lookup y.1 = some c := fun y hy e => I.ok.has y.1 (B.free y hy e)
  rw [eval_ListComp]
  refine wpAny_comprehension_free (use := none) rfl hs (clos_eq hasF) hk (fun y hy e => B.loc y hy e) (thn (hi pins s σ H _ I h) fun v s1 h1 => thn h1 fun itv s2 h2 => ?_)
  obtain ⟨it, fp, tn, J, H2, e, I2, T, st2, f2, W, ⟨m0, w0⟩, turn⟩ := h2
  subst e
  have fl : ∀ b ∈ fp, b < s2.heap.objs.size := fun b hb => let ⟨o, e, _⟩ := T.obj _ _ st2 b hb; Heap.lt_size e
  refine wpAny_newObj_type (newEnv_one B.one ?_)
  dsimp only
  generalize e3 : s2.heap.push { cls := .type "list", dict := none, data := .seq ([] : List Value).toArray } = h3
  have hns : ((h3.push { cls := .type "dict", data := .dict #[] }).push { cls := .type "cell", data := .cell none }).Ns h3.objs.size (fun _ => none) := (Heap.Ns.new h3 (.type "dict")).keeps fun b o e => Heap.get?_push_of_some _ e
  have hcell : ((h3.push { cls := .type "dict", data := .dict #[] }).push { cls := .type "cell", data := .cell none }).IsCell (h3.objs.size + 1) none := ⟨_, by have := Heap.get?_push_size (h3.push { cls := .type "dict", data := .dict #[] }) (o := { cls := .type "cell", data := .cell none }) rfl; rwa [Heap.size_push] at this, rfl⟩
  have k4 : ∀ b o, h3.get? b = some o → ((h3.push { cls := .type "dict", data := .dict #[] }).push { cls := .type "cell", data := .cell none }).get? b = some o := fun b o e => Heap.get?_push_of_some _ (Heap.get?_push_of_some _ e)
  generalize (h3.push { cls := .type "dict", data := .dict #[] }).push { cls := .type "cell", data := .cell none } = h1 at hns hcell k4
  have k3 : ∀ b o, s2.heap.get? b = some o → h3.get? b = some o := fun b o e => by rw [← e3]; exact Heap.get?_push_of_some _ e
  have I4 : Inv (cxBlkC X (ow ++ fr) scope x h3.objs.size { s2 with heap := h3 } H2 (s2.heap.objs.size :: fp)) [] (upS ow.length js σ) H2 { s2 with heap := h1 } :=
    blk_startD ow fr js I2 B hk f2 fl rfl e3.symm rfl hns hcell k4
  have I3 : Inv X pins σ H2 { s2 with heap := h3 } := I2.kept (t' := s2.toks) k3
  have hz : h3.objs.size = s2.heap.objs.size + 1 := by rw [← e3, Heap.size_push]
  have hDl : s2.heap.objs.size ≠ h3.objs.size := by rw [hz]; exact Nat.ne_of_lt (Nat.lt_succ_self _)
  have hacc : h1.get? s2.heap.objs.size = some { cls := .type "list", data := .seq ([] : List Value).toArray } := k4 _ _ (by rw [← e3]; exact Heap.get?_push_size _ rfl)
  generalize eD : s2.heap.objs.size = D at *
  generalize eC : h3.objs.size = C at *
  have fD : ∀ b ∈ fp, D ≠ b := fun b hb => Nat.ne_of_gt (fl b hb)
  have look : ∀ y c, ((x, C + 1) :: closL X.env.cells scope.names []).lookup y = some c → c = C + 1 ∨ X.env.cells.lookup y = some c := fun y c e => by
    rw [List.lookup_cons] at e
    by_cases q : (y == x) = true
    · rw [q] at e
      exact .inl (Option.some.inj e).symm
    · rw [(Bool.not_eq_true _).mp q] at e
      exact .inr (closL_some e hasF)
  have hx : ∀ y c, ((x, C + 1) :: closL X.env.cells scope.names []).lookup y = some c → c ≠ D := fun y c e => by
    rcases look y c e with z | z
    · rw [z, hz]; exact Nat.ne_of_gt (Nat.lt_succ_of_lt (Nat.lt_succ_self _))
    · obtain ⟨v, q⟩ := I2.cell y c z
      rw [← eD]; exact Nat.ne_of_lt q.lt
  have hx2 : ∀ b ∈ fp, ∀ y c, ((x, C + 1) :: closL X.env.cells scope.names []).lookup y = some c → c ≠ b := fun b hb y c e => by
    rcases look y c e with z | z
    · rw [z, hz]; exact Nat.ne_of_gt (Nat.lt_succ_of_lt (Nat.lt_succ_of_lt (fl b hb)))
    · exact (f2 b hb).2.2.2.2.1 y c z
  have nfs : ∀ b ∈ D :: fp, b ∉ frs X.stack := I4.ok.exfs
  -- the footprint within the block
  have fpB : ∀ {pins' : List (Addr × Obj)} {H' : Hp} {b : Addr}, b ∈ fp → H' b = none → (∀ p ∈ pins', p.1 ≠ b) → FpOk (cxBlkC X (ow ++ fr) scope x C { s2 with heap := h3 } H2 (D :: fp)) pins' H' b := fun {pins' H' b} hb hn hp =>
    ⟨hn, (I4.ok.exf b (List.mem_cons_of_mem _ hb)).1, nfs b (List.mem_cons_of_mem _ hb), .inl (List.mem_cons_of_mem _ hb), fun x c e => hx2 b hb x c e, fun p h => hp p (by simpa using h)⟩
  have fpD : ∀ {pins' : List (Addr × Obj)} {H' : Hp}, H' D = none → (∀ p ∈ pins', p.1 ≠ D) → FpOk (cxBlkC X (ow ++ fr) scope x C { s2 with heap := h3 } H2 (D :: fp)) pins' H' D := fun {pins' H'} hn hp =>
    ⟨hn, hDl, nfs D List.mem_cons_self, .inl List.mem_cons_self, fun x c e => hx x c e, fun p h => hp p (by simpa using h)⟩
  have loop : ∀ s4 : Shared, s4 = { s2 with heap := h1 } →
      codeAny (model X.prog X.w) X.A (.compLoop (.ListComp elt [⟨tg, iter, ifs, 0⟩] scope pos) 0 (.ref it) (.ref D) (compEnvC scope ((x, C + 1) :: closL X.env.cells scope.names []) C X.env))
        (compPost (model X.prog X.w) X.A X.xe none (EP X pins σ Q) (.ref D) C) s4 := by
    intro s4 e4
    refine blk_loop (fun n s' => ∃ i ys its H', ∃ z : Nat, Inv (cxBlkC X (ow ++ fr) scope x C { s2 with heap := h3 } H2 (D :: fp)) [] (upS ow.length js σ) H' s' ∧ tn i s'.heap ∧ (∀ b ∈ fp, H' b = none) ∧ H' D = none ∧
      s'.heap.get? D = some { cls := .type "list", data := .seq (its : List Value).toArray z } ∧ Vals ys its ∧ W i n ys H') ?_ m0 ?_
    · rintro n s5 ⟨i, ys, its, H5, z5, I5, st5, fr5, hD5, ho5, rv5, w5⟩
      have I5' := I5.pinned (fp := [D]) (fun b hb => by rw [List.mem_singleton.mp hb]; exact fpD hD5 (fun p hp => absurd hp (by simp))) (fun b hb => by
        rw [List.mem_singleton.mp hb]; exact ⟨_, ho5, fun v q => nomatch q⟩)
      have pD : ∀ p ∈ [] ++ pinsAt [D] s5.heap, p.1 = D := fun p hp => by
        rw [List.nil_append] at hp
        exact List.mem_singleton.mp (of_pinsAt hp).1
      have mD : (D, ({ cls := .type "list", data := .seq its.toArray z5 } : Obj)) ∈ [] ++ pinsAt [D] s5.heap := by
        rw [List.nil_append]; exact mem_pinsAt (List.mem_singleton.mpr rfl) ho5
      have fp5 : ∀ {H' : Hp}, (∀ b ∈ fp, H' b = none) → ∀ b ∈ fp, FpOk (cxBlkC X (ow ++ fr) scope x C { s2 with heap := h3 } H2 (D :: fp)) ([] ++ pinsAt [D] s5.heap) H' b := fun hn b hb => fpB hb (hn b hb) fun p hp => by
        rw [pD p hp]; exact fD b hb
      rcases turn i n ys H5 w5 with ⟨stop, hlen, q⟩ | ⟨go, N, hN, step⟩
      · refine thn (T.done (cxBlkC X (ow ++ fr) scope x C { s2 with heap := h3 } H2 (D :: fp)) rfl rfl rfl hc i _ s5 _ H5 _ I5' (fp5 fr5) st5 stop) fun r s6 ⟨hr, I6⟩ => ?_
        subst hr
        obtain ⟨m6, hn6, _⟩ := I6.loc
        refine ⟨m6, hn6, fun h7 hs7 => ?_⟩
        obtain ⟨o6, nD6, _⟩ := I6.pin (D, _) (List.mem_append_right _ mD)
        have k7 : ∀ b o, b ≠ C → s6.heap.get? b = some o → h7.get? b = some o := fun b o hb e => hs7.extBut b o hb e
        refine ⟨.ref D, upd H5 D (.lst ys), ?_, rfl, q D nD6⟩
        refine I3.call' (s' := { s6 with heap := h7 }) (ch := D :: fp) I6.os (un_track (un_but I6.base (Nat.le_of_eq eC) k7) List.mem_cons_self (I2.hok.fresh ?_)) (hok_track (hok_but I6.hok I6.free k7) nD6 ⟨hlen, its, z5, rv5, k7 D _ hDl o6⟩) I6.bare fun b hb => ?_
        · rw [← eD]; exact Nat.le_refl _
        · rcases List.mem_cons.mp hb with y | hb
          · subst y
            refine ⟨.inr (by rw [← eD]; exact I2.sz), by rw [← eD]; exact Nat.ne_of_gt I2.lt, fun x c e => ?_, fun p hp => ?_⟩
            · obtain ⟨v, q⟩ := I2.cell x c e
              rw [← eD]; exact Nat.ne_of_lt q.lt
            · rw [← eD]; exact Nat.ne_of_lt (Heap.lt_size (I2.pin p hp).1)
          · obtain ⟨_, g1, _, g3, g4, g5⟩ := f2 b hb
            exact ⟨g3, g1, g4, g5⟩
      · refine thn (T.item (cxBlkC X (ow ++ fr) scope x C { s2 with heap := h3 } H2 (D :: fp)) rfl rfl rfl hc i _ s5 _ H5 _ I5' (fp5 fr5) st5 go) fun r s6 ⟨u, hr, h6⟩ => ?_
        subst hr
        refine thn h6 fun _ s7 ⟨x7, H7, I7, r7, y7, st7, fr7⟩ => ?_
        have I7' := I7.pinned (fp5 fr7) (T.obj _ _ st7)
        refine thn (hg _ _ _ _ _ s7 _ H7 x7 u _ I7' r7 (step x7 H7 y7)) fun _ s8 ⟨σ8, H8, I8, hd8, q8⟩ => ?_
        refine thn (hf _ _ _ _ _ s8 σ8 H8 _ I8 q8) fun ok s9 ⟨H9, I9, q9⟩ => ?_
        have weak : ∀ {H' : Hp} {s' : Shared}, Inv (cxBlkC X (ow ++ fr) scope x C { s2 with heap := h3 } H2 (D :: fp)) (([] ++ pinsAt [D] s5.heap) ++ pinsAt fp s7.heap) σ8 H' s' →
            Inv (cxBlkC X (ow ++ fr) scope x C { s2 with heap := h3 } H2 (D :: fp)) [] (upS ow.length js σ) H' s' := fun {H' s'} J => by
          refine (J.unpinned).unpinned.weak (I5.len.trans J.len.symm) fun k v e => ?_
          obtain ⟨hn, e1, _⟩ := upS_drop e
          rw [← hd8, List.getElem?_drop] at e1
          rw [← e1]
          congr 1
          omega
        have mF : ∀ b ∈ fp, ∀ o, s7.heap.get? b = some o → (b, o) ∈ ([] ++ pinsAt [D] s5.heap) ++ pinsAt fp s7.heap := fun b hb o e => List.mem_append_right _ (mem_pinsAt hb e)
        have mD' := List.mem_append_left (pinsAt fp s7.heap) mD
        have frB : ∀ {H' : Hp} {s' : Shared}, Inv (cxBlkC X (ow ++ fr) scope x C { s2 with heap := h3 } H2 (D :: fp)) (([] ++ pinsAt [D] s5.heap) ++ pinsAt fp s7.heap) σ8 H' s' → ∀ b ∈ fp, H' b = none := fun {H' s'} J b hb => by
          obtain ⟨o, e, _⟩ := T.obj _ _ st7 b hb
          exact (J.pin (b, o) (List.mem_append_right _ (mF b hb o e))).2.1
        cases ok with
        | false =>
          have q9' : N ys H9 := by simpa using q9
          obtain ⟨m', hm, w'⟩ := hN _ _ q9'
          obtain ⟨o9, nD9, _⟩ := I9.pin (D, _) (List.mem_append_right _ mD')
          exact ⟨m', hm, i + 1, ys, its, H9, z5, weak I9, T.keep _ _ _ st7 fun b hb o e => (I9.pin (b, o) (List.mem_append_right _ (mF b hb o e))).1, frB I9, nD9, o9, rv5, w'⟩
        | true =>
          have q9' : te σ8 H9 fun y H6 => ys.length < sizeLine ∧ N (ys ++ [y]) H6 := by simpa using q9
          refine thn (he _ _ _ _ _ s9 σ8 H9 _ I9 q9') fun yv s10 ⟨y, H10, I10, r10, hlt, w10⟩ => ?_
          obtain ⟨m', hm, w'⟩ := hN _ _ w10
          obtain ⟨o10, nD10, _⟩ := I10.pin (D, _) (List.mem_append_right _ mD')
          refine wpAny_list_append_plain (l := D) (items := its.toArray) (hsz := by rw [List.size_toArray, ← rv5.length]; exact Nat.le_of_lt hlt) ⟨_, o10⟩ fun h11 hl11 hs11 => ?_
          obtain ⟨z11, e11⟩ := hl11
          refine ⟨m', hm, i + 1, ys ++ [y], its ++ [yv], H10, z11, ?_, T.keep _ _ _ st7 fun b hb o e => hs11.extBut b o (Ne.symm (fD b hb)) (I10.pin (b, o) (List.mem_append_right _ (mF b hb o e))).1, frB I10, nD10, ?_, rv5.append (.cons r10 .nil), w'⟩
          · exact (weak I10).turned (t' := s10.toks) (it := D) (fun b o hb e => hs11.extBut b o hb e) nD10 hDl (.inl List.mem_cons_self) (fun x c e => hx x c e) fun p hp => absurd (show p ∈ ([] : List (Addr × Obj)) from hp) (by simp)
          · rw [e11]; simp
    · subst e4
      exact ⟨0, [], [], H2, 0, I4, T.keep _ _ _ st2 fun b hb o e => k4 b o (k3 b o e), fun b hb => (f2 b hb).1, I2.hok.fresh (by rw [← eD]; exact Nat.le_refl _), hacc, .nil, w0⟩
  exact codeAny_compStart_list (loop _ rfl) (T.self X.A 0 _ _ _ (T.keep _ _ _ st2 fun b hb o e => k4 b o (k3 b o e)) (loop _ rfl))
theorem pe_lcX2 {y : Str} {px py tp : Pos} {kk : Nat} (fr : List Str) (js : List Nat) (hc : X.calm = true) (hk : scope.kind = .function) (hb : blkOkC scope.names X.env.scope.names X.N x fr js = true) (hy : (scope.names.lookup y == some .local && decide ([x, y] ++ fr).Nodup) = true) (hi : PI X (.Tuple [.Name x px, .Name y py] kk tp) iter wi)
    (hf : ∀ C s H ex, PF (cxBlkC X ([x, y] ++ fr) scope x C s H ex) ifs tf) (he : ∀ C s H ex, PE (cxBlkC X ([x, y] ++ fr) scope x C s H ex) elt te)
    (hs : ∀ x, foldedSetIterable iter X.env x = pure x := by intro _; rfl) : PE X (.ListComp elt [⟨.Tuple [.Name x px, .Name y py] kk tp, iter, ifs, 0⟩] scope pos) (tLC wi 2 js (gTup X.K 2 (gCons (gName 0) (gCons (gName 1) gNil))) tf te) := by
  have B := blkOkC_of hb
  rw [Bool.and_eq_true] at hy
  have yl : scope.names.lookup y = some .local := by simpa using hy.1
  have nd : ([x, y] ++ fr).Nodup := of_decide_eq_true hy.2
  refine pe_lcD [x, y] fr js hc hk hb hi (fun C s H ex => ?_) hf he hs
  have lk : (compEnvC scope ((x, C + 1) :: closL X.env.cells scope.names []) C X.env).scope.names.lookup x = some .cell := relab_cell B.lk
  have ll : (compEnvC scope ((x, C + 1) :: closL X.env.cells scope.names []) C X.env).scope.names.lookup y = some .local := lookup_relabel_local yl
  exact pg_tup (X := cxBlkC X ([x, y] ++ fr) scope x C s H ex) hc (pgs_cons (pg_name (X := cxBlkC X ([x, y] ++ fr) scope x C s H ex) nd rfl (.inr lk) (.inl (by show (x == x) = true; simp))) (pgs_cons (pg_name (X := cxBlkC X ([x, y] ++ fr) scope x C s H ex) nd rfl (.inl ll) (.inr ll)) pgs_nil))
end
end L2

set_option Elab.async false
set_option linter.all false
set_option maxRecDepth 100000
set_option maxHeartbeats 4000000
namespace L2
open PySem PySem.Spec PyProof.Rows
def topL (i : Nat) : Stmt := PySem.Challenge.pw_pickboard_k35_costs_of_slots.main.body.getD i (.Pass ⟨0, 0, 0, 0⟩)
structure Blt (mg : Str → Option Value) : Prop where
  abs : mg "abs" = none
  all : mg "all" = none
  divmod : mg "divmod" = none
  enumerate : mg "enumerate" = none
  int : mg "int" = none
  isinstance : mg "isinstance" = none
  len : mg "len" = none
  list : mg "list" = none
  max : mg "max" = none
  min : mg "min" = none
  range : mg "range" = none
  str : mg "str" = none
  tuple : mg "tuple" = none
  bool : mg "bool" = none
  zip : mg "zip" = none
  sum : mg "sum" = none
  any : mg "any" = none
  repr : mg "repr" = none
  sorted : mg "sorted" = none
  dict : mg "dict" = none
  set : mg "set" = none
theorem boot_abs : bootBuiltins "abs" = some (.builtin "abs") := by decide +kernel
theorem boot_max : bootBuiltins "max" = some (.builtin "max") := by decide +kernel
theorem boot_min : bootBuiltins "min" = some (.builtin "min") := by decide +kernel
theorem boot_divmod : bootBuiltins "divmod" = some (.builtin "divmod") := by decide +kernel
theorem boot_int : bootBuiltins "int" = some (.type "int") := by decide +kernel
theorem boot_list : bootBuiltins "list" = some (.type "list") := by decide +kernel
theorem boot_tuple : bootBuiltins "tuple" = some (.type "tuple") := by decide +kernel
theorem boot_str : bootBuiltins "str" = some (.type "str") := by decide +kernel
theorem boot_bool : bootBuiltins "bool" = some (.type "bool") := by decide +kernel
theorem boot_sorted : bootBuiltins "sorted" = some (.builtin "sorted") := by decide +kernel
theorem boot_set : bootBuiltins "set" = some (.type "set") := by decide +kernel
def absI (i : Int) : Int := if i < 0 then -i else i
def sLet : Str := "abcdefghijklmnopqrstuvwxyz"
def lowB (c : Nat) : Bool := decide (97 ≤ c) && decide (c ≤ 122)
theorem let_list : sLet.cps.toList = List.range' 97 26 := by decide +kernel
end L2

set_option Elab.async false
set_option linter.all false
set_option maxRecDepth 100000
set_option maxHeartbeats 4000000
namespace L2
open PySem PySem.Spec PyProof.Rows
def BoxAt (H : Hp) (b : Addr) (n : Int) : Prop := ∃ b0 b1 b2 : Int, H b = some (.lst [.int b0, .int b1, .int b2]) ∧ 0 ≤ b0 ∧ 0 ≤ b1 ∧ b1 < 2147483648 ∧ 0 ≤ b2 ∧ b2 ≤ n
def SameB (b : Addr) (H H' : Hp) : Prop := ∀ c o, H c = some o → c ≠ b → H' c = some o
theorem cmulL {i j : Int} (h1 : 0 ≤ i) (h2 : i < 18446744073709551616) : CMul i j := by
  have e1 : (-(2 ^ 64) : Int) = -18446744073709551616 := by decide
  have e2 : ((2 ^ 64) : Int) = 18446744073709551616 := by decide
  refine .inl ⟨?_, ?_⟩
  · rw [e1]; omega
  · rw [e2]; exact h2
theorem cmulM {a m j : Int} (h : 0 < m) (h2 : m < 18446744073709551616) : CMul (a % m) j := cmulL (Int.emod_nonneg _ (by omega)) (Int.lt_trans (Int.emod_lt_of_pos _ h) h2)
section
variable {P : Program} {w : World} {K : PySem.W.Frag} {mg : Str → Option Value} {base : Heap}
def spTake : Sp := fun vs H Q _ => ∃ (b : Addr) (size n : Int), vs = [.ref b, .int size] ∧ BoxAt H b n ∧ n < 1099511627776 ∧ 0 < size ∧ size < 1073741824 ∧
  ∀ (r : Int) H', 0 ≤ r → r < size → BoxAt H' b (n + 1) → SameB b H H' → Q (.int r) H'
theorem scTake : FnScope ["_law_box_here", "_law_size", "_law_found", "_law_step", "_law_once", "_law_twice"] ["_law_box_here", "_law_size"] (defScope (topL 10)) := ⟨rfl, rfl, rfl, by decide +kernel, rfl, by decide +kernel, by decide +kernel⟩
theorem ok_take {f : Addr} {fd : FuncData} (F : Fun K "_law_take" "_law_take" (topL 10) f fd) (B : Blt mg) : FnOk P w K mg base CX0 1 f fd ["_law_box_here", "_law_size"] spTake := by
  have nd := scTake.nd
  refine F.ok scTake (fun vs H Q E h => ?_) (fun cdv A outer s H vs Q E hr h => ?_)
  · obtain ⟨b, size, n, rfl, _⟩ := h
    rfl
  · obtain ⟨b, size, n, rfl, ⟨b0, b1, b2, hb, p0, p1, p1', p2, p2'⟩, hn, hs0, hs1, k⟩ := h
    refine ⟨_, (pss_cons (ps_if (pt_cmpR op_gt (pe_ix ix_list (pv 0) pe_int (fun _ _ => rfl)) pe_int (nomark _))
      (pss_cons (ps_asg (pe_callB call_divmod rfl B.divmod boot_divmod (pa_cons (pe_ix ix_list (pv 0) pe_int (fun _ _ => rfl)) (pa_cons (pv 1) pa_nil))) (pg_tup rfl (pgs_cons (pg_sub (pv 0) pe_int set_list) (pgs_cons (pg_name (i := 2) nd rfl (Or.inl rfl)) pgs_nil))))
        (pss_one (ps_ret (pv 2))))
      pss_nil)
      (pss_cons (ps_asg (pe_op op_add (pe_ix ix_list (pv 0) pe_int (fun _ _ => rfl)) pe_int) (pg_sub (pv 0) pe_int set_list))
      (pss_cons (ps_set (i := 3) nd rfl (Or.inl rfl) (pe_op op_add pe_int (pe_op op_mul (pe_ix ix_list (pv 0) pe_int (fun _ _ => rfl)) (pe_ix ix_list (pv 0) pe_int (fun _ _ => rfl)))))
      (pss_cons (ps_set (i := 4) nd rfl (Or.inl rfl) (pe_op op_mod (pe_op op_mul (pe_op op_add (pe_ix ix_list (pv 0) pe_int (fun _ _ => rfl)) (pe_op op_mul pe_int (pe_ix ix_list (pv 0) pe_int (fun _ _ => rfl)))) (pv 3)) pe_int))
      (pss_cons (ps_set (i := 5) nd rfl (Or.inl rfl) (pe_op op_mod (pe_op op_add (pe_op op_mul (pv 4) (pe_op op_add (pe_op op_mod (pv 4) pe_int) pe_int)) (pe_ix ix_list (pv 0) pe_int (fun _ _ => rfl))) pe_int))
      (pss_one (ps_ret (pe_op op_mod (pe_op op_fdiv (pe_op op_mod (pe_op op_mul (pv 5) (pe_op op_add (pe_op op_mod (pv 5) pe_int) pe_int)) pe_int) pe_int) (pv 1))))))))), ?_⟩
    refine ⟨_, rfl, b, _, _, _, rfl, rfl, SqL.of hb, rfl, _, _, rfl, rfl, _, rfl, ?_⟩
    refine ite2 (fun c => ?_) (fun c => ?_)
    · refine ⟨_, rfl, b, _, _, _, rfl, rfl, SqL.of hb, rfl, _, rfl, _, _, rfl, ⟨hs0, hs1⟩, fun p hp => ?_⟩
      have hbp : b ≠ p := ne_of_none hb hp
      refine ⟨p, _, rfl, SqT.of upd_same, rfl, _, _, rfl, _, rfl, b, _, _, _, rfl, rfl, (by rw [upd_ne hbp]; exact hb), rfl, _, _, rfl, rfl, _, rfl, ?_⟩
      refine k _ _ (Int.emod_nonneg _ (by omega)) (Int.emod_lt_of_pos _ hs0) ⟨_, b1, b2, upd_same, Int.ediv_nonneg p0 (by omega), p1, p1', p2, by omega⟩ fun d o e hd => ?_
      rw [upd_ne hd, upd_ne (ne_of_none e hp)]
      exact e
    · refine ⟨_, rfl, b, _, _, _, rfl, rfl, SqL.of hb, rfl, _, _, rfl, rfl, _, rfl, b, _, _, _, rfl, rfl, hb, rfl, ?_⟩
      have hb1 : upd H b (.lst [.int b0, .int b1, .int (b2 + 1)]) b = some (.lst [.int b0, .int b1, .int (b2 + 1)]) := upd_same
      -- step
      refine ⟨_, rfl, b, _, _, _, rfl, rfl, SqL.of hb1, rfl, _, rfl, b, _, _, _, rfl, rfl, SqL.of hb1, rfl, _, _, rfl, rfl, cmulL (by omega) (by omega), _, _, rfl, rfl, ?_⟩
      -- once
      refine ⟨_, rfl, b, _, _, _, rfl, rfl, SqL.of hb1, rfl, _, rfl, b, _, _, _, rfl, rfl, SqL.of hb1, rfl, _, _, rfl, rfl, cmulL (by omega) (by omega), _, _, rfl, rfl, _, rfl, _, _, rfl, rfl, cmulL (by omega) (by omega), _, _, rfl, rfl, (by show (0 : Int) < _; decide), ?_⟩
      -- twice
      refine ⟨_, rfl, _, rfl, _, _, rfl, rfl, (by show (0 : Int) < _; decide), _, _, rfl, rfl, _, _, rfl, rfl, cmulM (by decide) (by decide), _, rfl, b, _, _, _, rfl, rfl, SqL.of hb1, rfl, _, _, rfl, rfl, _, _, rfl, rfl, (by show (0 : Int) < _; decide), ?_⟩
      refine ⟨_, rfl, _, rfl, _, _, rfl, rfl, (by show (0 : Int) < _; decide), _, _, rfl, rfl, _, _, rfl, rfl, cmulM (by decide) (by decide), _, _, rfl, rfl, (by show (0 : Int) < _; decide), _, _, rfl, rfl, ⟨by decide, by decide⟩, _, rfl, _, _, rfl, rfl, hs0, ?_⟩
      refine k _ _ (Int.emod_nonneg _ (by omega)) (Int.emod_lt_of_pos _ hs0) ⟨b0, b1, b2 + 1, hb1, p0, p1, p1', by omega, by omega⟩ fun d o e hd => ?_
      rw [upd_ne hd]
      exact e
def spBox (K : PySem.W.Frag) : Sp := fun vs H Q _ => ∃ (a : Addr) (ns : List Int) (j : Nat), vs = [.ref a, .int j] ∧ SqL K H a (ns.map V.int) ∧ j ≤ 100 ∧ ∀ p o, H p = none → BoxAt (upd H p o) p 0 → Q (.ref p) (upd H p o)
theorem scBox : FnScope ["_law_script", "_law_k", "_law_cell"] ["_law_script", "_law_k"] (defScope (topL 9)) := ⟨rfl, rfl, rfl, by decide +kernel, rfl, by decide +kernel, by decide +kernel⟩
theorem box_fin {c : Int} {j : Nat} (hj : j ≤ 100) : CMul (absI c) (if decide (10 ^ 18 ≤ absI c) = true then 1 else 0) := by
  refine .inr ?_
  split
  · exact ⟨by decide, by decide⟩
  · exact ⟨by decide, by decide⟩
theorem box_nn {c : Int} : 0 ≤ absI c * (if decide (10 ^ 18 ≤ absI c) = true then 1 else 0) := by
  have h : 0 ≤ absI c := by unfold absI; split <;> omega
  split
  · rw [Int.mul_one]; exact h
  · rw [Int.mul_zero]; exact Int.le_refl 0
theorem ok_box {f : Addr} {fd : FuncData} (F : Fun K "_law_box" "_law_box" (topL 9) f fd) (B : Blt mg) : FnOk P w K mg base CX0 1 f fd ["_law_script", "_law_k"] (spBox K) := by
  have nd := scBox.nd
  refine F.ok scBox (fun vs H Q E h => ?_) (fun cdv A outer s H vs Q E hr h => ?_)
  · obtain ⟨a, ns, j, rfl, _⟩ := h
    rfl
  · obtain ⟨a, ns, j, rfl, hS, hj, k⟩ := h
    refine ⟨_, (pss_cons (ps_set (i := 2) nd rfl (Or.inl rfl) (pe_ifExp (pt_cmpR op_lt (pv 1) (pe_callB call_len_seq rfl B.len boot_len (pa_cons (pv 0) pa_nil)) (nomark _)) (pe_ix ix_list (pv 0) (pv 1) (fun _ _ => rfl)) pe_int))
      (pss_one (ps_ret (pe_lst (pa_cons (pe_op op_mul (pe_callB call_abs rfl B.abs boot_abs (pa_cons (pv 2) pa_nil)) (pe_callTy call_int1 rfl B.int boot_int (pa_cons (pe_cmpR op_ge (pe_callB call_abs rfl B.abs boot_abs (pa_cons (pv 2) pa_nil)) (pe_op op_pow pe_int pe_int) (nomark _)) pa_nil))) (pa_cons (pe_op op_mod (pe_op op_mul (pe_op op_add (pe_op op_add (pe_op op_mod (pv 2) pe_int) (pe_op op_mul pe_int (pv 1))) pe_int) pe_int) pe_int) (pa_cons pe_int pa_nil))))))), ?_⟩
    refine ⟨_, rfl, _, rfl, a, _, rfl, .inl hS, _, _, rfl, rfl, _, rfl, ?_⟩
    refine ite2 (fun c => ?_) (fun c => ?_)
    · have hl : j < ns.length := by
        have := of_decide_eq_true c
        rw [List.length_map] at this
        omega
      refine ⟨_, rfl, _, rfl, a, _, _, .int ns[j], rfl, rfl, hS, atI_nat (by simp [hl]), ?_⟩
      generalize ns[j] = z
      refine ⟨_, rfl, _, rfl, _, rfl, _, rfl, _, _, rfl, rfl, ⟨by decide, by decide, by decide⟩, _, _, rfl, rfl, .inr ⟨_, rfl, _, _, rfl, rfl, box_fin hj, _, rfl, _, _, rfl, rfl, (by show (0 : Int) < _; decide), _, rfl, _, _, rfl, rfl, cmulL (by decide) (by decide), _, _, rfl, rfl, _, _, rfl, rfl, _, _, rfl, rfl, ?_, _, _, rfl, rfl, (by show (0 : Int) < _; decide), (by rw [sizeLine_eq]; exact (by decide : 3 ≤ 16777216)), fun p hp => k p _ hp ⟨_, _, _, upd_same, ?_, ?_, ?_, by decide, by decide⟩⟩⟩
      · refine cmulL ?_ ?_
        · have := Int.emod_nonneg z (show (2147483629 : Int) ≠ 0 by decide)
          omega
        · have := Int.emod_lt_of_pos z (show (0 : Int) < 2147483629 by decide)
          omega
      · exact box_nn
      · exact Int.emod_nonneg _ (by decide)
      · exact Int.lt_trans (Int.emod_lt_of_pos _ (by decide)) (by decide)
    · refine ⟨_, rfl, _, rfl, _, rfl, _, rfl, _, _, rfl, rfl, ⟨by decide, by decide, by decide⟩, _, _, rfl, rfl, .inr ⟨_, rfl, _, _, rfl, rfl, box_fin hj, _, rfl, _, _, rfl, rfl, (by show (0 : Int) < _; decide), _, rfl, _, _, rfl, rfl, cmulL (by decide) (by decide), _, _, rfl, rfl, _, _, rfl, rfl, _, _, rfl, rfl, ?_, _, _, rfl, rfl, (by show (0 : Int) < _; decide), (by rw [sizeLine_eq]; exact (by decide : 3 ≤ 16777216)), fun p hp => k p _ hp ⟨_, _, _, upd_same, ?_, ?_, ?_, by decide, by decide⟩⟩⟩
      · refine cmulL ?_ ?_
        · have := Int.emod_nonneg 0 (show (2147483629 : Int) ≠ 0 by decide)
          omega
        · have := Int.emod_lt_of_pos 0 (show (0 : Int) < 2147483629 by decide)
          omega
      · exact box_nn
      · exact Int.emod_nonneg _ (by decide)
      · exact Int.lt_trans (Int.emod_lt_of_pos _ (by decide)) (by decide)
end
end L2

set_option Elab.async false
set_option linter.all false
set_option maxRecDepth 100000
set_option maxHeartbeats 4000000
namespace L2
open PySem PySem.Spec PyProof.Rows
theorem cutV_mem {xs : List V} {lo hi : Option Int} {x : V} (h : x ∈ cutV xs lo hi) : x ∈ xs := List.mem_of_mem_drop (List.mem_of_mem_take h)
theorem ixN_nat {n j : Nat} (h : j < n) : ixN n (j : Int) = some j := by
  unfold ixN
  rw [if_pos (by omega), if_pos (by omega)]; simp
theorem cutV_map (ns : List Int) (lo hi : Option Int) : ∃ ms : List Int, cutV (ns.map V.int) lo hi = ms.map V.int := by
  refine ⟨(ns.drop (HT.sIx ns.length 0 lo)).take (HT.sIx ns.length ns.length hi - HT.sIx ns.length 0 lo), ?_⟩
  unfold cutV
  rw [List.length_map, List.map_take, List.map_drop]
theorem cutV_lo (ns : List Int) (z : Nat) : (cutV (ns.map V.int) none (some (z : Int))).length = min z ns.length := by
  unfold cutV
  rw [HT.sIx_nat, HT.sIx_none, List.length_take, List.length_drop, List.length_map]
  omega
theorem cutV_hi (ns : List Int) (z : Nat) (hi : Option Int) : (cutV (ns.map V.int) (some (z : Int)) hi).length ≤ ns.length - min z ns.length := by
  unfold cutV
  rw [HT.sIx_nat, List.length_take, List.length_drop, List.length_map]
  omega
section
variable {P : Program} {w : World} {K : PySem.W.Frag} {mg : Str → Option Value} {base : Heap}
def spFold (K : PySem.W.Frag) : Sp := fun vs H Q _ => ∃ (a : Addr) (ns : List Int) (z : Nat), vs = [.ref a, .int z] ∧ SqL K H a (ns.map V.int) ∧ ns.length ≤ 63 ∧ 1 ≤ z ∧ z ≤ 63 ∧
  ∀ (p : Addr) (ms : List Int) H', Same H H' → SqL K H' p (ms.map V.int) → ms.length ≤ z → Q (.ref p) H'
theorem scFold : FnScope ["_law_script", "_law_size", "_law_cells", "_law_k", "_law_cell"] ["_law_script", "_law_size"] (defScope (topL 11)) := ⟨rfl, rfl, rfl, by decide +kernel, rfl, by decide +kernel, by decide +kernel⟩
theorem ok_fold {f : Addr} {fd : FuncData} (F : Fun K "_law_folded" "_law_folded" (topL 11) f fd) (B : Blt mg) : FnOk P w K mg base CX0 1 f fd ["_law_script", "_law_size"] (spFold K) := by
  have nd := scFold.nd
  refine F.ok scFold (fun vs H Q E h => ?_) (fun cdv A outer s H vs Q E hr h => ?_)
  · obtain ⟨a, ns, z, rfl, _⟩ := h
    rfl
  · obtain ⟨a, ns, z, rfl, hS, hlen, hz1, hz2, k⟩ := h
    refine ⟨_, (pss_cons (ps_set (i := 2) nd rfl (Or.inl rfl) (pe_callTy call_list_of rfl B.list boot_list (pa_cons (pe_slice sl_list (pv 0) po_none (po_some (pv 1))) pa_nil)))
      (pss_cons (ps_for PassesOwn.never rfl (pi_enum rfl B.enumerate (pa_cons (pe_slice sl_list (pv 0) (po_some (pv 1)) (po_some pe_int)) pa_nil)) (pg_tup rfl (pgs_cons (pg_name (i := 3) nd rfl (Or.inl rfl)) (pgs_cons (pg_name (i := 4) nd rfl (Or.inl rfl)) pgs_nil)))
      (pss_one (ps_asg (pe_op op_add (pe_ix ix_list (pv 2) (pe_op op_mod (pv 3) (pv 1)) (fun _ _ => rfl)) (pe_op op_mul (pv 4) (pe_op op_add (pv 3) pe_int))) (pg_sub (pv 2) (pe_op op_mod (pv 3) (pv 1)) set_list))))
      (pss_one (ps_ret (pv 2))))), ?_⟩
    -- list(script[:size])
    refine ⟨_, rfl, _, rfl, _, rfl, a, _, rfl, hS, fun l hl => ⟨l, _, rfl, .inl (SqL.of upd_same), fun p hp => ?_⟩⟩
    have s1 : Same H (upd (upd H l (.lst (cutV (ns.map V.int) none (some (z : Int))))) p (.lst (cutV (ns.map V.int) none (some (z : Int))))) := (same_upd hl).trans (same_upd hp)
    generalize hH1 : upd (upd H l (.lst (cutV (ns.map V.int) none (some (z : Int))))) p (.lst (cutV (ns.map V.int) none (some (z : Int)))) = H1 at s1
    have hp1 : H1 p = some (.lst (cutV (ns.map V.int) none (some (z : Int)))) := by rw [← hH1]; exact upd_same
    have np : H p = none := (same_upd hl).free hp
    -- for k, cell in enumerate(script[size:63])
    refine ⟨_, rfl, _, rfl, _, rfl, _, rfl, a, _, rfl, s1.seq hS, fun q hq => ⟨q, rfl, ⟨_, SqL.of upd_same⟩, ?_⟩⟩
    have npq : p ≠ q := ne_of_none hp1 hq
    obtain ⟨ms0, hms0⟩ := cutV_map ns none (some (z : Int))
    have lo := cutV_lo ns z
    have hi := cutV_hi ns z (some 63)
    refine for_enum (K := K) (a := q) (xs := cutV (ns.map V.int) (some (z : Int)) (some 63)) (fun i σ H2 => ∃ (ms : List Int) (v3 v4 : Option V), σ = [some (.ref a), some (.int z), some (.ref p), v3, v4] ∧ Same H H2 ∧ H2 p = some (.lst (ms.map V.int)) ∧
      H2 q = some (.lst (cutV (ns.map V.int) (some (z : Int)) (some 63))) ∧ ms.length = min z ns.length)
      ⟨ms0, none, none, rfl, s1.trans (same_upd hq), by rw [upd_ne npq, hp1, hms0], upd_same, by rw [← lo, hms0, List.length_map]⟩ (fun i σ H2 _ ⟨_, _, _, _, _, _, h, _⟩ => SqL.of h) ?_ ?_
    · rintro i x σ H2 T hx ⟨ms, v3, v4, rfl, sm, hp2, hq2, hml⟩ hT
      have hil : i < (cutV (ns.map V.int) (some (z : Int)) (some 63)).length := (List.getElem?_eq_some_iff.mp hx).1
      obtain ⟨c, rfl⟩ : ∃ c, x = V.int c := by
        have := cutV_mem (List.mem_of_getElem? hx)
        obtain ⟨c, _, e⟩ := List.mem_map.mp this
        exact ⟨c, e.symm⟩
      have hj : i % z < ms.length := by
        have := Nat.mod_lt i (show 0 < z by omega)
        omega
      have npT : p ≠ T := ne_of_none hp2 hT
      have nqT : q ≠ T := ne_of_none hq2 hT
      have hp3 : upd H2 T (.tup [.int i, .int c]) p = some (.lst (ms.map V.int)) := by rw [upd_ne npT]; exact hp2
      have em : ((i % z : Nat) : Int) = (i : Int) % (z : Int) := Int.natCast_emod i z
      have hz0 : (0 : Int) < (z : Int) := by omega
      refine ⟨T, _, rfl, SqT.of upd_same, rfl, _, _, rfl, _, _, rfl, rfl, ?_⟩
      refine ⟨_, rfl, _, rfl, _, rfl, _, _, rfl, rfl, hz0, p, _, _, .int ms[i % z], rfl, rfl, SqL.of hp3, (by rw [← em]; exact atI_nat (by simp [hj])), ?_⟩
      refine ⟨_, rfl, _, rfl, _, _, rfl, rfl, _, _, rfl, rfl, .inr ⟨?_, ?_⟩, _, _, rfl, rfl, ?_⟩
      · have e1 : (-(2 ^ 64) : Int) = -18446744073709551616 := by decide
        rw [e1]; omega
      · have e2 : ((2 ^ 64) : Int) = 18446744073709551616 := by decide
        rw [e2]; omega
      refine ⟨_, rfl, _, rfl, _, rfl, _, _, rfl, rfl, hz0, p, _, _, i % z, rfl, rfl, hp3, (by rw [← em, List.length_map]; exact ixN_nat hj), ?_⟩
      refine ⟨ms.set (i % z) (ms[i % z] + c * ((i : Int) + 2)), _, _, rfl, fun d o e => ?_, by rw [upd_same, List.map_set], ?_, by rw [List.length_set]; exact hml⟩
      · rw [upd_ne (ne_of_none e np), upd_ne (ne_of_none (sm d o e) hT)]
        exact sm d o e
      · rw [upd_ne (Ne.symm npq), upd_ne nqT]
        exact hq2
    · rintro σ H2 ⟨ms, v3, v4, rfl, sm, hp2, hq2, hml⟩
      exact ⟨_, rfl, k p ms H2 sm (SqL.of hp2) (by omega)⟩
end
end L2

set_option Elab.async false
set_option linter.all false
set_option maxRecDepth 100000
set_option maxHeartbeats 4000000
namespace L2
open PySem PySem.Spec PyProof.Rows
theorem two_le : [V.ty "list", V.ty "tuple"].length ≤ sizeLine := by rw [sizeLine_eq]; exact (by decide : 2 ≤ 16777216)
section
variable {P : Program} {w : World} {K : PySem.W.Frag} {mg : Str → Option Value} {base : Heap}
def spS (K : PySem.W.Frag) : Nat → Sp
  | 0 => fun _ _ _ _ => False
  | n + 1 => fun vs H Q _ => ∃ d f v, vs = [f, v] ∧ Rep K H d f ∧ Rep K H d v ∧ Dat.ok n d ∧ ∀ H', Same H H' → Q (.bl true) H'
theorem scSame : FnScope ["_law_found", "_law_due"] ["_law_found", "_law_due"] (defScope (topL 12)) := ⟨rfl, rfl, rfl, by decide +kernel, rfl, by decide +kernel, by decide +kernel⟩
theorem ok_same {f : Addr} {fd : FuncData} (F : Fun K "_law_same" "_law_same" (topL 12) f fd) (B : Blt mg) (hm : mg "_law_same" = some (.ref f)) (hb : Binds K fd ["_law_found", "_law_due"] []) :
    ∀ n : Nat, FnOk P w K mg base CX0 n f fd ["_law_found", "_law_due"] (spS K n)
  | 0 => ⟨fun _ _ _ _ h => h.elim, fun _ _ _ _ _ _ _ _ _ _ _ _ _ h => h.elim⟩
  | n + 1 => by
    have D_same : Dfn P w K mg base "_law_same" n ["_law_found", "_law_due"] (spS K n) := ⟨f, fd, ok_same F B hm hb n, hm, F.kp, hb⟩
    have nd := scSame.nd
    refine F.ok scSame (fun vs H Q E h => ?_) (fun cdv A outer s H vs Q E hr h => ?_)
    · obtain ⟨d, g, v, rfl, _⟩ := h
      rfl
    · obtain ⟨d, g, v, rfl, rg, rv, ok, k⟩ := h
      refine ⟨_, (pss_cons (ps_if (pt_val (pe_callB call_isiT rfl B.isinstance boot_isinstance (pa_cons (pv 1) (pa_cons (pe_tup (pa_cons (pe_bltn (v := .ty "list") rfl B.list boot_list rfl) (pa_cons (pe_bltn (v := .ty "tuple") rfl B.tuple boot_tuple rfl) pa_nil))) pa_nil))))
      (pss_cons (ps_if (PW.pt (pw_or (pt_not (pt_val (pe_callB call_isiT rfl B.isinstance boot_isinstance (pa_cons (pv 0) (pa_cons (pe_tup (pa_cons (pe_bltn (v := .ty "list") rfl B.list boot_list rfl) (pa_cons (pe_bltn (v := .ty "tuple") rfl B.tuple boot_tuple rfl) pa_nil))) pa_nil))))) (pw_or1 (pt_cmpR op_ne (pe_callB call_isi rfl B.isinstance boot_isinstance (pa_cons (pv 0) (pa_cons (pe_bltn (v := .ty "list") rfl B.list boot_list rfl) pa_nil))) (pe_callB call_isi rfl B.isinstance boot_isinstance (pa_cons (pv 1) (pa_cons (pe_bltn (v := .ty "list") rfl B.list boot_list rfl) pa_nil))) (nomark _)))))
        (pss_one (ps_ret pe_bl))
        pss_nil)
        (pss_one (ps_ret (pe_and (pe_cmpR op_eq (pe_callB call_len_seq rfl B.len boot_len (pa_cons (pv 0) pa_nil)) (pe_callB call_len_seq rfl B.len boot_len (pa_cons (pv 1) pa_nil)) (nomark _)) (pe_one (pe_callB (call_allL rfl) rfl B.all boot_all (pa_cons (pe_lc2 [] [] rfl rfl (by kernel_rfl) (pi_zip rfl B.zip (pa_cons (pv 0) (pa_cons (pv 1) pa_nil))) (fun C0 s0 H0 ex0 => pf_nil) (fun C0 s0 H0 ex0 => (pe_callD D_same (hr.mono (by first | decide | exact Nat.le_refl _ | omega)) rfl (pa_cons (pv 0) (pa_cons (pv 1) pa_nil))))) pa_nil)))))))
      pss_nil)
      (pss_cons (ps_if (PW.pt (pw_or (pt_cmpR op_isN (pv 1) pe_non (nomark _)) (pw_or1 (pt_val (pe_callB call_isi rfl B.isinstance boot_isinstance (pa_cons (pv 1) (pa_cons (pe_bltn (v := .ty "str") rfl B.str boot_str rfl) pa_nil)))))))
      (pss_one (ps_ret (pe_and (pe_cmpR op_eq (pv 0) (pv 1) (nomark _)) (pe_one (pe_cmpR op_eq (pe_callB call_isi rfl B.isinstance boot_isinstance (pa_cons (pv 0) (pa_cons (pe_bltn (v := .ty "str") rfl B.str boot_str rfl) pa_nil))) (pe_callB call_isi rfl B.isinstance boot_isinstance (pa_cons (pv 1) (pa_cons (pe_bltn (v := .ty "str") rfl B.str boot_str rfl) pa_nil))) (nomark _))))))
      pss_nil)
      (pss_one (ps_ret (pe_and (pe_callB call_isi rfl B.isinstance boot_isinstance (pa_cons (pv 0) (pa_cons (pe_bltn (v := .ty "int") rfl B.int boot_int rfl) pa_nil))) (pe_and (pe_cmpR op_eq (pe_callB call_isi rfl B.isinstance boot_isinstance (pa_cons (pv 0) (pa_cons (pe_bltn (v := .ty "bool") rfl B.bool boot_bool rfl) pa_nil))) (pe_callB call_isi rfl B.isinstance boot_isinstance (pa_cons (pv 1) (pa_cons (pe_bltn (v := .ty "bool") rfl B.bool boot_bool rfl) pa_nil))) (nomark _)) (pe_one (pe_cmpR op_eq (pv 0) (pv 1) (nomark _))))))))), ?_⟩
      refine ⟨_, rfl, two_le, fun p hp => ⟨v, d.tyN, p, ["list", "tuple"], rfl, (rv.same (same_upd hp)).ty, upd_same, (by decide), _, rfl, ?_⟩⟩
      have s1 : Same H (upd H p (.tup [V.ty "list", V.ty "tuple"])) := same_upd hp
      have rg1 := rg.same s1
      have rv1 := rv.same s1
      generalize upd H p (.tup [V.ty "list", V.ty "tuple"]) = H1 at s1 rg1 rv1
      cases d with
      | non =>
        cases (show g = _ from rg); cases (show v = _ from rv)
        refine ifF rfl ⟨_, rfl, rfl, _, rfl, ifT (by simp) (ifT rfl ?_)⟩
        refine ⟨_, rfl, _, rfl, rfl, _, rfl, ifT (by simp) ⟨_, rfl, _, "NoneType", "str", rfl, rg1.ty, (by decide), _, rfl, _, "NoneType", "str", rfl, rv1.ty, (by decide), rfl, ?_⟩⟩
        have := k H1 s1
        simpa using this
      | str x =>
        cases (show g = _ from rg); cases (show v = _ from rv)
        refine ifF rfl ⟨_, rfl, rfl, _, rfl, ifF (by simp) ⟨_, rfl, _, "str", "str", rfl, rv1.ty, (by decide), _, rfl, ifT (by decide) ?_⟩⟩
        refine ⟨_, rfl, _, rfl, rfl, _, rfl, ifT (by simp) ⟨_, rfl, _, "str", "str", rfl, rg1.ty, (by decide), _, rfl, _, "str", "str", rfl, rv1.ty, (by decide), rfl, ?_⟩⟩
        have := k H1 s1
        simpa using this
      | bl b =>
        cases (show g = _ from rg); cases (show v = _ from rv)
        refine ifF rfl ⟨_, rfl, rfl, _, rfl, ifF (by simp) ⟨_, rfl, _, "bool", "str", rfl, rv1.ty, (by decide), _, rfl, ifF (by decide) ?_⟩⟩
        refine ⟨_, rfl, _, "bool", "int", rfl, rg1.ty, (by decide), _, rfl, ifT (by decide) ⟨_, rfl, _, "bool", "bool", rfl, rg1.ty, (by decide), _, rfl, _, "bool", "bool", rfl, rv1.ty, (by decide), rfl, _, rfl, ifT (by simp) ⟨_, rfl, _, rfl, rfl, ?_⟩⟩⟩
        have := k H1 s1
        simpa using this
      | int b =>
        cases (show g = _ from rg); cases (show v = _ from rv)
        refine ifF rfl ⟨_, rfl, rfl, _, rfl, ifF (by simp) ⟨_, rfl, _, "int", "str", rfl, rv1.ty, (by decide), _, rfl, ifF (by decide) ?_⟩⟩
        refine ⟨_, rfl, _, "int", "int", rfl, rg1.ty, (by decide), _, rfl, ifT (by decide) ⟨_, rfl, _, "int", "bool", rfl, rg1.ty, (by decide), _, rfl, _, "int", "bool", rfl, rv1.ty, (by decide), rfl, _, rfl, ifT (by simp) ⟨_, rfl, _, rfl, rfl, ?_⟩⟩⟩
        have := k H1 s1
        simpa using this
      | lst ds =>
        obtain ⟨a, xs, rfl, hx, rx⟩ := rg1
        obtain ⟨b, ys, rfl, hy, ry⟩ := rv1
        cases n with
        | zero => exact (show False from ok).elim
        | succ n =>
          obtain ⟨hlen, hall⟩ : ds.length ≤ 1000000 ∧ ∀ d ∈ ds, Dat.ok n d := ok
          have lx := rx.len
          have ly := ry.len
          have hbig : 1000000 < sizeLine := by rw [sizeLine_eq]; decide
          refine ifT rfl ?_
          refine ⟨_, rfl, two_le, fun p2 hp2 => ⟨.ref a, "list", p2, ["list", "tuple"], rfl, (.inl ⟨rfl, xs, (same_upd hp2).seq hx⟩), upd_same, (by decide), _, rfl, ifF rfl ?_⟩⟩
          have s2 : Same H1 (upd H1 p2 (.tup [V.ty "list", V.ty "tuple"])) := same_upd hp2
          have hx2 := s2.seq hx
          have hy2 := s2.seq hy
          have rx2 := rx.same s2
          have ry2 := ry.same s2
          have s3 := s1.trans s2
          generalize upd H1 p2 (.tup [V.ty "list", V.ty "tuple"]) = H2 at s2 s3 hx2 hy2 rx2 ry2
          refine ⟨_, rfl, .ref a, "list", "list", rfl, (.inl ⟨rfl, xs, hx2⟩), (by decide), _, rfl, .ref b, "list", "list", rfl, (.inl ⟨rfl, ys, hy2⟩), (by decide), rfl, _, rfl, ifF (by decide) ?_⟩
          refine ⟨_, rfl, a, xs, rfl, (.inl hx2), _, rfl, b, ys, rfl, (.inl hy2), rfl, _, rfl, ifT (by simp [lx, ly]) ?_⟩
          refine ⟨_, rfl, _, rfl, true, true, a, b, rfl, ⟨xs, hx2⟩, ⟨ys, hy2⟩, ?_⟩
          refine lc_zip (K := K) (k1 := true) (k2 := true) (xs := xs) (ys := ys) (fun i zs H3 => zs = List.replicate i (V.bl true) ∧ Same H2 H3) ⟨rfl, Same.refl _⟩ (fun i zs H3 ⟨_, sm⟩ => ⟨sm.seq hx2, sm.seq hy2⟩) ?_ ?_
          · rintro i x y zs H3 T e1 e2 ⟨rfl, sm⟩ hT
            have hi : i < ds.length := by have := (List.getElem?_eq_some_iff.mp e1).1; omega
            obtain ⟨d1, q1, r1⟩ := rx2.get e1
            obtain ⟨d2, q2, r2⟩ := ry2.get e2
            rw [q1] at q2; cases q2
            have s4 := sm.trans (same_upd (o := .tup [x, y]) hT)
            refine ⟨T, _, rfl, SqT.of upd_same, rfl, _, _, rfl, _, _, rfl, rfl, rfl, ?_⟩
            refine ⟨_, rfl, _, rfl, d1, x, y, rfl, r1.same s4, r2.same s4, hall d1 (List.mem_of_getElem? q1), fun H5 s5 => ⟨?_, ?_, s4.trans s5⟩⟩
            · rw [List.length_replicate]; omega
            · rw [List.replicate_succ']
          · rintro zs H3 ⟨rfl, sm⟩
            refine ⟨by rw [List.length_replicate]; omega, fun D hD => ⟨D, List.replicate (min xs.length ys.length) true, rfl, ?_, ?_⟩⟩
            · refine SqL.of ?_
              rw [upd_same, List.map_replicate]
            · have := k _ (s3.trans (sm.trans (same_upd (o := .lst (List.replicate (min xs.length ys.length) (V.bl true))) hD)))
              simpa using this
      | tup ds =>
        obtain ⟨a, xs, rfl, hx, rx⟩ := rg1
        obtain ⟨b, ys, rfl, hy, ry⟩ := rv1
        cases n with
        | zero => exact (show False from ok).elim
        | succ n =>
          obtain ⟨hlen, hall⟩ : ds.length ≤ 1000000 ∧ ∀ d ∈ ds, Dat.ok n d := ok
          have lx := rx.len
          have ly := ry.len
          have hbig : 1000000 < sizeLine := by rw [sizeLine_eq]; decide
          refine ifT rfl ?_
          refine ⟨_, rfl, two_le, fun p2 hp2 => ⟨.ref a, "tuple", p2, ["list", "tuple"], rfl, (.inr ⟨rfl, xs, (same_upd hp2).sqT hx⟩), upd_same, (by decide), _, rfl, ifF rfl ?_⟩⟩
          have s2 : Same H1 (upd H1 p2 (.tup [V.ty "list", V.ty "tuple"])) := same_upd hp2
          have hx2 := s2.sqT hx
          have hy2 := s2.sqT hy
          have rx2 := rx.same s2
          have ry2 := ry.same s2
          have s3 := s1.trans s2
          generalize upd H1 p2 (.tup [V.ty "list", V.ty "tuple"]) = H2 at s2 s3 hx2 hy2 rx2 ry2
          refine ⟨_, rfl, .ref a, "tuple", "list", rfl, (.inr ⟨rfl, xs, hx2⟩), (by decide), _, rfl, .ref b, "tuple", "list", rfl, (.inr ⟨rfl, ys, hy2⟩), (by decide), rfl, _, rfl, ifF (by decide) ?_⟩
          refine ⟨_, rfl, a, xs, rfl, (.inr hx2), _, rfl, b, ys, rfl, (.inr hy2), rfl, _, rfl, ifT (by simp [lx, ly]) ?_⟩
          refine ⟨_, rfl, _, rfl, false, false, a, b, rfl, ⟨xs, hx2⟩, ⟨ys, hy2⟩, ?_⟩
          refine lc_zip (K := K) (k1 := false) (k2 := false) (xs := xs) (ys := ys) (fun i zs H3 => zs = List.replicate i (V.bl true) ∧ Same H2 H3) ⟨rfl, Same.refl _⟩ (fun i zs H3 ⟨_, sm⟩ => ⟨sm.sqT hx2, sm.sqT hy2⟩) ?_ ?_
          · rintro i x y zs H3 T e1 e2 ⟨rfl, sm⟩ hT
            have hi : i < ds.length := by have := (List.getElem?_eq_some_iff.mp e1).1; omega
            obtain ⟨d1, q1, r1⟩ := rx2.get e1
            obtain ⟨d2, q2, r2⟩ := ry2.get e2
            rw [q1] at q2; cases q2
            have s4 := sm.trans (same_upd (o := .tup [x, y]) hT)
            refine ⟨T, _, rfl, SqT.of upd_same, rfl, _, _, rfl, _, _, rfl, rfl, rfl, ?_⟩
            refine ⟨_, rfl, _, rfl, d1, x, y, rfl, r1.same s4, r2.same s4, hall d1 (List.mem_of_getElem? q1), fun H5 s5 => ⟨?_, ?_, s4.trans s5⟩⟩
            · rw [List.length_replicate]; omega
            · rw [List.replicate_succ']
          · rintro zs H3 ⟨rfl, sm⟩
            refine ⟨by rw [List.length_replicate]; omega, fun D hD => ⟨D, List.replicate (min xs.length ys.length) true, rfl, ?_, ?_⟩⟩
            · refine SqL.of ?_
              rw [upd_same, List.map_replicate]
            · have := k _ (s3.trans (sm.trans (same_upd (o := .lst (List.replicate (min xs.length ys.length) (V.bl true))) hD)))
              simpa using this
end
end L2

set_option Elab.async false
set_option linter.all false
set_option maxRecDepth 100000
set_option maxHeartbeats 4000000
namespace L2
open PySem PySem.Spec PyProof.Rows
theorem le0 : ([] : List V).length ≤ sizeLine := Nat.zero_le _
theorem le2 {x y : V} : [x, y].length ≤ sizeLine := by rw [sizeLine_eq]; exact (by decide : 2 ≤ 16777216)
theorem SameB.refl (b : Addr) (H : Hp) : SameB b H H := fun _ _ e _ => e
theorem SameB.trans {b : Addr} {H H1 H2 : Hp} (a : SameB b H H1) (c : SameB b H1 H2) : SameB b H H2 := fun d o e hd => c d o (a d o e hd) hd
theorem SameB.of {b : Addr} {H H1 : Hp} (a : Same H H1) : SameB b H H1 := fun d o e _ => a d o e
theorem SameB.new {b p : Addr} {o : HO} {H H1 : Hp} (a : SameB b H H1) (h : H1 p = none) : SameB b H (upd H1 p o) := a.trans (.of (same_upd h))
theorem BoxAt.new {b p : Addr} {o : HO} {H : Hp} {n : Int} (a : BoxAt H b n) (h : H p = none) : BoxAt (upd H p o) b n := by
  obtain ⟨b0, b1, b2, e, r⟩ := a
  exact ⟨b0, b1, b2, by rw [upd_ne (ne_of_none e h)]; exact e, r⟩
theorem BoxAt.same {b : Addr} {H H' : Hp} {n : Int} (a : BoxAt H b n) (s : Same H H') : BoxAt H' b n := by
  obtain ⟨b0, b1, b2, e, r⟩ := a
  exact ⟨b0, b1, b2, s _ _ e, r⟩
theorem BoxAt.ne {b t : Addr} {H : Hp} {n : Int} {o : HO} (a : BoxAt H b n) (h : H t = some o) (hl : ∀ x y z, o ≠ .lst [x, y, z]) : t ≠ b := by
  obtain ⟨b0, b1, b2, e, r⟩ := a
  exact ne_of h e (hl _ _ _)
theorem BoxAt.some {b : Addr} {H : Hp} {n : Int} (a : BoxAt H b n) : ∃ o, H b = .some o := let ⟨_, _, _, e, _⟩ := a; ⟨_, e⟩
theorem BoxAt.mono {b : Addr} {H : Hp} {n m : Int} (a : BoxAt H b n) (h : n ≤ m) : BoxAt H b m := by
  obtain ⟨b0, b1, b2, e, p0, p1, p2, p3, p4⟩ := a
  exact ⟨b0, b1, b2, e, p0, p1, p2, p3, by omega⟩
theorem le3 {x y z : V} : [x, y, z].length ≤ sizeLine := by rw [sizeLine_eq]; exact (by decide : 3 ≤ 16777216)
theorem le4 {x y z u : V} : [x, y, z, u].length ≤ sizeLine := by rw [sizeLine_eq]; exact (by decide : 4 ≤ 16777216)
theorem leN {xs : List V} (h : xs.length ≤ 1000) : xs.length ≤ sizeLine := by rw [sizeLine_eq]; omega
theorem atI_in {α : Type} {xs : List α} {i : Int} (h : 0 ≤ i) (h' : i < xs.length) : ∃ v, atI xs i = some v ∧ xs[i.toNat]? = some v := by
  have hl : i.toNat < xs.length := by omega
  refine ⟨xs[i.toNat], ?_, by simp [hl]⟩
  have := atI_nat (xs := xs) (j := i.toNat) (v := xs[i.toNat]) (by simp [hl])
  rwa [show ((i.toNat : Nat) : Int) = i by omega] at this
theorem SameB.put {b m : Addr} {H H' : Hp} {o : HO} (s : SameB b H H') (h : H m = none) : SameB b H (upd H' m o) := fun c u e hc => by
  rw [upd_ne (ne_of_none e h)]; exact s c u e hc
theorem SameB.none {b m : Addr} {H H' : Hp} (s : SameB b H H') (h : H' m = none) (hm : m ≠ b) : H m = none := by
  cases q : H m with
  | none => rfl
  | some o => have := s m o q hm; rw [h] at this; cases this
def lowAll (x : Str) : Prop := (x.cps.toList.map lowB).all id = true
theorem letter {r : Int} (h0 : 0 ≤ r) (h1 : r < 26) : ∃ c, atI sLet.cps.toList r = some c ∧ lowB c = true := by
  rw [let_list]
  obtain ⟨c, e, e'⟩ := atI_in (xs := List.range' 97 26) h0 (by rw [List.length_range']; omega)
  have hm := List.mem_range'_1.mp (List.mem_of_getElem? e')
  refine ⟨c, e, ?_⟩
  unfold lowB
  rw [decide_eq_true (by omega), decide_eq_true (by omega)]
  rfl
theorem low_cons {c : Nat} {y : Str} (h : lowB c = true) (hy : lowAll y) : lowAll ((⟨#[c]⟩ : Str) ++ y) := by
  unfold lowAll at hy ⊢
  show ((#[c] ++ y.cps).toList.map lowB).all id = true
  rw [Array.toList_append, List.map_append, List.all_append, hy, Bool.and_true]
  show (lowB c && true) = true
  rw [h]; rfl
theorem len_cons {c : Nat} {y : Str} : ((⟨#[c]⟩ : Str) ++ y).length = y.length + 1 := by
  show (#[c] ++ y.cps).size = y.cps.size + 1
  rw [Array.size_append]
  show 1 + _ = _
  omega
theorem BoxAt.nne {b p : Addr} {H : Hp} {n : Int} (a : BoxAt H b n) (h : H p = none) : p ≠ b := by
  obtain ⟨o, e⟩ := a.some
  exact (ne_of_none e h).symm
theorem BoxAt.other {b l : Addr} {H : Hp} {n : Int} {o : HO} (a : BoxAt H b n) (h : l ≠ b) : BoxAt (upd H l o) b n := by
  obtain ⟨b0, b1, b2, e, r⟩ := a
  exact ⟨b0, b1, b2, by rw [upd_ne (Ne.symm h)]; exact e, r⟩
def Nm (x : Str) : Prop := x.length ≤ 8 ∧ ∀ c ∈ x.cps.toList, c < 1000000
theorem nm_of {x : Str} (h : x.length ≤ 8) (l : lowAll x) : Nm x := ⟨h, fun c hc => by
  unfold lowAll at l
  have := List.all_eq_true.mp l (lowB c) (List.mem_map.mpr ⟨c, hc, rfl⟩)
  unfold lowB at this
  simp at this
  omega⟩
theorem strs_flat : ∀ (ns : List Str), (ns.map V.str).all flatV = true
  | [] => rfl
  | n :: ns => by
    show (true && (ns.map V.str).all flatV) = true
    rw [strs_flat ns]; rfl
section
variable {P : Program} {w : World} {K : PySem.W.Frag} {mg : Str → Option Value} {base : Heap}
/-! names drawn -/
def spSpell : Sp := fun vs H Q _ => ∃ (num size : Int), vs = [.int num, .int size] ∧ 0 ≤ num ∧ 1 ≤ size ∧ size ≤ 8 ∧ ∀ y : Str, (y.length : Int) = size → lowAll y → Q (.str y) H
theorem scSpell : FnScope ["_law_number", "_law_size", "_law_word", "_law_k"] ["_law_number", "_law_size"] (defScope (topL 13)) := ⟨rfl, rfl, rfl, by decide +kernel, rfl, by decide +kernel, by decide +kernel⟩
theorem ok_spell {f : Addr} {fd : FuncData} (F : Fun K "_law_spelled" "_law_spelled" (topL 13) f fd) (B : Blt mg) : FnOk P w K mg base CX0 1 f fd ["_law_number", "_law_size"] spSpell := by
  have nd := scSpell.nd
  refine F.ok scSpell (fun vs H Q E h => ?_) (fun cdv A outer s H vs Q E hr h => ?_)
  · obtain ⟨num, size, rfl, _⟩ := h
    rfl
  · obtain ⟨num, size, rfl, n0, s0, s1, k⟩ := h
    have hbig : 100000 < sizeLine := by rw [sizeLine_eq]; decide
    have e62 : (2 : Int) ^ 62 = 4611686018427387904 := by decide
    refine ⟨_, (pss_cons (ps_set (i := 2) nd rfl (Or.inl rfl) pe_str)
      (pss_cons (ps_for PassesOwn.never rfl (pi_range1 rfl B.range (pa_cons (pv 1) pa_nil)) (pg_name (i := 3) nd rfl (Or.inl rfl))
      (pss_cons (ps_set (i := 2) nd rfl (Or.inl rfl) (pe_op op_add_str (pe_ix ix_str pe_str (pe_op op_mod (pv 0) pe_int) (fun _ _ => rfl)) (pv 2)))
        (pss_one (ps_set (i := 0) nd rfl (Or.inl rfl) (pe_op op_fdiv (pv 0) pe_int)))))
      (pss_one (ps_ret (pv 2))))), ?_⟩
    refine ⟨_, rfl, _, rfl, (by rw [e62]; omega), (by rw [e62]; omega), ?_⟩
    refine for_range (fun i σ H4 => ∃ (num' : Int) (y : Str) (v3 : Option V), σ = [some (.int num'), some (.int size), some (.str y), v3] ∧ 0 ≤ num' ∧ y.length = i ∧ lowAll y ∧ H4 = H) ⟨num, _, _, rfl, n0, rfl, rfl, rfl⟩ ?_ ?_
    · rintro i σ H4 hi ⟨num', y, v3, rfl, m0, ly, al, rfl⟩
      obtain ⟨c, hc, lc⟩ := letter (r := num' % 26) (Int.emod_nonneg _ (by decide)) (Int.emod_lt_of_pos _ (by decide))
      refine ⟨_, rfl, _, _, rfl, rfl, (by show (0 : Int) < 26; decide), _, _, c, rfl, rfl, (by rw [sizeLine_eq]; decide), hc, _, rfl, _, _, rfl, rfl, ?_, ?_⟩
      · show 1 + y.length ≤ sizeLine
        omega
      · exact ⟨_, rfl, _, _, rfl, rfl, ⟨by decide, by decide⟩, _, _, _, rfl, Int.ediv_nonneg m0 (by decide), by rw [len_cons, ly], low_cons lc al, rfl⟩
    · rintro σ H4 ⟨num', y, v3, rfl, m0, ly, al, rfl⟩
      exact ⟨_, rfl, k y (by omega) al⟩
def spNam : Sp := fun vs H Q _ => ∃ (b t : Addr) (n : Int) (ts : List Str), vs = [.ref b, .ref t] ∧ BoxAt H b n ∧ n < 1099511000000 ∧ t ≠ b ∧ H t = some (.lst (ts.map V.str)) ∧ ts.length ≤ 1000 ∧
  ∀ (y : Str) H', SameB b H H' → BoxAt H' b (n + 12) → 1 ≤ y.length → y.length ≤ 8 → lowAll y → Q (.str y) H'
theorem scNam : FnScope ["_law_box_here", "_law_taken", "_law_size", "_law_number", "_law_k", "_law_word", "_law_turn"] ["_law_box_here", "_law_taken"] (defScope (topL 14)) := ⟨rfl, rfl, rfl, by decide +kernel, rfl, by decide +kernel, by decide +kernel⟩
theorem pick38 {r : Int} (h0 : 0 ≤ r) (h1 : r < 4) : ∃ z : Int, atI [V.int 3, V.int 3, V.int 3, V.int 8] r = some (.int z) ∧ 3 ≤ z ∧ z ≤ 8 := by
  have hc : r = 0 ∨ r = 1 ∨ r = 2 ∨ r = 3 := by omega
  rcases hc with rfl | rfl | rfl | rfl
  · exact ⟨3, rfl, by decide, by decide⟩
  · exact ⟨3, rfl, by decide, by decide⟩
  · exact ⟨3, rfl, by decide, by decide⟩
  · exact ⟨8, rfl, by decide, by decide⟩
theorem ok_nam {f : Addr} {fd : FuncData} (F : Fun K "_law_name" "_law_name" (topL 14) f fd) (B : Blt mg) (D_take : Dfn P w K mg base "_law_take" 1 ["_law_box_here", "_law_size"] spTake) (D_spelled : Dfn P w K mg base "_law_spelled" 1 ["_law_number", "_law_size"] spSpell) : FnOk P w K mg base CX0 2 f fd ["_law_box_here", "_law_taken"] spNam := by
  have nd := scNam.nd
  refine F.ok scNam (fun vs H Q E h => ?_) (fun cdv A outer s H vs Q E hr h => ?_)
  · obtain ⟨b, t, n, ts, rfl, _⟩ := h
    rfl
  · obtain ⟨b, t, n, ts, rfl, B0, hn, ntb, ht, htl, k⟩ := h
    have e62 : (2 : Int) ^ 62 = 4611686018427387904 := by decide
    refine ⟨_, (pss_cons (ps_set (i := 2) nd rfl (Or.inl rfl) (pe_op op_add pe_int (pe_callD D_take (hr.mono (by first | decide | exact Nat.le_refl _ | omega)) rfl (pa_cons (pv 0) (pa_cons (pe_ix ix_list (pe_lst (pa_cons pe_int (pa_cons pe_int (pa_cons pe_int (pa_cons pe_int pa_nil))))) (pe_callD D_take (hr.mono (by first | decide | exact Nat.le_refl _ | omega)) rfl (pa_cons (pv 0) (pa_cons pe_int pa_nil))) (fun _ _ => rfl)) pa_nil)))))
      (pss_cons (ps_set (i := 3) nd rfl (Or.inl rfl) pe_int)
      (pss_cons (ps_for PassesOwn.never rfl (pi_range1 rfl B.range (pa_cons (pv 2) pa_nil)) (pg_name (i := 4) nd rfl (Or.inl rfl))
      (pss_one (ps_set (i := 3) nd rfl (Or.inl rfl) (pe_op op_add (pe_op op_mul (pv 3) pe_int) (pe_callD D_take (hr.mono (by first | decide | exact Nat.le_refl _ | omega)) rfl (pa_cons (pv 0) (pa_cons pe_int pa_nil)))))))
      (pss_cons (ps_set (i := 5) nd rfl (Or.inl rfl) (pe_callD D_spelled (hr.mono (by first | decide | exact Nat.le_refl _ | omega)) rfl (pa_cons (pv 3) (pa_cons (pv 2) pa_nil))))
      (pss_cons (ps_for PassesOwn.never rfl (pi_range1 rfl B.range (pa_cons (pe_op op_add (pe_callB call_len_seq rfl B.len boot_len (pa_cons (pv 1) pa_nil)) pe_int) pa_nil)) (pg_name (i := 6) nd rfl (Or.inl rfl))
      (pss_one (ps_if (pt_cmpR op_in_seq (pv 5) (pv 1) (by with_unfolding_all rfl))
        (pss_one (ps_set (i := 5) nd rfl (Or.inl rfl) (pe_callD D_spelled (hr.mono (by first | decide | exact Nat.le_refl _ | omega)) rfl (pa_cons (pe_op op_add (pv 3) (pv 6)) (pa_cons pe_int pa_nil)))))
        pss_nil)))
      (pss_one (ps_ret (pv 5)))))))), ?_⟩
    refine ⟨_, rfl, le4, fun l hl => ⟨_, rfl, b, 4, n, rfl, B0.new hl, by omega, by decide, by decide, fun r H1 r0 r1 B1 S1 => ?_⟩⟩
    have L1 := S1 l _ (upd_same (H := H)) ((B0.new hl).ne (upd_same (H := H) (o := .lst [.int 3, .int 3, .int 3, .int 8])) (by intro x y z e; cases e))
    have S1' := ((SameB.refl b H).new (o := .lst [.int 3, .int 3, .int 3, .int 8]) hl).trans S1
    obtain ⟨z, ez, z0, z1⟩ := pick38 r0 r1
    refine ⟨l, _, _, _, rfl, rfl, SqL.of L1, ez, b, z, n + 1, rfl, B1, by omega, by omega, by omega, fun r2 H2 a0 a1 B2 S2 => ⟨_, _, rfl, rfl, ?_⟩⟩
    have S2' := S1'.trans S2
    refine ⟨_, rfl, _, rfl, (by rw [e62]; omega), (by rw [e62]; omega), ?_⟩
    refine for_range (fun i σ H4 => ∃ (num : Int) (v4 : Option V), σ = [some (.ref b), some (.ref t), some (.int (1 + r2)), some (.int num), v4, none, none] ∧ 0 ≤ num ∧ SameB b H H4 ∧ BoxAt H4 b (n + 2 + i)) ⟨0, _, rfl, by decide, S2', B2.mono (by omega)⟩ ?_ ?_
    · rintro i σ H4 hi ⟨num, v4, rfl, m0, S4, B4⟩
      refine ⟨_, rfl, _, _, rfl, rfl, .inr ⟨by decide, by decide⟩, _, rfl, b, 26, _, rfl, B4, by omega, by decide, by decide, fun r3 H5 c0 c1 B5 S5 => ⟨_, _, rfl, rfl, _, _, rfl, ?_, S4.trans S5, B5.mono (by omega)⟩⟩
      omega
    · rintro σ H4 ⟨num, v4, rfl, m0, S4, B4⟩
      refine ⟨_, rfl, _, rfl, num, 1 + r2, rfl, m0, by omega, by omega, fun y ly al => ?_⟩
      have ht4 := S4 t _ ht ntb
      have el : (ts.map V.str).length = ts.length := List.length_map ..
      refine ⟨_, rfl, t, _, rfl, .inl (SqL.of ht4), _, _, rfl, rfl, _, rfl, (by rw [e62, el]; omega), (by rw [e62, el]; omega), ?_⟩
      refine for_range (fun i σ H5 => ∃ (v4 v6 : Option V) (y : Str), σ = [some (.ref b), some (.ref t), some (.int (1 + r2)), some (.int num), v4, some (.str y), v6] ∧ 1 ≤ y.length ∧ y.length ≤ 8 ∧ lowAll y ∧ H5 = H4) ⟨_, _, y, rfl, by omega, by omega, al, rfl⟩ ?_ ?_
      · rintro i σ H5 hi ⟨v4, v6, y, rfl, y0, y1, al, rfl⟩
        refine ⟨_, rfl, _, rfl, t, _, rfl, .inl (SqL.of ht4), rfl, strs_flat ts, _, rfl, ite2 (fun c => ?_) (fun c => ⟨_, _, y, rfl, y0, y1, al, rfl⟩)⟩
        exact ⟨_, rfl, _, rfl, _, _, rfl, rfl, _, 8, rfl, by omega, by decide, by decide, fun y' ly' al' => ⟨_, _, y', rfl, by omega, by omega, al', rfl⟩⟩
      · rintro σ H5 ⟨v4, v6, y, rfl, y0, y1, al, rfl⟩
        exact ⟨_, rfl, k y _ S4 (B4.mono (by omega)) y0 y1 al⟩
def Row (H : Hp) (l : Addr) (ns : List Str) : Prop := H l = some (.lst (ns.map V.str)) ∧ ∀ x ∈ ns, Nm x
theorem Row.same {H H' : Hp} {l : Addr} {ns : List Str} (r : Row H l ns) (s : Same H H') : Row H' l ns := ⟨s _ _ r.1, r.2⟩
theorem Row.draw {H H' : Hp} {b l : Addr} {ns : List Str} (r : Row H l ns) (s : SameB b H H') (h : l ≠ b) : Row H' l ns := ⟨s _ _ r.1 h, r.2⟩
def spNames : Sp := fun vs H Q _ => ∃ (b : Addr) (m n : Int), vs = [.ref b, .int m] ∧ BoxAt H b n ∧ n < 1000000 ∧ 0 ≤ m ∧ m ≤ 12 ∧
  ∀ (l : Addr) (ns : List Str) H', SameB b H H' → BoxAt H' b (n + 150) → l ≠ b → H l = none → Row H' l ns → (ns.length : Int) = m → Q (.ref l) H'
theorem scNames : FnScope ["_law_box_here", "_law_many", "_law_found", "_law_k"] ["_law_box_here", "_law_many"] (defScope (topL 15)) := ⟨rfl, rfl, rfl, by decide +kernel, rfl, by decide +kernel, by decide +kernel⟩
theorem ok_names {f : Addr} {fd : FuncData} (F : Fun K "_law_names" "_law_names" (topL 15) f fd) (B : Blt mg) (D_name : Dfn P w K mg base "_law_name" 2 ["_law_box_here", "_law_taken"] spNam) : FnOk P w K mg base CX0 3 f fd ["_law_box_here", "_law_many"] spNames := by
  have nd := scNames.nd
  refine F.ok scNames (fun vs H Q E h => ?_) (fun cdv A outer s H vs Q E hr h => ?_)
  · obtain ⟨b, m, n, rfl, _⟩ := h
    rfl
  · obtain ⟨b, m, n, rfl, B0, hn, m0, m1, k⟩ := h
    have hbig : 100000 < sizeLine := by rw [sizeLine_eq]; decide
    have e62 : (2 : Int) ^ 62 = 4611686018427387904 := by decide
    refine ⟨_, (pss_cons (ps_set (i := 2) nd rfl (Or.inl rfl) (pe_lst pa_nil))
      (pss_cons (ps_for PassesOwn.never rfl (pi_range1 rfl B.range (pa_cons (pv 1) pa_nil)) (pg_name (i := 3) nd rfl (Or.inl rfl))
      (pss_one (ps_expr (pe_bm PySem.F.plainAttrs_list PySem.F.slot_list_append PySem.F.type_list_append mt_append (pv 2) (pa_cons (pe_callD D_name (hr.mono (by first | decide | exact Nat.le_refl _ | omega)) rfl (pa_cons (pv 0) (pa_cons (pv 2) pa_nil))) pa_nil)))))
      (pss_one (ps_ret (pv 2))))), ?_⟩
    refine ⟨le0, fun l hl => ?_⟩
    have nl := B0.nne hl
    refine ⟨_, rfl, _, rfl, (by rw [e62]; omega), (by rw [e62]; omega), ?_⟩
    refine for_range (fun i σ H4 => ∃ (ns : List Str) (v3 : Option V), σ = [some (.ref b), some (.int m), some (.ref l), v3] ∧ SameB b H H4 ∧ BoxAt H4 b (n + 12 * i) ∧ Row H4 l ns ∧ ns.length = i) ⟨[], _, rfl, (SameB.refl b H).new hl, (B0.new hl).mono (by omega), ⟨upd_same, fun x h => nomatch h⟩, rfl⟩ ?_ ?_
    · rintro i σ H4 hi ⟨ns, v3, rfl, S4, B4, R4, nsl⟩
      refine ⟨_, rfl, .inl ⟨rfl, _, SqL.of R4.1⟩, _, rfl, _, rfl, b, l, _, ns, rfl, B4, by omega, nl, R4.1, by omega, fun y H5 S5 B5 y0 y1 al => ⟨l, _, _, rfl, rfl, (R4.draw S5 nl).1, by rw [List.length_map, nsl]; omega, ?_⟩⟩
      refine ⟨ns ++ [y], _, rfl, (S4.trans S5).put hl, (B5.other nl).mono (by omega), ⟨by rw [upd_same, List.map_append]; rfl, fun x hx => ?_⟩, by rw [List.length_append, nsl]; rfl⟩
      rcases List.mem_append.mp hx with q | q
      · exact R4.2 x q
      · rw [List.mem_singleton.mp q]; exact nm_of y1 al
    · rintro σ H4 ⟨ns, v3, rfl, S4, B4, R4, nsl⟩
      exact ⟨_, rfl, k l ns H4 S4 (B4.mono (by omega)) nl hl R4 (by omega)⟩
end
end L2

set_option Elab.async false
set_option linter.all false
set_option maxRecDepth 100000
set_option maxHeartbeats 4000000
namespace L2
open PySem PySem.Spec PyProof.Rows
section
variable {P : Program} {w : World} {K : PySem.W.Frag} {mg : Str → Option Value} {base : Heap}
def PlA (H : Hp) (a : Addr) : Prop := ∃ x y : Int, H a = some (.tup [.int x, .int y]) ∧ 0 ≤ x ∧ x ≤ 1000 ∧ 0 ≤ y ∧ y ≤ 1000
theorem PlA.imp {H H' : Hp} {a : Addr} (h : PlA H a) (f : ∀ o, H a = some o → H' a = some o) : PlA H' a := let ⟨x, y, e, r⟩ := h; ⟨x, y, f _ e, r⟩
theorem PlA.draw {H H' : Hp} {a b : Addr} {n : Int} (h : PlA H a) (B : BoxAt H b n) (s : SameB b H H') : PlA H' a := by
  obtain ⟨x, y, e, r⟩ := h
  obtain ⟨b0, b1, b2, eb, _⟩ := B
  exact ⟨x, y, s a _ e (ne_of e eb (by intro z; cases z)), r⟩
def spPlace (K : PySem.W.Frag) : Sp := fun vs H Q _ => ∃ (b t : Addr) (n : Int) (as : List Addr), vs = [.ref b, .ref t] ∧ BoxAt H b n ∧ n < 1099511627000 ∧ t ≠ b ∧ H t = some (.lst (as.map V.ref)) ∧ as.length ≤ 1000 ∧ (∀ a ∈ as, PlA H a) ∧
  ∀ (p : Addr) H', SameB b H H' → BoxAt H' b (n + 3) → H p = none → PlA H' p → Q (.ref p) H'
theorem scPlace : FnScope ["_law_box_here", "_law_taken", "_law_most", "_law_x", "_law_y", "_law_turn"] ["_law_box_here", "_law_taken"] (defScope (topL 16)) := ⟨rfl, rfl, rfl, by decide +kernel, rfl, by decide +kernel, by decide +kernel⟩
theorem ok_place {f : Addr} {fd : FuncData} (F : Fun K "_law_place" "_law_place" (topL 16) f fd) (B : Blt mg) (D_take : Dfn P w K mg base "_law_take" 1 ["_law_box_here", "_law_size"] spTake) : FnOk P w K mg base CX0 2 f fd ["_law_box_here", "_law_taken"] (spPlace K) := by
  have nd := scPlace.nd
  refine F.ok scPlace (fun vs H Q E h => ?_) (fun cdv A outer s H vs Q E hr h => ?_)
  · obtain ⟨b, t, n, as, rfl, _⟩ := h
    rfl
  · obtain ⟨b, t, n, as, rfl, B0, hn, ntb, ht, hal, pa, k⟩ := h
    have hu64 := hr.units
    have e62 : (2 : Int) ^ 62 = 4611686018427387904 := by decide
    have el : (as.map V.ref).length = as.length := List.length_map ..
    refine ⟨_, (pss_cons (ps_set (i := 2) nd rfl (Or.inl rfl) (pe_ifExp (pt_cmpR op_eq (pe_callD D_take (hr.mono (by first | decide | exact Nat.le_refl _ | omega)) rfl (pa_cons (pv 0) (pa_cons pe_int pa_nil))) pe_int (nomark _)) pe_int pe_int))
      (pss_cons (ps_par (i := 3) (j := 4) rfl nd rfl rfl (by decide) rfl rfl (pa_cons (pe_callD D_take (hr.mono (by first | decide | exact Nat.le_refl _ | omega)) rfl (pa_cons (pv 0) (pa_cons (pv 2) pa_nil))) (pa_cons (pe_callD D_take (hr.mono (by first | decide | exact Nat.le_refl _ | omega)) rfl (pa_cons (pv 0) (pa_cons (pv 2) pa_nil))) pa_nil)) (by rfl))
      (pss_cons (ps_for PassesOwn.never rfl (pi_range1 rfl B.range (pa_cons (pe_op op_add (pe_callB call_len_seq rfl B.len boot_len (pa_cons (pv 1) pa_nil)) pe_int) pa_nil)) (pg_name (i := 5) nd rfl (Or.inl rfl))
      (pss_one (ps_if (pt_cmpR (op_inTw hu64) (pe_tup (pa_cons (pv 3) (pa_cons (pv 4) pa_nil))) (pv 1) (by with_unfolding_all rfl))
        (pss_one (ps_set (i := 3) nd rfl (Or.inl rfl) (pe_op op_mod (pe_op op_add (pv 3) pe_int) pe_int)))
        pss_nil)))
      (pss_one (ps_ret (pe_tup (pa_cons (pv 3) (pa_cons (pv 4) pa_nil)))))))), ?_⟩
    refine ⟨_, rfl, b, 4, n, rfl, B0, by omega, by decide, by decide, fun r H1 r0 r1 B1 S1 => ⟨rfl, _, rfl, ite2 (fun c => ?_) (fun c => ?_)⟩⟩
    all_goals
      refine ⟨_, rfl, _, rfl, b, _, n + 1, rfl, B1, by omega, by decide, by decide, fun x H2 x0 x1 B2 S2 => ⟨_, rfl, _, rfl, b, _, n + 1 + 1, rfl, B2, by omega, by decide, by decide, fun y H3 y0 y1 B3 S3 => ⟨_, _, rfl, ?_⟩⟩⟩
      have S4 := S1.trans (S2.trans S3)
      have ht3 := S4 t _ ht ntb
      refine ⟨_, rfl, t, _, rfl, .inl (SqL.of ht3), _, _, rfl, rfl, _, rfl, (by rw [e62, el]; omega), (by rw [e62, el]; omega), ?_⟩
      refine for_range (fun i σ H4 => ∃ (v2 v5 : Option V) (x : Int), σ = [some (.ref b), some (.ref t), v2, some (.int x), some (.int y), v5] ∧ 0 ≤ x ∧ x ≤ 1000 ∧ SameB b H H4 ∧ BoxAt H4 b (n + 1 + 1 + 1)) ⟨_, none, x, rfl, x0, by omega, S4, B3⟩ ?_ ?_
      · rintro i σ H4 _ ⟨v2, v5, x, rfl, x0', x1', S5, B5⟩
        refine ⟨_, rfl, _, rfl, le2, fun p hp => ⟨_, rfl, p, t, _, _, rfl, rfl, SqT.of upd_same, rfl, SqL.of ((S5.new hp) t _ ht ntb), fun v hv => ?_, fun q => ⟨_, rfl, ite2 (fun d => ?_) (fun d => ?_)⟩⟩⟩
        · obtain ⟨c, hc, rfl⟩ := List.mem_map.mp hv
          obtain ⟨cx, cy, hcc, _⟩ := (pa c hc).draw B0 (S5.new (o := .tup [.int x, .int y]) hp)
          exact ⟨c, _, rfl, SqT.of hcc, rfl⟩
        · exact ⟨_, rfl, _, _, rfl, rfl, _, _, rfl, rfl, (by show (0 : Int) < 1001; decide), _, _, _, rfl, Int.emod_nonneg _ (by decide), by have := Int.emod_lt_of_pos (x + 1) (by decide : (0 : Int) < 1001); omega, S5.new hp, B5.new hp⟩
        · exact ⟨_, _, x, rfl, x0', x1', S5.new hp, B5.new hp⟩
      · rintro σ H4 ⟨v2, v5, x, rfl, x0', x1', S5, B5⟩
        have B6 : BoxAt H4 b (n + 3) := by
          have e : n + 3 = n + 1 + 1 + 1 := by omega
          rw [e]; exact B5
        exact ⟨_, rfl, _, rfl, le2, fun p hp => k p _ (S5.new hp) (B6.new hp) (S5.none hp (B5.nne hp)) ⟨x, y, upd_same, x0', x1', y0, by omega⟩⟩
def spPlaces : Sp := fun vs H Q _ => ∃ (b : Addr) (m n : Int), vs = [.ref b, .int m] ∧ BoxAt H b n ∧ n < 1000000 ∧ 0 ≤ m ∧ m ≤ 100 ∧
  ∀ (l : Addr) (as : List Addr) H', SameB b H H' → BoxAt H' b (n + 400) → l ≠ b → H l = none → H' l = some (.lst (as.map V.ref)) → (∀ a ∈ as, PlA H' a) → (as.length : Int) = m → Q (.ref l) H'
theorem scPlaces : FnScope ["_law_box_here", "_law_many", "_law_found", "_law_k"] ["_law_box_here", "_law_many"] (defScope (topL 17)) := ⟨rfl, rfl, rfl, by decide +kernel, rfl, by decide +kernel, by decide +kernel⟩
theorem ok_places {f : Addr} {fd : FuncData} (F : Fun K "_law_places" "_law_places" (topL 17) f fd) (B : Blt mg) (D_place : Dfn P w K mg base "_law_place" 2 ["_law_box_here", "_law_taken"] (spPlace K)) : FnOk P w K mg base CX0 3 f fd ["_law_box_here", "_law_many"] spPlaces := by
  have nd := scPlaces.nd
  refine F.ok scPlaces (fun vs H Q E h => ?_) (fun cdv A outer s H vs Q E hr h => ?_)
  · obtain ⟨b, m, n, rfl, _⟩ := h
    rfl
  · obtain ⟨b, m, n, rfl, B0, hn, m0, m1, k⟩ := h
    have hbig : 100000 < sizeLine := by rw [sizeLine_eq]; decide
    have e62 : (2 : Int) ^ 62 = 4611686018427387904 := by decide
    refine ⟨_, (pss_cons (ps_set (i := 2) nd rfl (Or.inl rfl) (pe_lst pa_nil))
      (pss_cons (ps_for PassesOwn.never rfl (pi_range1 rfl B.range (pa_cons (pv 1) pa_nil)) (pg_name (i := 3) nd rfl (Or.inl rfl))
      (pss_one (ps_expr (pe_bm PySem.F.plainAttrs_list PySem.F.slot_list_append PySem.F.type_list_append mt_append (pv 2) (pa_cons (pe_callD D_place (hr.mono (by first | decide | exact Nat.le_refl _ | omega)) rfl (pa_cons (pv 0) (pa_cons (pv 2) pa_nil))) pa_nil)))))
      (pss_one (ps_ret (pv 2))))), ?_⟩
    refine ⟨le0, fun l hl => ?_⟩
    have nl := B0.nne hl
    refine ⟨_, rfl, _, rfl, (by rw [e62]; omega), (by rw [e62]; omega), ?_⟩
    refine for_range (fun i σ H4 => ∃ (as : List Addr) (v3 : Option V), σ = [some (.ref b), some (.int m), some (.ref l), v3] ∧ SameB b H H4 ∧ BoxAt H4 b (n + 3 * i) ∧ H4 l = some (.lst (as.map V.ref)) ∧ (∀ a ∈ as, PlA H4 a) ∧ as.length = i) ⟨[], _, rfl, (SameB.refl b H).new hl, (B0.new hl).mono (by omega), upd_same, (fun x h => nomatch h), rfl⟩ ?_ ?_
    · rintro i σ H4 hi ⟨as, v3, rfl, S4, B4, L4, P4, asl⟩
      refine ⟨_, rfl, .inl ⟨rfl, _, SqL.of L4⟩, _, rfl, _, rfl, b, l, _, as, rfl, B4, by omega, nl, L4, by omega, P4, fun p H5 S5 B5 pN pp => ⟨l, _, _, rfl, rfl, S5 l _ L4 nl, by rw [List.length_map, asl]; omega, ?_⟩⟩
      have L5 := S5 l _ L4 nl
      have keep : ∀ {a : Addr}, PlA H5 a → PlA (upd H5 l (.lst (as.map V.ref ++ [.ref p]))) a := fun {a} h => by
        obtain ⟨x, y, e, r⟩ := h
        exact ⟨x, y, by rw [upd_ne (ne_of e L5 (by intro z; cases z))]; exact e, r⟩
      refine ⟨as ++ [p], _, rfl, (S4.trans S5).put hl, (B5.other nl).mono (by omega), by rw [upd_same, List.map_append]; rfl, fun a ha => ?_, by rw [List.length_append, asl]; rfl⟩
      rcases List.mem_append.mp ha with q | q
      · exact keep ((P4 a q).draw B4 S5)
      · rw [List.mem_singleton.mp q]; exact keep pp
    · rintro σ H4 ⟨as, v3, rfl, S4, B4, L4, P4, asl⟩
      exact ⟨_, rfl, k l as H4 S4 (B4.mono (by omega)) nl hl L4 P4 (by omega)⟩
def spShuf (K : PySem.W.Frag) : Sp := fun vs H Q _ => ∃ (b a : Addr) (n : Int) (xs : List V), vs = [.ref b, .ref a] ∧ BoxAt H b n ∧ n < 1000000 ∧ a ≠ b ∧ H a = some (.lst xs) ∧ xs.length ≤ 1000 ∧
  ∀ (l : Addr) (ys : List V) H', SameB b H H' → BoxAt H' b (n + xs.length) → l ≠ b → H l = none → H' l = some (.lst ys) → ys.Perm xs → Q (.ref l) H'
theorem scShuf : FnScope ["_law_box_here", "_law_some", "_law_found", "_law_one"] ["_law_box_here", "_law_some"] (defScope (topL 18)) := ⟨rfl, rfl, rfl, by decide +kernel, rfl, by decide +kernel, by decide +kernel⟩
theorem ok_shuf {f : Addr} {fd : FuncData} (F : Fun K "_law_shuffled" "_law_shuffled" (topL 18) f fd) (B : Blt mg) (D_take : Dfn P w K mg base "_law_take" 1 ["_law_box_here", "_law_size"] spTake) : FnOk P w K mg base CX0 2 f fd ["_law_box_here", "_law_some"] (spShuf K) := by
  have nd := scShuf.nd
  refine F.ok scShuf (fun vs H Q E h => ?_) (fun cdv A outer s H vs Q E hr h => ?_)
  · obtain ⟨b, a, n, xs, rfl, _⟩ := h
    rfl
  · obtain ⟨b, a, n, xs, rfl, B0, hn, nab, ha, hxl, k⟩ := h
    have hbig : 100000 < sizeLine := by rw [sizeLine_eq]; decide
    have e62 : (2 : Int) ^ 62 = 4611686018427387904 := by decide
    refine ⟨_, (pss_cons (ps_set (i := 2) nd rfl (Or.inl rfl) (pe_lst pa_nil))
      (pss_cons (ps_for PassesOwn.never rfl (pi_list (pv 1)) (pg_name (i := 3) nd rfl (Or.inl rfl))
      (pss_one (ps_expr (pe_bm PySem.F.plainAttrs_list PySem.F.slot_list_insert PySem.F.type_list_insert mt_insert (pv 2) (pa_cons (pe_callD D_take (hr.mono (by first | decide | exact Nat.le_refl _ | omega)) rfl (pa_cons (pv 0) (pa_cons (pe_op op_add (pe_callB call_len_seq rfl B.len boot_len (pa_cons (pv 2) pa_nil)) pe_int) pa_nil))) (pa_cons (pv 3) pa_nil))))))
      (pss_one (ps_ret (pv 2))))), ?_⟩
    refine ⟨le0, fun l hl => ?_⟩
    have nl := B0.nne hl
    have nal : a ≠ l := ne_of_none ha hl
    refine ⟨_, rfl, a, rfl, ⟨_, SqL.of ((same_upd hl) _ _ ha)⟩, for_list (K := K) (a := a) (xs := xs) (fun i σ H4 => ∃ (ys : List V) (v3 : Option V), σ = [some (.ref b), some (.ref a), some (.ref l), v3] ∧ SameB b H H4 ∧ BoxAt H4 b (n + i) ∧ H4 a = some (.lst xs) ∧ H4 l = some (.lst ys) ∧ ys.Perm (xs.take i))
      ⟨[], _, rfl, (SameB.refl b H).new hl, (B0.new hl).mono (by omega), (same_upd hl) _ _ ha, upd_same, .nil⟩ (fun i σ H4 _ ⟨_, _, _, _, _, h, _⟩ => SqL.of h) ?_ ?_⟩
    · rintro i x σ H4 hx ⟨ys, v3, rfl, S4, B4, A4, L4, pm⟩
      have hi := (List.getElem?_eq_some_iff.mp hx).1
      have yl : ys.length = i := by rw [pm.length_eq, List.length_take]; omega
      refine ⟨_, rfl, .inl ⟨rfl, _, SqL.of L4⟩, _, rfl, _, rfl, l, _, rfl, .inl (SqL.of L4), _, _, rfl, rfl, b, _, _, rfl, B4, by omega, by omega, by omega, fun q H5 q0 q1 B5 S5 => ⟨_, rfl, ?_⟩⟩
      refine ⟨l, ys, q, x, rfl, rfl, S5 l _ L4 nl, q0, by rw [e62]; omega, by omega, ?_⟩
      refine ⟨_, _, rfl, (S4.trans S5).put hl, (B5.other nl).mono (by omega), by rw [upd_ne nal]; exact S5 a _ A4 nab, upd_same, ?_⟩
      have e1 : xs.take (i + 1) = xs.take i ++ [x] := by
        obtain ⟨h1, h2⟩ := List.getElem?_eq_some_iff.mp hx
        rw [← h2, List.take_append_getElem]
      rw [e1]
      refine List.perm_middle.trans ?_
      rw [List.take_append_drop]
      exact ((List.Perm.cons x pm).trans (List.perm_append_singleton x _).symm)
    · rintro σ H4 ⟨ys, v3, rfl, S4, B4, A4, L4, pm⟩
      rw [List.take_length] at pm
      exact ⟨_, rfl, k l ys H4 S4 B4 nl hl L4 pm⟩
end
end L2

set_option Elab.async false
set_option linter.all false
set_option maxRecDepth 100000
set_option maxHeartbeats 4000000
namespace L2
open PySem PySem.Spec PyProof.Rows
def SameT (H H' : Hp) : Prop := ∀ a u, H a = some u → (∀ xs, u ≠ .lst xs) → H' a = some u
theorem SameT.refl (H : Hp) : SameT H H := fun _ _ e _ => e
theorem SameT.trans {H H1 H2 : Hp} (a : SameT H H1) (b : SameT H1 H2) : SameT H H2 := fun c u e h => b c u (a c u e h) h
theorem SameT.of {H H' : Hp} (s : Same H H') : SameT H H' := fun a u e _ => s a u e
theorem SameT.draw {H H' : Hp} {b : Addr} {n : Int} (B : BoxAt H b n) (s : SameB b H H') : SameT H H' := fun a u e h => by
  obtain ⟨b0, b1, b2, eb, _⟩ := B
  exact s a u e (fun z => by rw [z, eb] at e; cases e; exact h _ rfl)
theorem SameT.put {H : Hp} {l : Addr} {xs ys : List V} (h : H l = some (.lst xs)) : SameT H (upd H l (.lst ys)) := fun a u e hu => by
  rw [upd_ne (fun z => by rw [z, h] at e; cases e; exact hu _ rfl)]; exact e
mutual
/-- no list in it -/
def Dat.imm : Dat → Bool
  | .lst _ => false
  | .tup ds => Dat.imms ds
  | _ => true
def Dat.imms : List Dat → Bool
  | [] => true
  | d :: ds => d.imm && Dat.imms ds
end
section
variable {P : Program} {w : World} {K : PySem.W.Frag} {mg : Str → Option Value} {base : Heap}
theorem SqT.keep {H H' : Hp} {a : Addr} {xs : List V} (q : SqT K H a xs) (s : SameT H H') : SqT K H' a xs := by
  rcases q with (q | ⟨o, q⟩) | q
  · exact .inl (.inl (s a _ q (fun z h => nomatch h)))
  · exact .inl (.inr ⟨o, s a _ q (fun z h => nomatch h)⟩)
  · exact .inr q
mutual
theorem Rep.keep {H H' : Hp} (s : SameT H H') : ∀ {d : Dat} {v : V}, d.imm = true → Rep K H d v → Rep K H' d v
  | .non, _, _, h => h
  | .bl _, _, _, h => h
  | .int _, _, _, h => h
  | .str _, _, _, h => h
  | .lst _, _, i, _ => by cases i
  | .tup ds, _, i, h => by
    obtain ⟨a, xs, e, q, r⟩ := h
    exact ⟨a, xs, e, q.keep s, Reps.keep s (ds := ds) i r⟩
theorem Reps.keep {H H' : Hp} (s : SameT H H') : ∀ {ds : List Dat} {xs : List V}, Dat.imms ds = true → Reps K H ds xs → Reps K H' ds xs
  | [], _, _, h => h
  | d :: ds, _, i, h => by
    obtain ⟨x, r, e, h1, h2⟩ := h
    have i' : (d.imm && Dat.imms ds) = true := i
    rw [Bool.and_eq_true] at i'
    exact ⟨x, r, e, Rep.keep s i'.1 h1, Reps.keep s i'.2 h2⟩
end
theorem Reps.snoc {H : Hp} {d : Dat} {v : V} (h : Rep K H d v) : ∀ {ds : List Dat} {xs : List V}, Reps K H ds xs → Reps K H (ds ++ [d]) (xs ++ [v])
  | [], _, e => by rw [show _ = _ from e]; exact ⟨v, [], rfl, h, rfl⟩
  | _ :: _, _, e => by
    obtain ⟨x, r, e1, h1, h2⟩ := e
    subst e1
    exact ⟨x, r ++ [v], rfl, h1, Reps.snoc h h2⟩
end
end L2

set_option Elab.async false
set_option linter.all false
set_option maxRecDepth 100000
set_option maxHeartbeats 4000000
namespace L2
open PySem PySem.Spec PyProof.Rows
theorem perm_map_inv {α β : Type} {f : α → β} {ys ws : List β} (h : ys.Perm ws) : ∀ {xs : List α}, ws = xs.map f → ∃ zs : List α, zs.Perm xs ∧ ys = zs.map f := by
  induction h with
  | nil =>
    intro xs e
    have : xs = [] := by simpa using e.symm
    exact ⟨[], by rw [this], rfl⟩
  | @cons x l1 l2 p ih =>
    intro xs e
    cases xs with
    | nil => simp at e
    | cons a as =>
      rw [List.map_cons] at e
      injection e with e1 e2
      obtain ⟨zs, p1, p2⟩ := ih e2
      exact ⟨a :: zs, p1.cons a, by rw [List.map_cons, ← p2, ← e1]⟩
  | swap x y l =>
    intro xs e
    cases xs with
    | nil => simp at e
    | cons a as =>
      cases as with
      | nil => simp at e
      | cons c cs =>
        rw [List.map_cons, List.map_cons] at e
        injection e with e1 e2
        injection e2 with e2 e3
        exact ⟨c :: a :: cs, .swap a c cs, by rw [List.map_cons, List.map_cons, ← e1, ← e2, ← e3]⟩
  | trans p q ih1 ih2 =>
    intro xs e
    obtain ⟨zs, p1, p2⟩ := ih2 e
    obtain ⟨us, p3, p4⟩ := ih1 p2
    exact ⟨us, p3.trans p1, p4⟩
def pairD (p : Nat × Nat) : Dat := .tup [.int p.1, .int p.2]
def aheadsD (as : List (Nat × Nat)) : Dat := .tup (as.map pairD)
theorem pairs_imm : ∀ (as : List (Nat × Nat)), Dat.imms (as.map pairD) = true
  | [] => rfl
  | p :: as => by
    show (Dat.imm (pairD p) && Dat.imms (as.map pairD)) = true
    rw [pairs_imm as]; rfl
def ByOrd (ord : List Nat) (as : List (Nat × Nat)) : Prop := ∀ p ∈ as, ∃ k l : Nat, k < l ∧ ord[k]? = some p.1 ∧ ord[l]? = some p.2
section
variable {P : Program} {w : World} {K : PySem.W.Frag} {mg : Str → Option Value} {base : Heap}
theorem Reps.take {H : Hp} : ∀ (n : Nat) {ds : List Dat} {xs : List V}, Reps K H ds xs → Reps K H (ds.take n) (xs.take n)
  | 0, _, _, _ => rfl
  | n + 1, [], _, h => by rw [show _ = _ from h]; exact rfl
  | n + 1, d :: ds, _, h => by
    obtain ⟨x, r, e, h1, h2⟩ := h
    subst e
    exact ⟨x, r.take n, rfl, h1, Reps.take n h2⟩
theorem Reps.app {H : Hp} : ∀ {ds es : List Dat} {xs ys : List V}, Reps K H ds xs → Reps K H es ys → Reps K H (ds ++ es) (xs ++ ys)
  | [], _, _, _, h, h' => by rw [show _ = _ from h]; exact h'
  | d :: ds, _, _, _, h, h' => by
    obtain ⟨x, r, e, h1, h2⟩ := h
    subst e
    exact ⟨x, r ++ _, rfl, h1, Reps.app h2 h'⟩
def spAheads (K : PySem.W.Frag) : Sp := fun vs H Q _ => ∃ (b : Addr) (m n : Int), vs = [.ref b, .int m] ∧ BoxAt H b n ∧ n < 1000000 ∧ 0 ≤ m ∧ m ≤ 100 ∧
  ∀ (p : Addr) (as : List (Nat × Nat)) (ord : List Nat) H', SameB b H H' → BoxAt H' b (n + 800) → Rep K H' (aheadsD as) (.ref p) → ord.Perm (List.range m.toNat) → ByOrd ord as → as.length ≤ 300 → Q (.ref p) H'
theorem scAheads : FnScope ["_law_box_here", "_law_many", "_law_order", "_law_found", "_law_turn", "_law_k"] ["_law_box_here", "_law_many"] (defScope (topL 20)) := ⟨rfl, rfl, rfl, by decide +kernel, rfl, by decide +kernel, by decide +kernel⟩
theorem pickA {m r : Int} (h : 0 ≤ r) (h' : r < 4) (m2 : 2 ≤ m) (m1 : m ≤ 100) : ∃ z : Int, atI [V.int 1, V.int 4, V.int 13, V.int (2 * m)] r = some (.int z) ∧ 1 ≤ z ∧ z ≤ 200 := by
  have hc : r = 0 ∨ r = 1 ∨ r = 2 ∨ r = 3 := by omega
  rcases hc with rfl | rfl | rfl | rfl
  · exact ⟨1, rfl, by omega, by omega⟩
  · exact ⟨4, rfl, by omega, by omega⟩
  · exact ⟨13, rfl, by omega, by omega⟩
  · exact ⟨2 * m, rfl, by omega, by omega⟩
theorem ord_at {ord : List Nat} {i : Int} (h : 0 ≤ i) (h' : i < ord.length) : ∃ x : Nat, atI (ord.map fun i : Nat => V.int (i : Int)) i = some (.int (x : Int)) ∧ ord[i.toNat]? = some x := by
  obtain ⟨v, e1, e2⟩ := atI_in (xs := ord.map fun i : Nat => V.int (i : Int)) h (by rw [List.length_map]; exact h')
  rw [List.getElem?_map] at e2
  obtain ⟨x, hx, rfl⟩ := Option.map_eq_some_iff.mp e2
  exact ⟨x, e1, hx⟩
theorem ok_aheads {f : Addr} {fd : FuncData} (F : Fun K "_law_aheads" "_law_aheads" (topL 20) f fd) (B : Blt mg) (D_take : Dfn P w K mg base "_law_take" 1 ["_law_box_here", "_law_size"] spTake) (D_shuffled : Dfn P w K mg base "_law_shuffled" 2 ["_law_box_here", "_law_some"] (spShuf K)) : FnOk P w K mg base CX0 3 f fd ["_law_box_here", "_law_many"] (spAheads K) := by
  have nd := scAheads.nd
  refine F.ok scAheads (fun vs H Q E h => ?_) (fun cdv A outer s H vs Q E hr h => ?_)
  · obtain ⟨b, m, n, rfl, _⟩ := h
    rfl
  · obtain ⟨b, m, n, rfl, B0, hn, m0, m1, k⟩ := h
    have hbig : 100000 < sizeLine := by rw [sizeLine_eq]; decide
    have e62 : (2 : Int) ^ 62 = 4611686018427387904 := by decide
    refine ⟨_, (pss_cons (ps_par (i := 2) (j := 3) rfl nd rfl rfl (by decide) rfl rfl (pa_cons (pe_callD D_shuffled (hr.mono (by first | decide | exact Nat.le_refl _ | omega)) rfl (pa_cons (pv 0) (pa_cons (pe_listRange rfl rfl B.list rfl B.range boot_list (pa_cons (pv 1) pa_nil)) pa_nil))) (pa_cons (pe_lst pa_nil) pa_nil)) (by rfl))
      (pss_cons (ps_if (pt_cmpR op_lt (pv 1) pe_int (nomark _))
      (pss_one (ps_ret (pe_tup pa_nil)))
      pss_nil)
      (pss_cons (ps_for PassesOwn.never rfl (pi_range1 rfl B.range (pa_cons (pe_callD D_take (hr.mono (by first | decide | exact Nat.le_refl _ | omega)) rfl (pa_cons (pv 0) (pa_cons (pe_ix ix_list (pe_lst (pa_cons pe_int (pa_cons pe_int (pa_cons pe_int (pa_cons (pe_op op_mul pe_int (pv 1)) pa_nil))))) (pe_callD D_take (hr.mono (by first | decide | exact Nat.le_refl _ | omega)) rfl (pa_cons (pv 0) (pa_cons pe_int pa_nil))) (fun _ _ => rfl)) pa_nil))) pa_nil)) (pg_name (i := 4) nd rfl (Or.inl rfl))
      (pss_cons (ps_set (i := 5) nd rfl (Or.inl rfl) (pe_callD D_take (hr.mono (by first | decide | exact Nat.le_refl _ | omega)) rfl (pa_cons (pv 0) (pa_cons (pe_op op_sub (pv 1) pe_int) pa_nil))))
        (pss_one (ps_expr (pe_bm PySem.F.plainAttrs_list PySem.F.slot_list_append PySem.F.type_list_append mt_append (pv 3) (pa_cons (pe_tup (pa_cons (pe_ix ix_list (pv 2) (pv 5) (fun _ _ => rfl)) (pa_cons (pe_ix ix_list (pv 2) (pe_op op_add (pe_op op_add (pv 5) pe_int) (pe_callD D_take (hr.mono (by first | decide | exact Nat.le_refl _ | omega)) rfl (pa_cons (pv 0) (pa_cons (pe_op op_sub (pe_op op_sub (pv 1) pe_int) (pv 5)) pa_nil)))) (fun _ _ => rfl)) pa_nil))) pa_nil))))))
      (pss_one (ps_ret (pe_callTy call_tuple_of rfl B.tuple boot_tuple (pa_cons (pe_op op_cat (pv 3) (pe_slice sl_list (pv 3) po_none (po_some (pe_callTy call_int1 rfl B.int boot_int (pa_cons (pe_cmpR op_eq (pe_callD D_take (hr.mono (by first | decide | exact Nat.le_refl _ | omega)) rfl (pa_cons (pv 0) (pa_cons pe_int pa_nil))) pe_int (nomark _)) pa_nil))))) pa_nil))))))), ?_⟩
    refine ⟨_, rfl, _, rfl, m, rfl, m0, by omega, fun l0 h0 => ?_⟩
    have len0 : ((List.range m.toNat).map fun i : Nat => V.int (i : Int)).length = m.toNat := by rw [List.length_map, List.length_range]
    refine ⟨b, l0, n, _, rfl, B0.new h0, by omega, B0.nne h0, upd_same, by rw [len0]; omega, fun o ys H1 S1 B1 no oN ho pm => ⟨le0, fun R hR => ⟨_, _, rfl, ?_⟩⟩⟩
    obtain ⟨ord, op, rfl⟩ := perm_map_inv pm rfl
    have ol : ord.length = m.toNat := by rw [op.length_eq, List.length_range]
    rw [len0] at B1
    have nR := B1.nne hR
    have oR : o ≠ R := ne_of_none ho hR
    have S1' := ((SameB.refl b H).new h0).trans S1
    have RH : H R = none := S1'.none hR nR
    have S2 := S1'.new (o := .lst []) hR
    have B2 := B1.new (o := .lst []) hR
    have O2 := (same_upd (o := .lst []) hR) _ _ ho
    have R2 : upd H1 R (.lst []) R = some (.lst []) := upd_same
    generalize upd H1 R (.lst []) = H2 at S2 B2 O2 R2
    refine ⟨_, rfl, _, _, rfl, rfl, _, rfl, ite2 (fun c => ?_) (fun c => ?_)⟩
    · exact ⟨le0, fun p hp => k p [] ord _ (S2.new hp) ((B2.new hp).mono (by omega)) ⟨p, [], rfl, SqT.of upd_same, rfl⟩ op (fun p h => nomatch h) (Nat.zero_le _)⟩
    have m2 : 2 ≤ m := by
      have : ¬ m < 2 := fun z => c (decide_eq_true z)
      omega
    refine ⟨_, rfl, _, rfl, _, _, rfl, rfl, .inl ⟨by decide, by decide⟩, le4, fun l1 h1 => ⟨_, rfl, b, 4, _, rfl, B2.new h1, by omega, by decide, by decide, fun r H3 r0 r1 B3 S3 => ?_⟩⟩
    have L3 := S3 l1 _ upd_same (B2.nne h1)
    obtain ⟨z, ez, z0, z1⟩ := pickA r0 r1 m2 m1
    refine ⟨l1, _, _, _, rfl, rfl, SqL.of L3, ez, b, z, _, rfl, B3, by omega, by omega, by omega, fun cnt H4 c0 c1 B4 S4 => ⟨_, rfl, (by rw [e62]; omega), (by rw [e62]; omega), ?_⟩⟩
    have U4 := ((SameB.refl b H2).new h1).trans (S3.trans S4)
    have S4' := S2.trans U4
    have O4 := U4 _ _ O2 no
    have R4 := U4 _ _ R2 nR
    clear S2 B2 O2 R2 S3 S4 U4 L3 h1 B3
    refine for_range (fun i σ H5 => ∃ (as : List (Nat × Nat)) (xs : List V) (v4 v5 : Option V), σ = [some (.ref b), some (.int m), some (.ref o), some (.ref R), v4, v5] ∧ SameB b H H5 ∧ BoxAt H5 b (n + 110 + 2 * i) ∧ H5 o = some (.lst (ord.map fun i : Nat => V.int (i : Int))) ∧ H5 R = some (.lst xs) ∧ Reps K H5 (as.map pairD) xs ∧ ByOrd ord as ∧ as.length = i)
      ⟨[], [], _, _, rfl, S4', B4.mono (by omega), O4, R4, rfl, (fun p h => nomatch h), rfl⟩ ?_ ?_
    · rintro i σ H5 hi ⟨as, xs, v4, v5, rfl, S5, B5, O5, R5, rp, bo, asl⟩
      have xl : xs.length = i := by rw [rp.len, List.length_map, asl]
      refine ⟨_, rfl, _, rfl, _, _, rfl, rfl, b, _, _, rfl, B5, by omega, by omega, by omega, fun kk H6 k0 k1 B6 S6 => ?_⟩
      have O6 := S6 _ _ O5 no
      obtain ⟨x1, ex1, ox1⟩ := ord_at (ord := ord) k0 (by omega)
      refine ⟨_, rfl, .inl ⟨rfl, _, SqL.of (S6 _ _ R5 nR)⟩, _, rfl, _, rfl, o, _, _, _, rfl, rfl, SqL.of O6, ex1, ?_⟩
      refine ⟨_, rfl, _, rfl, _, _, rfl, rfl, _, rfl, _, rfl, _, _, rfl, rfl, _, rfl, _, _, rfl, rfl, b, _, _, rfl, B6, by omega, by omega, by omega, fun q H7 q0 q1 B7 S7 => ⟨_, _, rfl, rfl, ?_⟩⟩
      have O7 := S7 _ _ O6 no
      have R7 := S7 _ _ (S6 _ _ R5 nR) nR
      obtain ⟨x2, ex2, ox2⟩ := ord_at (ord := ord) (i := kk + 1 + q) (by omega) (by omega)
      refine ⟨o, _, _, _, rfl, rfl, SqL.of O7, ex2, le2, fun T hT => ⟨R, xs, .ref T, rfl, rfl, (same_upd hT) _ _ R7, by omega, ?_⟩⟩
      have R8 := (same_upd (o := .tup [.int (x1 : Int), .int (x2 : Int)]) hT) _ _ R7
      have st : SameT H5 (upd (upd H7 T (.tup [.int (x1 : Int), .int (x2 : Int)])) R (.lst (xs ++ [.ref T]))) := ((SameT.draw B5 (S6.trans S7)).trans (.of (same_upd hT))).trans (.put R8)
      refine ⟨as ++ [(x1, x2)], _, _, _, rfl, (((S5.trans S6).trans S7).new hT).put RH, ((B7.new hT).other nR).mono (by omega), by rw [upd_ne oR]; exact (same_upd hT) _ _ O7, upd_same, ?_, fun pq hpq => ?_, by rw [List.length_append, asl]; rfl⟩
      · rw [List.map_append]
        refine Reps.snoc ?_ (Reps.keep st (pairs_imm as) rp)
        refine ⟨T, _, rfl, SqT.of ?_, _, _, rfl, rfl, _, _, rfl, rfl, rfl⟩
        rw [upd_ne (fun zz => by rw [zz, R7] at hT; cases hT)]
        exact upd_same
      · rcases List.mem_append.mp hpq with w1 | w1
        · exact bo pq w1
        · rw [List.mem_singleton.mp w1]
          exact ⟨kk.toNat, (kk + 1 + q).toNat, by omega, ox1, ox2⟩
    · rintro σ H5 ⟨as, xs, v4, v5, rfl, S5, B5, O5, R5, rp, bo, asl⟩
      have xl : xs.length = as.length := by rw [rp.len, List.length_map]
      refine ⟨_, rfl, _, rfl, _, rfl, b, 4, _, rfl, B5, by omega, by decide, by decide, fun r9 H6 r90 r91 B6 S6 => ⟨rfl, .inr ⟨_, rfl, _, rfl, R, xs, rfl, SqL.of (S6 _ _ R5 nR), fun s1 hs1 => ?_⟩⟩⟩
      have R6 := S6 _ _ R5 nR
      obtain ⟨t, et⟩ : ∃ t : Nat, cutV xs none (some (if decide (V.int r9 = V.int 0) = true then (1 : Int) else 0)) = xs.take t ∧ t ≤ 1 := by
        unfold cutV
        by_cases hd : decide (V.int r9 = V.int 0) = true
        · rw [if_pos hd, show (some (1 : Int)) = some ((1 : Nat) : Int) from rfl, HT.sIx_nat, HT.sIx_none]
          refine ⟨min 1 xs.length, by simp, by omega⟩
        · rw [if_neg hd, show (some (0 : Int)) = some ((0 : Nat) : Int) from rfl, HT.sIx_nat, HT.sIx_none]
          refine ⟨0, by simp, by omega⟩
      rw [et.1]
      have st : SameT H5 H6 := .draw B5 S6
      have rp6 := Reps.keep st (pairs_imm as) rp
      have tl : (xs.take t).length ≤ 1 := by rw [List.length_take]; omega
      refine ⟨R, s1, _, _, rfl, rfl, (same_upd hs1) _ _ R6, upd_same, by omega, fun c1 hc1 => ⟨c1, _, rfl, .inl ⟨SqL.of upd_same, fun p hp => ?_⟩⟩⟩
      have sm := ((same_upd (o := .lst (xs.take t)) hs1).trans (same_upd (o := .lst (xs ++ xs.take t)) hc1)).trans (same_upd (o := .tup (xs ++ xs.take t)) hp)
      refine k p (as ++ as.take t) ord _ ((((S5.trans S6).new hs1).new hc1).new hp) ((((B6.new hs1).new hc1).new hp).mono (by omega)) ⟨p, _, rfl, SqT.of upd_same, ?_⟩ op (fun pq hpq => ?_) (by rw [List.length_append, List.length_take]; omega)
      · have rp7 := Reps.keep (SameT.of sm) (pairs_imm as) rp6
        have rt := Reps.take t rp7
        rw [← List.map_take] at rt
        have := Reps.app rp7 rt
        rw [← List.map_append] at this
        exact this
      · rcases List.mem_append.mp hpq with w1 | w1
        · exact bo pq w1
        · exact bo pq (List.mem_of_mem_take w1)
end
end L2

set_option Elab.async false
set_option linter.all false
set_option maxRecDepth 100000
set_option maxHeartbeats 4000000
namespace L2
open PySem PySem.Spec PyProof.Rows
structure Part where
  k : Str
  x : Int
  y : Int
structure Feed where
  k : Str
  x : Int
  y : Int
  m : Int
def partD (p : Part) : Dat := .tup [.str p.k, .tup [.int p.x, .int p.y]]
def feedD (p : Feed) : Dat := .tup [.str p.k, .tup [.int p.x, .int p.y], .int p.m]
theorem feeds_imm : ∀ (as : List Feed), Dat.imms (as.map feedD) = true
  | [] => rfl
  | p :: as => by
    show (Dat.imm (feedD p) && Dat.imms (as.map feedD)) = true
    rw [feeds_imm as]; rfl
theorem parts_imm : ∀ (as : List Part), Dat.imms (as.map partD) = true
  | [] => rfl
  | p :: as => by
    show (Dat.imm (partD p) && Dat.imms (as.map partD)) = true
    rw [parts_imm as]; rfl
def inP (x y : Int) : Prop := 0 ≤ x ∧ x ≤ 1000 ∧ 0 ≤ y ∧ y ≤ 1000
section
variable {P : Program} {w : World} {K : PySem.W.Frag} {mg : Str → Option Value} {base : Heap}
def spFeed (K : PySem.W.Frag) : Sp := fun vs H Q _ => ∃ (b ks ps : Addr) (pl : Bool) (n : Int) (kinds : List Str) (parts : List Part), vs = [.ref b, .ref ks, .ref ps, .bl pl] ∧ BoxAt H b n ∧ n < 900000 ∧ ks ≠ b ∧ Row H ks kinds ∧ 1 ≤ kinds.length ∧ kinds.length ≤ 12 ∧ Rep K H (.tup (parts.map partD)) (.ref ps) ∧ parts.length ≤ 100 ∧
  ∀ (p : Addr) (fs : List Feed) (es : List Str) H', SameB b H H' → BoxAt H' b (n + 400) → Rep K H' (.tup (fs.map feedD)) (.ref p) → (fs.map (·.k)).Perm (kinds ++ es) → (∀ e ∈ es, e ∈ kinds) → fs.length ≤ 40 → (∀ f ∈ fs, Nm f.k ∧ inP f.x f.y ∧ 0 ≤ f.m ∧ f.m ≤ 400) → Q (.ref p) H'
theorem scFeed : FnScope ["_law_box_here", "_law_kinds_here", "_law_parts", "_law_plenty", "_law_great", "_law_more", "_law_some", "_law_found", "_law_kind", "_law_need", "_law_many"] ["_law_box_here", "_law_kinds_here", "_law_parts", "_law_plenty"] (defScope (topL 19)) := ⟨rfl, rfl, rfl, by decide +kernel, rfl, by decide +kernel, by decide +kernel⟩
theorem str_at {ns : List Str} {i : Int} (h : 0 ≤ i) (h' : i < ns.length) : ∃ x, atI (ns.map V.str) i = some (.str x) ∧ x ∈ ns := by
  obtain ⟨v, e1, e2⟩ := atI_in (xs := ns.map V.str) h (by rw [List.length_map]; exact h')
  rw [List.getElem?_map] at e2
  obtain ⟨x, hx, rfl⟩ := Option.map_eq_some_iff.mp e2
  exact ⟨x, e1, List.mem_of_getElem? hx⟩
theorem pickM {a c r : Int} (h : 0 ≤ r) (h' : r < 3) (a0 : 0 ≤ a) (a1 : a ≤ 400) (c0 : 0 ≤ c) (c1 : c ≤ 400) : ∃ z : Int, atI [V.int a, V.int c, V.int 400] r = some (.int z) ∧ 0 ≤ z ∧ z ≤ 400 := by
  have hc : r = 0 ∨ r = 1 ∨ r = 2 := by omega
  rcases hc with rfl | rfl | rfl
  · exact ⟨a, rfl, a0, a1⟩
  · exact ⟨c, rfl, c0, c1⟩
  · exact ⟨400, rfl, by omega, by omega⟩
theorem ok_feed {f : Addr} {fd : FuncData} (F : Fun K "_law_feeders" "_law_feeders" (topL 19) f fd) (B : Blt mg) (D_take : Dfn P w K mg base "_law_take" 1 ["_law_box_here", "_law_size"] spTake) (D_shuffled : Dfn P w K mg base "_law_shuffled" 2 ["_law_box_here", "_law_some"] (spShuf K)) (D_place : Dfn P w K mg base "_law_place" 2 ["_law_box_here", "_law_taken"] (spPlace K)) : FnOk P w K mg base CX0 3 f fd ["_law_box_here", "_law_kinds_here", "_law_parts", "_law_plenty"] (spFeed K) := by
  have nd := scFeed.nd
  refine F.ok scFeed (fun vs H Q E h => ?_) (fun cdv A outer s H vs Q E hr h => ?_)
  · obtain ⟨b, ks, ps, pl, n, kinds, parts, rfl, _⟩ := h
    rfl
  · obtain ⟨b, ks, ps, pl, n, kinds, parts, rfl, B0, hn, nk, Rk, k0, k1, hp, lp, k⟩ := h
    have hbig : 100000 < sizeLine := by rw [sizeLine_eq]; decide
    have e62 : (2 : Int) ^ 62 = 4611686018427387904 := by decide
    have ek : (kinds.map V.str).length = kinds.length := List.length_map ..
    refine ⟨_, (pss_cons (ps_set (i := 4) nd rfl (Or.inl rfl) (pe_cmpR op_eq (pe_callD D_take (hr.mono (by first | decide | exact Nat.le_refl _ | omega)) rfl (pa_cons (pv 0) (pa_cons pe_int pa_nil))) pe_int (nomark _)))
      (pss_cons (ps_weak (ps_set (i := 5) nd rfl (Or.inl rfl) (pe_callD D_take (hr.mono (by first | decide | exact Nat.le_refl _ | omega)) rfl (pa_cons (pv 0) (pa_cons (pe_ifExp (pt_val (pv 4)) (pe_op op_sub pe_int (pe_callB call_len_seq rfl B.len boot_len (pa_cons (pv 1) pa_nil))) pe_int) pa_nil)))))
      (pss_cons (ps_set (i := 6) nd rfl (Or.inl rfl) (pe_op op_cat (pv 1) (pe_lc1 ["_law_kinds_here", "_law_box_here"] [1, 0] rfl rfl (by kernel_rfl) (pi_range1 rfl B.range (pa_cons (pv 5) pa_nil)) (fun C0 s0 H0 ex0 => pf_nil) (fun C0 s0 H0 ex0 => (pe_ix (ix_listB (K := K) rfl) (pv 1) (pe_callD D_take (hr.mono (by first | decide | exact Nat.le_refl _ | omega)) rfl (pa_cons (pv 2) (pa_cons (pe_callB (call_len_seqB (K := K) rfl) rfl B.len boot_len (pa_cons (pv 1) pa_nil)) pa_nil))) (fun _ _ => rfl))))))
      (pss_cons (ps_set (i := 7) nd rfl (Or.inl rfl) (pe_lst pa_nil))
      (pss_cons (ps_for PassesOwn.never rfl (pi_list (pe_callD D_shuffled (hr.mono (by first | decide | exact Nat.le_refl _ | omega)) rfl (pa_cons (pv 0) (pa_cons (pv 6) pa_nil)))) (pg_name (i := 8) nd rfl (Or.inr rfl))
      (pss_cons (ps_set (i := 9) nd rfl (Or.inl rfl) (pe_callB call_len_seq rfl B.len boot_len (pa_cons (pe_lc1 ["_law_kind"] [8] rfl rfl (by kernel_rfl) (pi_tup (pv 2)) (fun C0 s0 H0 ex0 => (pf_one (pt_cmpR op_eq (pe_ix (ix_tupB (K := K) rfl) (pv 0) pe_int (fun _ _ => rfl)) (pv 1) (nomark _)))) (fun C0 s0 H0 ex0 => (pv 0))) pa_nil)))
        (pss_cons (ps_weak (ps_set (i := 10) nd rfl (Or.inl rfl) (pe_ifExp (pt_val (pv 3)) (pe_ix ix_list (pe_lst (pa_cons (pv 9) (pa_cons (pe_op op_add (pv 9) (pe_callD D_take (hr.mono (by first | decide | exact Nat.le_refl _ | omega)) rfl (pa_cons (pv 0) (pa_cons pe_int pa_nil)))) (pa_cons pe_int pa_nil)))) (pe_callD D_take (hr.mono (by first | decide | exact Nat.le_refl _ | omega)) rfl (pa_cons (pv 0) (pa_cons pe_int pa_nil))) (fun _ _ => rfl)) (pe_callD D_take (hr.mono (by first | decide | exact Nat.le_refl _ | omega)) rfl (pa_cons (pv 0) (pa_cons pe_int pa_nil))))))
        (pss_one (ps_expr (pe_bm PySem.F.plainAttrs_list PySem.F.slot_list_append PySem.F.type_list_append mt_append (pv 7) (pa_cons (pe_tup (pa_cons (pv 8) (pa_cons (pe_callD D_place (hr.mono (by first | decide | exact Nat.le_refl _ | omega)) rfl (pa_cons (pv 0) (pa_cons (pe_lst pa_nil) pa_nil))) (pa_cons (pv 10) pa_nil)))) pa_nil)))))))
      (pss_one (ps_ret (pe_callTy call_tuple_of rfl B.tuple boot_tuple (pa_cons (pv 7) pa_nil))))))))), ?_⟩
    refine ⟨_, rfl, b, 8, n, rfl, B0, by omega, by decide, by decide, fun r H1 r0 r1 B1 S1 => ⟨rfl, ?_⟩⟩
    have Rk1 := Rk.draw S1 nk
    -- more
    refine ⟨fun σ' H' => ∃ more : Int, σ' = [some (.ref b), some (.ref ks), some (.ref ps), some (.bl pl), some (.bl (decide (V.int r = V.int 0))), some (.int more), none, none, none, none, none] ∧ 0 ≤ more ∧ more ≤ 20 ∧ SameB b H H' ∧ BoxAt H' b (n + 2), ?_, ?_⟩
    · refine ⟨_, rfl, _, rfl, _, rfl, ite2 (fun c => ?_) (fun c => ?_)⟩
      · exact ⟨_, rfl, ks, _, rfl, .inl (SqL.of Rk1.1), _, _, rfl, rfl, b, _, _, rfl, B1, by omega, by omega, by omega, fun more H2 a0 a1 B2 S2 => ⟨_, rfl, a0, by omega, S1.trans S2, B2.mono (by omega)⟩⟩
      · exact ⟨b, 4, _, rfl, B1, by omega, by decide, by decide, fun more H2 a0 a1 B2 S2 => ⟨_, rfl, a0, by omega, S1.trans S2, B2.mono (by omega)⟩⟩
    rintro σ' H2 ⟨more, rfl, mo0, mo1, S2, B2⟩
    clear S1 B1 Rk1
    have Rk2 := Rk.draw S2 nk
    -- some
    refine ⟨_, rfl, _, rfl, _, rfl, (by rw [e62]; omega), (by rw [e62]; omega), lc_range (fun j zs H3 => ∃ es : List Str, zs = es.map V.str ∧ es.length = j ∧ (∀ x ∈ es, x ∈ kinds) ∧ SameB b H2 H3 ∧ BoxAt H3 b (n + 2 + j)) ⟨[], rfl, rfl, (fun x h => nomatch h), SameB.refl _ _, B2.mono (by omega)⟩ ?_ ?_⟩
    · rintro j zs H3 hj ⟨es, rfl, el, ee, S3, B3⟩
      refine ⟨rfl, ⟨_, rfl, _, rfl, _, rfl, ks, _, rfl, .inl (SqL.of (Rk2.draw S3 nk).1), b, _, _, rfl, B3, by omega, by omega, by omega, fun q H4 q0 q1 B4 S4 => ?_⟩⟩
      obtain ⟨y, ey, my⟩ := str_at (ns := kinds) q0 (by omega)
      refine ⟨ks, _, _, _, rfl, rfl, SqL.of (Rk2.draw (S3.trans S4) nk).1, ey, by rw [List.length_map, el]; omega, es ++ [y], by rw [List.map_append]; rfl, by rw [List.length_append, el]; rfl, fun x hx => ?_, S3.trans S4, B4.mono (by omega)⟩
      rcases List.mem_append.mp hx with pq | pq
      · exact ee x pq
      · rw [List.mem_singleton.mp pq]; exact my
    rintro zs H3 ⟨es, rfl, el, ee, S3, B3⟩
    refine ⟨by rw [List.length_map, el]; omega, fun D hD => ?_⟩
    have S3' := (S2.trans S3).new (o := .lst (es.map V.str)) hD
    have Rk3 := (Rk2.draw S3 nk).same (same_upd (o := .lst (es.map V.str)) hD)
    refine ⟨ks, D, _, _, rfl, rfl, Rk3.1, upd_same, by rw [ek, List.length_map, el]; omega, fun sm hs => ?_⟩
    have B4 := (B3.new (o := .lst (es.map V.str)) hD).new (o := .lst (kinds.map V.str ++ es.map V.str)) hs
    have S4 := S3'.new (o := .lst (kinds.map V.str ++ es.map V.str)) hs
    have ns := (B3.new (o := .lst (es.map V.str)) hD).nne hs
    have M4 : upd (upd H3 D (.lst (es.map V.str))) sm (.lst (kinds.map V.str ++ es.map V.str)) sm = some (.lst ((kinds ++ es).map V.str)) := by rw [upd_same, List.map_append]
    generalize upd (upd H3 D (.lst (es.map V.str))) sm (.lst (kinds.map V.str ++ es.map V.str)) = H4 at B4 S4 M4
    clear S2 S3 S3' Rk2 Rk3 B2 B3 hD hs
    -- found
    refine ⟨le0, fun R hR => ?_⟩
    have nR := B4.nne hR
    have RH : H R = none := S4.none hR nR
    have lenk : ((kinds ++ es).map V.str).length ≤ 32 := by rw [List.length_map, List.length_append, el]; omega
    refine ⟨_, rfl, _, rfl, b, sm, _, _, rfl, B4.new hR, by omega, ns, (same_upd hR) _ _ M4, by omega, fun l ys H5 S5 B5 nl lN hl pm => ?_⟩
    obtain ⟨sh, shp, rfl⟩ := perm_map_inv pm rfl
    have S5' := (S4.new (o := .lst []) hR).trans S5
    have R5 : H5 R = some (.lst []) := S5 _ _ upd_same nR
    have lR : l ≠ R := fun z => by rw [z, upd_same] at lN; cases lN
    have shl : sh.length ≤ 32 := by rw [shp.length_eq]; rw [List.length_map] at lenk; exact lenk
    have shn : ∀ x ∈ sh, Nm x := fun x hx => by
      rcases List.mem_append.mp (shp.mem_iff.mp hx) with q | q
      · exact Rk.2 x q
      · exact Rk.2 x (ee x q)
    clear pm M4 S4 S5 B4 hR
    refine ⟨l, rfl, ⟨_, SqL.of hl⟩, for_list (K := K) (a := l) (xs := sh.map V.str) (fun i σ H6 => ∃ (fs : List Feed) (xs : List V) (v6 v8 v9 v10 : Option V), σ = [some (.ref b), some (.ref ks), some (.ref ps), some (.bl pl), some (.bl (decide (V.int r = V.int 0))), some (.int more), v6, some (.ref R), v8, v9, v10] ∧ SameB b H H6 ∧ BoxAt H6 b (n + 60 + 6 * i) ∧ H6 l = some (.lst (sh.map V.str)) ∧ H6 R = some (.lst xs) ∧ Reps K H6 (fs.map feedD) xs ∧ fs.map (·.k) = sh.take i ∧ ∀ f ∈ fs, Nm f.k ∧ inP f.x f.y ∧ 0 ≤ f.m ∧ f.m ≤ 400)
      ⟨[], [], _, _, _, _, rfl, S5', B5.mono (by omega), hl, R5, rfl, rfl, (fun f h => nomatch h)⟩ (fun i σ H6 _ ⟨_, _, _, _, _, _, _, _, _, h, _⟩ => SqL.of h) ?_ ?_⟩
    · rintro i x σ H6 hx ⟨fs, xs, v6, v8, v9, v10, rfl, S6, B6, L6, R6, rp, fk, fa⟩
      rw [List.getElem?_map] at hx
      obtain ⟨kd, hkd, rfl⟩ := Option.map_eq_some_iff.mp hx
      have hi := (List.getElem?_eq_some_iff.mp hkd).1
      have fl : fs.length = i := by
        have := congrArg List.length fk
        rw [List.length_map, List.length_take] at this
        omega
      have xl : xs.length = i := by rw [rp.len, List.length_map, fl]
      have hp6 := Rep.keep (d := .tup (parts.map partD)) (SameT.draw B0 S6) (parts_imm parts) hp
      obtain ⟨_, pxs, ep, hq, hps⟩ := hp6
      cases ep
      have pl' : pxs.length = parts.length := by rw [hps.len, List.length_map]
      -- need
      refine ⟨_, rfl, ps, rfl, ⟨_, hq⟩, lc_tup (K := K) (a := ps) (xs := pxs) (fun j zs H7 => zs.length ≤ j ∧ Same H6 H7) ⟨Nat.le_refl _, Same.refl _⟩ (fun j zs H7 ⟨_, s7⟩ => s7.sqT hq) ?_ ?_⟩
      · rintro j v zs H7 hv ⟨zl, s7⟩
        have hj := (List.getElem?_eq_some_iff.mp hv).1
        obtain ⟨d, hd, rd⟩ := hps.get hv
        rw [List.getElem?_map] at hd
        obtain ⟨pt, _, rfl⟩ := Option.map_eq_some_iff.mp hd
        obtain ⟨c, cxs, rfl, hc, u1, r1', e1, e2, e3⟩ := rd
        subst e1
        cases (show u1 = .str pt.k from e2)
        refine ⟨rfl, ⟨_, rfl, c, _, _, .str pt.k, rfl, rfl, s7.sqT hc, atI_nat (j := 0) rfl, _, rfl, rfl, _, rfl, ite2 (fun dd => ⟨_, rfl, by omega, by rw [List.length_append]; simp; omega, s7⟩) (fun dd => ⟨by omega, s7⟩)⟩⟩
      rintro zs H7 ⟨zl, s7⟩
      refine ⟨by omega, fun D2 hD2 => ⟨D2, zs, rfl, .inl (SqL.of upd_same), ?_⟩⟩
      have s8 := s7.trans (same_upd (o := .lst zs) hD2)
      have B8 := B6.same s8
      generalize upd H7 D2 (.lst zs) = H8 at s8 B8
      -- many
      refine ⟨fun σ' H' => ∃ many : Int, σ' = [some (.ref b), some (.ref ks), some (.ref ps), some (.bl pl), some (.bl (decide (V.int r = V.int 0))), some (.int more), v6, some (.ref R), some (.str kd), some (.int (zs.length : Int)), some (.int many)] ∧ 0 ≤ many ∧ many ≤ 400 ∧ SameB b H8 H' ∧ BoxAt H' b (n + 60 + 6 * i + 2), ?_, ?_⟩
      · refine ⟨_, rfl, _, rfl, ite2 (fun c => ?_) (fun c => ?_)⟩
        · refine ⟨_, rfl, _, rfl, _, rfl, b, 9, _, rfl, B8, by omega, by decide, by decide, fun q9 H9 a0 a1 B9 S9 => ⟨_, _, rfl, rfl, le3, fun l3 h3 => ⟨_, rfl, b, 3, _, rfl, B9.new h3, by omega, by decide, by decide, fun q3 H10 c0 c1 B10 S10 => ?_⟩⟩⟩
          have L10 := S10 l3 _ upd_same (B9.nne h3)
          obtain ⟨z, ez, z0, z1⟩ := pickM (a := (zs.length : Int)) (c := (zs.length : Int) + q9) c0 c1 (by omega) (by omega) (by omega) (by omega)
          exact ⟨l3, _, _, _, rfl, rfl, SqL.of L10, ez, z, rfl, z0, z1, (S9.new h3).trans S10, B10.mono (by omega)⟩
        · exact ⟨_, rfl, b, 4, _, rfl, B8, by omega, by decide, by decide, fun q9 H9 a0 a1 B9 S9 => ⟨q9, rfl, a0, by omega, S9, B9.mono (by omega)⟩⟩
      rintro σ' H9 ⟨many, rfl, y0, y1, S9, B9⟩
      have S9' := (SameB.of (b := b) s8).trans S9
      have R9 := S9' _ _ R6 nR
      refine ⟨_, rfl, .inl ⟨rfl, _, SqL.of R9⟩, _, rfl, _, rfl, le0, fun e he => ⟨b, e, _, [], rfl, B9.new he, by omega, B9.nne he, upd_same, Nat.zero_le _, (fun a h => nomatch h), fun pp H10 S10 B10 ppN pa => ⟨_, rfl, le3, fun T hT => ?_⟩⟩⟩
      obtain ⟨px, py, hpp, b1, b2, b3, b4⟩ := pa
      have R10 := S10 _ _ ((same_upd he) _ _ R9) nR
      have R11 := (same_upd (o := .tup [.str kd, .ref pp, .int many]) hT) _ _ R10
      refine ⟨R, xs, .ref T, rfl, rfl, R11, by omega, ?_⟩
      have S11 := (S9'.new he).trans (S10.new (o := .tup [.str kd, .ref pp, .int many]) hT)
      have st : SameT H6 (upd (upd H10 T (.tup [.str kd, .ref pp, .int many])) R (.lst (xs ++ [.ref T]))) := (SameT.draw B6 S11).trans (.put R11)
      have TR : T ≠ R := fun z => by rw [z, R10] at hT; cases hT
      have ppR : pp ≠ R := fun z => by rw [z, R10] at hpp; cases hpp
      have ppT : pp ≠ T := fun z => by rw [z, hT] at hpp; cases hpp
      refine ⟨fs ++ [⟨kd, px, py, many⟩], _, _, _, _, _, rfl, (S6.trans S11).put RH, ((B10.new hT).other nR).mono (by omega), by rw [upd_ne lR]; exact S11 _ _ L6 nl, upd_same, ?_, ?_, fun g hgm => ?_⟩
      · rw [List.map_append]
        refine Reps.snoc ?_ (Reps.keep st (feeds_imm fs) rp)
        refine ⟨T, _, rfl, SqT.of (by rw [upd_ne TR]; exact upd_same), _, _, rfl, rfl, _, _, rfl, ⟨pp, _, rfl, SqT.of (by rw [upd_ne ppR, upd_ne ppT]; exact hpp), _, _, rfl, rfl, _, _, rfl, rfl, rfl⟩, _, _, rfl, rfl, rfl⟩
      · rw [List.map_append, fk]
        obtain ⟨h1, h2⟩ := List.getElem?_eq_some_iff.mp hkd
        rw [← List.take_append_getElem h1, h2]
        rfl
      · rcases List.mem_append.mp hgm with q | q
        · exact fa g q
        · rw [List.mem_singleton.mp q]
          exact ⟨shn kd (List.mem_of_getElem? hkd), ⟨b1, b2, b3, b4⟩, y0, y1⟩
    · rintro σ H6 ⟨fs, xs, v6, v8, v9, v10, rfl, S6, B6, L6, R6, rp, fk, fa⟩
      rw [List.length_map, List.take_length] at fk
      have fl : fs.length ≤ 32 := by
        have := congrArg List.length fk
        rw [List.length_map] at this
        omega
      refine ⟨_, rfl, R, xs, rfl, .inl ⟨SqL.of R6, fun p hp' => ?_⟩⟩
      refine k p fs es _ (S6.new hp') ((B6.new hp').mono (by rw [List.length_map] at *; omega)) ⟨p, _, rfl, SqT.of upd_same, Reps.keep (SameT.of (same_upd hp')) (feeds_imm fs) rp⟩ (by rw [fk]; exact shp) ee (by omega) fa
end
end L2

set_option Elab.async false
set_option linter.all false
set_option maxRecDepth 100000
set_option maxHeartbeats 4000000
namespace L2
open PySem PySem.Spec PyProof.Rows
structure Job where
  gx : Int
  gy : Int
  hd : Int
  fs : List Feed
  ps : List Part
  as : List (Nat × Nat)
def jobD (J : Job) : Dat := .tup [.tup [.int J.gx, .int J.gy], .int J.hd, .tup (J.fs.map feedD), .tup (J.ps.map partD), aheadsD J.as]
theorem jobD_imm (J : Job) : (jobD J).imm = true := by
  show (true && (true && (Dat.imms (J.fs.map feedD) && (Dat.imms (J.ps.map partD) && (Dat.imms (J.as.map pairD) && true))))) = true
  rw [feeds_imm, parts_imm, pairs_imm]; rfl
structure JobOk (J : Job) (ord : List Nat) : Prop where
  gate : inP J.gx J.gy
  hd0 : 1 ≤ J.hd
  hd1 : J.hd ≤ 4
  fl : J.fs.length ≤ 40
  fa : ∀ f ∈ J.fs, Nm f.k ∧ inP f.x f.y ∧ 0 ≤ f.m ∧ f.m ≤ 400
  pl : J.ps.length ≤ 60
  pa : ∀ p ∈ J.ps, Nm p.k ∧ inP p.x p.y ∧ ∃ f ∈ J.fs, f.k = p.k
  op : ord.Perm (List.range J.ps.length)
  bo : ByOrd ord J.as
  al : J.as.length ≤ 300
  f0 : 1 ≤ J.fs.length
theorem pick312 {r : Int} (h0 : 0 ≤ r) (h1 : r < 4) : ∃ z : Int, atI [V.int 3, V.int 3, V.int 3, V.int 12] r = some (.int z) ∧ 3 ≤ z ∧ z ≤ 12 := by
  have hc : r = 0 ∨ r = 1 ∨ r = 2 ∨ r = 3 := by omega
  rcases hc with rfl | rfl | rfl | rfl
  · exact ⟨3, rfl, by decide, by decide⟩
  · exact ⟨3, rfl, by decide, by decide⟩
  · exact ⟨3, rfl, by decide, by decide⟩
  · exact ⟨12, rfl, by decide, by decide⟩
section
variable {P : Program} {w : World} {K : PySem.W.Frag} {mg : Str → Option Value} {base : Heap}
def spJob (K : PySem.W.Frag) : Sp := fun vs H Q _ => ∃ (b : Addr) (few most n : Int) (pl : Bool), vs = [.ref b, .int few, .int most, .bl pl] ∧ BoxAt H b n ∧ n < 500000 ∧ 0 ≤ few ∧ few ≤ 60 ∧ 0 ≤ most ∧ most ≤ 60 ∧
  ∀ (p : Addr) (J : Job) (ord : List Nat) H', SameB b H H' → BoxAt H' b (n + 3000) → Rep K H' (jobD J) (.ref p) → JobOk J ord → Q (.ref p) H'
theorem scJob : FnScope ["_law_box_here", "_law_few", "_law_most", "_law_plenty", "_law_many", "_law_kinds_here", "_law_parts", "_law_feeders_here"] ["_law_box_here", "_law_few", "_law_most", "_law_plenty"] (defScope (topL 21)) := ⟨rfl, rfl, rfl, by decide +kernel, rfl, by decide +kernel, by decide +kernel⟩
theorem ok_job {f : Addr} {fd : FuncData} (F : Fun K "_law_job" "_law_job" (topL 21) f fd) (B : Blt mg) (D_take : Dfn P w K mg base "_law_take" 1 ["_law_box_here", "_law_size"] spTake) (D_names : Dfn P w K mg base "_law_names" 3 ["_law_box_here", "_law_many"] spNames) (D_place : Dfn P w K mg base "_law_place" 2 ["_law_box_here", "_law_taken"] (spPlace K)) (D_places : Dfn P w K mg base "_law_places" 3 ["_law_box_here", "_law_many"] spPlaces)
    (D_feeders : Dfn P w K mg base "_law_feeders" 3 ["_law_box_here", "_law_kinds_here", "_law_parts", "_law_plenty"] (spFeed K)) (D_aheads : Dfn P w K mg base "_law_aheads" 3 ["_law_box_here", "_law_many"] (spAheads K)) : FnOk P w K mg base CX0 4 f fd ["_law_box_here", "_law_few", "_law_most", "_law_plenty"] (spJob K) := by
  have nd := scJob.nd
  refine F.ok scJob (fun vs H Q E h => ?_) (fun cdv A outer s H vs Q E hr h => ?_)
  · obtain ⟨b, few, most, n, pl, rfl, _⟩ := h
    rfl
  · obtain ⟨b, few, most, n, pl, rfl, B0, hn, f0, f1, mo0, mo1, k⟩ := h
    have hbig : 100000 < sizeLine := by rw [sizeLine_eq]; decide
    refine ⟨_, (pss_cons (ps_weak (ps_set (i := 4) nd rfl (Or.inl rfl) (pe_callD D_take (hr.mono (by first | decide | exact Nat.le_refl _ | omega)) rfl (pa_cons (pv 0) (pa_cons (pe_op op_add (pe_ifExp (pt_cmpR op_gt (pe_callD D_take (hr.mono (by first | decide | exact Nat.le_refl _ | omega)) rfl (pa_cons (pv 0) (pa_cons pe_int pa_nil))) pe_int (nomark _)) (pv 1) (pv 2)) pe_int) pa_nil)))))
      (pss_cons (ps_set (i := 5) nd rfl (Or.inr rfl) (pe_callD D_names (hr.mono (by first | decide | exact Nat.le_refl _ | omega)) rfl (pa_cons (pv 0) (pa_cons (pe_op op_add pe_int (pe_callD D_take (hr.mono (by first | decide | exact Nat.le_refl _ | omega)) rfl (pa_cons (pv 0) (pa_cons (pe_ix ix_list (pe_lst (pa_cons pe_int (pa_cons pe_int (pa_cons pe_int (pa_cons pe_int pa_nil))))) (pe_callD D_take (hr.mono (by first | decide | exact Nat.le_refl _ | omega)) rfl (pa_cons (pv 0) (pa_cons pe_int pa_nil))) (fun _ _ => rfl)) pa_nil)))) pa_nil))))
      (pss_cons (ps_set (i := 6) nd rfl (Or.inl rfl) (pe_callTy call_tuple_of rfl B.tuple boot_tuple (pa_cons (pe_lc1 ["_law_kinds_here", "_law_box_here"] [5, 0] rfl rfl (by kernel_rfl) (pi_list (pe_callD D_places (hr.mono (by first | decide | exact Nat.le_refl _ | omega)) rfl (pa_cons (pv 0) (pa_cons (pv 4) pa_nil)))) (fun C0 s0 H0 ex0 => pf_nil) (fun C0 s0 H0 ex0 => (pe_tup (pa_cons (pe_ix (ix_listB (K := K) rfl) (pv 1) (pe_callD D_take (hr.mono (by first | decide | exact Nat.le_refl _ | omega)) rfl (pa_cons (pv 2) (pa_cons (pe_callB (call_len_seqB (K := K) rfl) rfl B.len boot_len (pa_cons (pv 1) pa_nil)) pa_nil))) (fun _ _ => rfl)) (pa_cons (pv 0) pa_nil))))) pa_nil)))
      (pss_cons (ps_set (i := 7) nd rfl (Or.inl rfl) (pe_callD D_feeders (hr.mono (by first | decide | exact Nat.le_refl _ | omega)) rfl (pa_cons (pv 0) (pa_cons (pv 5) (pa_cons (pv 6) (pa_cons (pv 3) pa_nil))))))
      (pss_one (ps_ret (pe_tup (pa5 (pe_callD D_place (hr.mono (by first | decide | exact Nat.le_refl _ | omega)) rfl (pa_cons (pv 0) (pa_cons (pe_lst pa_nil) pa_nil))) (pe_op op_add pe_int (pe_callD D_take (hr.mono (by first | decide | exact Nat.le_refl _ | omega)) rfl (pa_cons (pv 0) (pa_cons pe_int pa_nil)))) (pv 7) (pv 6) (pe_callD D_aheads (hr.mono (by first | decide | exact Nat.le_refl _ | omega)) rfl (pa_cons (pv 0) (pa_cons (pv 4) pa_nil))))))))))), ?_⟩
    refine ⟨fun σ' H' => ∃ m : Int, σ' = [some (.ref b), some (.int few), some (.int most), some (.bl pl), some (.int m), none, none, none] ∧ 0 ≤ m ∧ m ≤ 60 ∧ SameB b H H' ∧ BoxAt H' b (n + 2), ?_, ?_⟩
    · refine ⟨_, rfl, _, rfl, b, 8, n, rfl, B0, by omega, by decide, by decide, fun r H1 r0 r1 B1 S1 => ⟨_, _, rfl, rfl, _, rfl, ite2 (fun c => ⟨_, rfl, _, _, rfl, rfl, ?_⟩) (fun c => ⟨_, rfl, _, _, rfl, rfl, ?_⟩)⟩⟩
      · exact ⟨b, _, _, rfl, B1, by omega, by omega, by omega, fun m H2 a0 a1 B2 S2 => ⟨m, rfl, a0, by omega, S1.trans S2, B2.mono (by omega)⟩⟩
      · exact ⟨b, _, _, rfl, B1, by omega, by omega, by omega, fun m H2 a0 a1 B2 S2 => ⟨m, rfl, a0, by omega, S1.trans S2, B2.mono (by omega)⟩⟩
    rintro σ' H2 ⟨m, rfl, m0, m1, S2, B2⟩
    -- kinds
    refine ⟨_, rfl, _, rfl, le4, fun l1 h1 => ⟨_, rfl, b, 4, _, rfl, B2.new h1, by omega, by decide, by decide, fun r H3 r0 r1 B3 S3 => ?_⟩⟩
    have L3 := S3 l1 _ upd_same (B2.nne h1)
    obtain ⟨z, ez, z0, z1⟩ := pick312 r0 r1
    refine ⟨l1, _, _, _, rfl, rfl, SqL.of L3, ez, b, z, _, rfl, B3, by omega, by omega, by omega, fun q H4 q0 q1 B4 S4 => ⟨_, _, rfl, rfl, b, 1 + q, _, rfl, B4, by omega, by omega, by omega, fun ks kinds H5 S5 B5 nk kN Rk kl => ?_⟩⟩
    have S5' := (((S2.new h1).trans S3).trans S4).trans S5
    have ek : (kinds.map V.str).length = kinds.length := List.length_map ..
    clear S2 S3 S4 S5 B2 B3 B4 L3 h1
    -- parts
    refine ⟨_, rfl, _, rfl, b, m, _, rfl, B5, by omega, m0, by omega, fun l as H6 S6 B6 nl lN hl pa al => ?_⟩
    have Rk6 := Rk.draw S6 nk
    refine ⟨l, rfl, ⟨_, SqL.of hl⟩, lc_list (K := K) (a := l) (xs := as.map V.ref) (fun j zs H7 => ∃ qs : List Part, Reps K H7 (qs.map partD) zs ∧ qs.length = j ∧ (∀ q ∈ qs, q.k ∈ kinds ∧ inP q.x q.y) ∧ SameB b H6 H7 ∧ BoxAt H7 b (n + 700 + j)) ⟨[], rfl, rfl, (fun x h => nomatch h), SameB.refl _ _, B6.mono (by omega)⟩ (fun j zs H7 ⟨_, _, _, _, s7, _⟩ => SqL.of (s7 _ _ hl nl)) ?_ ?_⟩
    · rintro j x zs H7 hx ⟨qs, rq, ql, qa, S7, B7⟩
      rw [List.getElem?_map] at hx
      obtain ⟨a, ha, rfl⟩ := Option.map_eq_some_iff.mp hx
      have hj := (List.getElem?_eq_some_iff.mp ha).1
      have zl : zs.length = j := by rw [rq.len, List.length_map, ql]
      refine ⟨rfl, ⟨_, rfl, _, rfl, _, rfl, ks, _, rfl, .inl (SqL.of (Rk6.draw S7 nk).1), b, _, _, rfl, B7, by omega, by omega, by omega, fun q H8 c0 c1 B8 S8 => ?_⟩⟩
      obtain ⟨y, ey, my⟩ := str_at (ns := kinds) c0 (by omega)
      obtain ⟨px, py, hpp, b1, b2, b3, b4⟩ := (pa a (List.mem_of_getElem? ha)).draw B6 (S7.trans S8)
      refine ⟨ks, _, _, _, rfl, rfl, SqL.of (Rk6.draw (S7.trans S8) nk).1, ey, _, rfl, le2, fun T hT => ⟨by omega, qs ++ [⟨y, px, py⟩], ?_, by rw [List.length_append, ql]; rfl, fun q hq => ?_, (S7.trans S8).new hT, (B8.new hT).mono (by omega)⟩⟩
      · rw [List.map_append]
        have rT : Rep K (upd H8 T (.tup [.str y, .ref a])) (partD ⟨y, px, py⟩) (.ref T) := ⟨T, _, rfl, SqT.of upd_same, _, _, rfl, rfl, _, _, rfl, ⟨a, _, rfl, SqT.of ((same_upd hT) _ _ hpp), _, _, rfl, rfl, _, _, rfl, rfl, rfl⟩, rfl⟩
        exact Reps.snoc rT (Reps.keep ((SameT.draw B7 S8).trans (.of (same_upd hT))) (parts_imm qs) rq)
      · rcases List.mem_append.mp hq with w1 | w1
        · exact qa q w1
        · rw [List.mem_singleton.mp w1]; exact ⟨my, b1, b2, b3, b4⟩
    rintro zs H7 ⟨qs, rq, ql, qa, S7, B7⟩
    rw [List.length_map] at ql
    have B7 : BoxAt H7 b (n + 800) := B7.mono (by rw [List.length_map]; omega)
    have zl : zs.length = as.length := by rw [rq.len, List.length_map, ql]
    refine ⟨by omega, fun D hD => ⟨D, zs, rfl, .inl ⟨SqL.of upd_same, fun ps hps => ?_⟩⟩⟩
    have sm := (same_upd (o := .lst zs) hD).trans (same_upd (o := .tup zs) hps)
    have S8 := (S5'.trans S6).trans (S7.trans (SameB.of (b := b) sm))
    have B8 := B7.same sm
    have Rk8 := (Rk6.draw S7 nk).same sm
    have P8 : Rep K (upd (upd H7 D (.lst zs)) ps (.tup zs)) (.tup (qs.map partD)) (.ref ps) := ⟨ps, _, rfl, SqT.of upd_same, Reps.keep (.of sm) (parts_imm qs) rq⟩
    generalize upd (upd H7 D (.lst zs)) ps (.tup zs) = H8 at sm S8 B8 Rk8 P8
    clear S5' S6 S7 B5 B6 B7 Rk Rk6 rq hD hps pa hl
    -- feeders
    refine ⟨_, rfl, _, rfl, _, rfl, _, rfl, b, ks, ps, pl, _, kinds, qs, rfl, B8, by omega, nk, Rk8, by omega, by omega, P8, by omega, fun fp fs es H9 S9 B9 F9 fperm ee fl fa => ?_⟩
    have P9 := Rep.keep (d := .tup (qs.map partD)) (SameT.draw B8 S9) (parts_imm qs) P8
    -- the rest
    refine ⟨_, rfl, le0, fun t ht => ⟨b, t, _, [], rfl, B9.new ht, by omega, B9.nne ht, upd_same, Nat.zero_le _, (fun a h => nomatch h), fun gp H10 S10 B10 gN ga => ?_⟩⟩
    obtain ⟨gx, gy, hgp, g1, g2, g3, g4⟩ := ga
    refine ⟨_, rfl, b, 4, _, rfl, B10, by omega, by decide, by decide, fun hd H11 d0 d1 B11 S11 => ⟨_, _, rfl, rfl, _, rfl, _, rfl, _, rfl, _, rfl, b, m, _, rfl, B11, by omega, m0, by omega, fun ap aas ord H12 S12 B12 A12 op bo al2 => ⟨leN (by show 5 ≤ 1000; decide), fun p hp => ?_⟩⟩⟩
    have t9 : SameT H9 H12 := ((SameT.of (same_upd ht)).trans (.draw (B9.new ht) S10)).trans ((SameT.draw B10 S11).trans (.draw B11 S12))
    have t10 : SameT H10 H12 := (SameT.draw B10 S11).trans (.draw B11 S12)
    have up : Same H12 (upd H12 p (.tup [.ref gp, .int (1 + hd), .ref fp, .ref ps, .ref ap])) := same_upd hp
    have F12 := Rep.keep (d := .tup (fs.map feedD)) (t9.trans (.of up)) (feeds_imm fs) F9
    have P12 := Rep.keep (d := .tup (qs.map partD)) (t9.trans (.of up)) (parts_imm qs) P9
    have A13 := Rep.keep (d := aheadsD aas) (.of up) (pairs_imm aas) A12
    have G12 := (t10.trans (.of up)) gp _ hgp (fun xs h => nomatch h)
    have qlm : qs.length = m.toNat := by omega
    have fk : ∀ kd ∈ kinds, ∃ f ∈ fs, f.k = kd := fun kd hkd => by
      have := fperm.mem_iff.mpr (List.mem_append_left es hkd)
      obtain ⟨f, hf, e⟩ := List.mem_map.mp this
      exact ⟨f, hf, e⟩
    refine k p ⟨gx, gy, 1 + hd, fs, qs, aas⟩ ord _ (((S8.trans S9).trans ((SameB.of (same_upd ht)).trans S10)).trans ((S11.trans S12).new hp)) ((B12.new hp).mono (by omega)) ?_ ?_
    · exact ⟨p, _, rfl, SqT.of upd_same, _, _, rfl, ⟨gp, _, rfl, SqT.of G12, _, _, rfl, rfl, _, _, rfl, rfl, rfl⟩, _, _, rfl, rfl, _, _, rfl, F12, _, _, rfl, P12, _, _, rfl, A13, rfl⟩
    · refine ⟨⟨g1, g2, g3, g4⟩, by show 1 ≤ 1 + hd; omega, by show 1 + hd ≤ 4; omega, fl, fa, by show qs.length ≤ 60; omega, fun q hq => ?_, by show ord.Perm (List.range qs.length); rw [qlm]; exact op, bo, al2, ?_⟩
      · obtain ⟨hk, hi⟩ := qa q hq
        exact ⟨Rk8.2 q.k hk, hi, fk q.k hk⟩
      · have := fperm.length_eq
        rw [List.length_map, List.length_append] at this
        show 1 ≤ fs.length
        omega
end
end L2

set_option Elab.async false
set_option linter.all false
set_option maxRecDepth 100000
set_option maxHeartbeats 4000000
namespace L2
open PySem PySem.Spec PyProof.Rows
theorem tk_snoc {α : Type} {l : List α} {i : Nat} {x : α} (h : l[i]? = some x) : l.take (i + 1) = l.take i ++ [x] := by
  obtain ⟨h1, h2⟩ := List.getElem?_eq_some_iff.mp h
  rw [← h2, List.take_append_getElem]
theorem Same.none {H H1 : Hp} {t : Addr} (s : Same H H1) (h : H1 t = Option.none) : H t = Option.none := s.free h
/-! which feeders hold a kind -/
/-! how often each kind -/
def dkC (cs ms : List Str) : List (Key × V) := ms.map fun k => (Sum.inr k, V.int (cs.count k))
theorem dkC_len (cs ms : List Str) : (dkC cs ms).length = ms.length := List.length_map _
theorem dkC_val (cs : List Str) (k : Str) : ∀ ms : List Str, valV (dkC cs ms) (Sum.inr k) = if k ∈ ms then some (.int (cs.count k)) else none
  | [] => by rw [if_neg (by simp)]; rfl
  | m :: ms => by
    by_cases h : m = k
    · subst h
      rw [if_pos (by simp)]
      exact valV_pos rfl
    · have e : valV (dkC cs (m :: ms)) (Sum.inr k) = valV (dkC cs ms) (Sum.inr k) := valV_neg (fun z => h (Sum.inr.inj z))
      rw [e, dkC_val cs k ms]
      have : k ∈ m :: ms ↔ k ∈ ms := ⟨fun z => (List.mem_cons.mp z).resolve_left fun y => h y.symm, List.mem_cons_of_mem _⟩
      by_cases h2 : k ∈ ms
      · rw [if_pos h2, if_pos (this.mpr h2)]
      · rw [if_neg h2, if_neg fun z => h2 (this.mp z)]
theorem dkC_get {cs ms : List Str} {k : Str} (h : k ∈ cs → k ∈ ms) : (valV (dkC cs ms) (Sum.inr k)).getD (.int 0) = .int (cs.count k) := by
  rw [dkC_val]
  by_cases h2 : k ∈ ms
  · rw [if_pos h2]; rfl
  · rw [if_neg h2, List.count_eq_zero_of_not_mem fun z => h2 (h z)]; rfl
def addS (ms : List Str) (k : Str) : List Str := if k ∈ ms then ms else ms ++ [k]
theorem addS_mem {ms : List Str} {k j : Str} : j ∈ addS ms k ↔ j ∈ ms ∨ j = k := by
  unfold addS
  by_cases h : k ∈ ms
  · rw [if_pos h]
    exact ⟨.inl, fun z => z.elim id fun e => e ▸ h⟩
  · rw [if_neg h, List.mem_append, List.mem_singleton]
theorem addS_nd {ms : List Str} {k : Str} (h : ms.Nodup) : (addS ms k).Nodup := by
  unfold addS
  by_cases h2 : k ∈ ms
  · rw [if_pos h2]; exact h
  · rw [if_neg h2]
    refine List.nodup_append.mpr ⟨h, by simp, fun a ha b hb e => ?_⟩
    rw [List.mem_singleton.mp hb] at e
    exact h2 (e ▸ ha)
theorem addS_len (ms : List Str) (k : Str) : (addS ms k).length ≤ ms.length + 1 := by
  unfold addS
  split
  · omega
  · rw [List.length_append]; exact Nat.le_refl _
theorem dkC_put {cs ms : List Str} (k : Str) : putK (dkC cs ms) (Sum.inr k) (.int ((cs.count k : Int) + 1)) = dkC (cs ++ [k]) (addS ms k) := by
  unfold addS
  have c1 : ((cs ++ [k]).count k : Int) = (cs.count k : Int) + 1 := by rw [List.count_append]; simp
  have c2 : ∀ j, j ≠ k → (cs ++ [k]).count j = cs.count j := fun j hj => by rw [List.count_append, List.count_eq_zero_of_not_mem (l := [k]) (by simpa using hj)]; rfl
  by_cases h : k ∈ ms
  · rw [if_pos h]
    unfold putK
    rw [if_pos (by rw [valV_any, dkC_val, if_pos h]; rfl)]
    unfold dkC
    rw [List.map_map]
    refine List.map_congr_left fun j _ => ?_
    show (if (Sum.inr j : Key) = Sum.inr k then ((Sum.inr j : Key), V.int ((cs.count k : Int) + 1)) else (Sum.inr j, V.int (cs.count j))) = _
    by_cases e : j = k
    · subst e
      rw [if_pos rfl, c1]
    · rw [if_neg fun z => e (Sum.inr.inj z), c2 j e]
  · rw [if_neg h, putK_new _ (by rw [dkC_val, if_neg h])]
    unfold dkC
    rw [List.map_append]
    congr 1
    · refine List.map_congr_left fun j hj => ?_
      rw [c2 j fun e => h (e ▸ hj)]
    · show [((Sum.inr k : Key), V.int ((cs.count k : Int) + 1))] = [((Sum.inr k : Key), V.int ((cs ++ [k]).count k))]
      rw [c1]
def Wtd (H : Hp) (cs ms : List Str) (zs : List V) : Prop := zs.length = ms.length ∧ ∀ (j : Nat) (k : Str), ms[j]? = some k → ∃ T, zs[j]? = some (.ref T) ∧ H T = some (.tup [.str k, .int (cs.count k)])
theorem Wtd.same {H H' : Hp} {cs ms : List Str} {zs : List V} (h : Wtd H cs ms zs) (s : Same H H') : Wtd H' cs ms zs := ⟨h.1, fun j k e => let ⟨T, a, b⟩ := h.2 j k e; ⟨T, a, s _ _ b⟩⟩
def wtD (cs : List Str) (k : Str) : Dat := .tup [.str k, .int (cs.count k)]
theorem Wtd.reps {K : PySem.W.Frag} {H : Hp} {cs : List Str} : ∀ {ms : List Str} {zs : List V}, Wtd H cs ms zs → Reps K H (ms.map (wtD cs)) zs
  | [], zs, h => by
    have : zs = [] := List.length_eq_zero_iff.mp h.1
    rw [this]; exact rfl
  | m :: ms, zs, h => by
    cases zs with
    | nil => have := h.1; simp at this
    | cons z zs =>
      obtain ⟨T, e1, e2⟩ := h.2 0 m rfl
      cases e1
      exact ⟨_, _, rfl, ⟨T, _, rfl, SqT.of e2, _, _, rfl, rfl, _, _, rfl, rfl, rfl⟩, Wtd.reps ⟨by have := h.1; simpa using this, fun j k e => h.2 (j + 1) k e⟩⟩
def kindsOf (J : Job) : List Str := J.ps.map Part.k
section
variable {P : Program} {w : World} {K : PySem.W.Frag} {mg : Str → Option Value} {base : Heap}
theorem part_open {H : Hp} {p : Part} {x : V} (h : Rep K H (partD p) x) : ∃ a c, x = .ref a ∧ SqT K H a [.str p.k, .ref c] := by
  obtain ⟨a, xs, rfl, q, y0, r0, f0, g0, y1, r1, f1, g1, f2⟩ := h
  subst f0 f1
  cases (show r1 = [] from f2)
  cases (show y0 = _ from g0)
  obtain ⟨c, ys, rfl, q', s⟩ := g1
  exact ⟨a, c, rfl, q⟩
theorem job_open {H : Hp} {J : Job} {jp : Addr} (h : Rep K H (jobD J) (.ref jp)) : ∃ (g fs ps as : Addr) (fv pv : List V), SqT K H jp [.ref g, .int J.hd, .ref fs, .ref ps, .ref as] ∧ Rep K H (.tup [.int J.gx, .int J.gy]) (.ref g) ∧ SqT K H fs fv ∧ Reps K H (J.fs.map feedD) fv ∧ SqT K H ps pv ∧ Reps K H (J.ps.map partD) pv ∧ Rep K H (aheadsD J.as) (.ref as) := by
  obtain ⟨a, xs, e, q, x0, r0, e0, h0, x1, r1, e1, h1, x2, r2, e2, h2, x3, r3, e3, h3, x4, r4, e4, h4, e5⟩ := h
  cases e
  subst e0 e1 e2 e3 e4
  have e5' : r4 = [] := e5
  subst e5'
  have h1' : x1 = .int J.hd := h1
  subst h1'
  obtain ⟨g, gx, rfl, gq⟩ := h0
  obtain ⟨fs, fx, rfl, fq, fr⟩ := h2
  obtain ⟨ps, px, rfl, pq, pr⟩ := h3
  obtain ⟨as, ax, rfl, aq⟩ := h4
  exact ⟨g, fs, ps, as, fx, px, q, ⟨g, gx, rfl, gq⟩, fq, fr, pq, pr, ⟨as, ax, rfl, aq⟩⟩
end
end L2

set_option Elab.async false
set_option linter.all false
set_option maxRecDepth 100000
set_option maxHeartbeats 4000000
namespace L2
open PySem PySem.Spec PyProof.Rows
section
variable {P : Program} {w : World} {K : PySem.W.Frag} {mg : Str → Option Value} {base : Heap}
def spWant (K : PySem.W.Frag) : Sp := fun vs H Q _ => ∃ (jp : Addr) (J : Job), vs = [.ref jp] ∧ Rep K H (jobD J) (.ref jp) ∧ J.ps.length ≤ 60 ∧
  ∀ (l : Addr) (ms : List Str) (zs : List V) H', H l = none → Same H H' → H' l = some (.lst zs) → (ms.Pairwise fun a b => ltS a b = true) → (∀ j, j ∈ ms ↔ j ∈ kindsOf J) → ms.Nodup → ms.length ≤ 60 → Wtd H' (kindsOf J) ms zs → Q (.ref l) H'
theorem scWant : FnScope ["job", "counts", "part"] ["job"] (defScope (topL 4)) := ⟨rfl, rfl, rfl, by decide +kernel, rfl, by decide +kernel, by decide +kernel⟩
theorem want_perm {cs ms : List Str} {ps : List (Str × Int)} (h : ps.Perm (ms.map fun k => (k, (cs.count k : Int)))) : ∃ ns : List Str, ns.Perm ms ∧ ps = ns.map fun k => (k, (cs.count k : Int)) := perm_map_inv h rfl
theorem ok_want {f : Addr} {fd : FuncData} (F : Fun K "wanted_of" "wanted_of" (topL 4) f fd) (B : Blt mg) : FnOk P w K mg base CX0 1 f fd ["job"] (spWant K) := by
  have nd := scWant.nd
  refine F.ok scWant (fun vs H Q E h => ?_) (fun cdv A outer s H vs Q E hr h => ?_)
  · obtain ⟨jp, J, rfl, _⟩ := h
    rfl
  · obtain ⟨jp, J, rfl, rj, pl, k⟩ := h
    have hu1 := hu_of hr
    have hbig : 100000 < sizeLine := by rw [sizeLine_eq]; decide
    obtain ⟨g, fs, ps, as, fv, pxs, qj, _, qf, rf, qp, rp, _⟩ := job_open rj
    have lp := rp.len
    rw [List.length_map] at lp
    refine ⟨_, (pss_cons (ps_set (i := 1) nd rfl (Or.inl rfl) pe_dnewK)
      (pss_cons (ps_for PassesOwn.never rfl (pi_tup (pe_ix ix_tup (pv 0) pe_int (fun _ _ => rfl))) (pg_name (i := 2) nd rfl (Or.inl rfl))
      (pss_one (ps_dput hu1 (pv 1) (pe_ix ix_tup (pv 2) pe_int (fun _ _ => rfl)) (pe_op op_add (pe_dget2 hu1 (pv 1) (pe_ix ix_tup (pv 2) pe_int (fun _ _ => rfl)) pe_int ⟨rfl, rfl, rfl, rfl⟩) pe_int) rfl)))
      (pss_one (ps_ret (pe_callB (call_sortedIt hr.hd) rfl B.sorted boot_sorted (pa_cons (pe_bm0 PySem.F.plainAttrs_dict PySem.F.slot_dict_items PySem.F.type_dict_items mt_items (pv 1)) pa_nil)))))), ?_⟩
    refine fun d hd => ⟨_, rfl, jp, _, _, _, rfl, rfl, (same_upd hd).sqT qj, rfl, ps, rfl, ⟨_, (same_upd hd).sqT qp⟩, for_tup (K := K) (a := ps) (xs := pxs) (fun i σ H1 => ∃ (v2 : Option V) (ms : List Str), σ = [some (.ref jp), some (.ref d), v2] ∧ Same H H1 ∧ H1 d = some (.dK (dkC ((kindsOf J).take i) ms)) ∧ ms.Nodup ∧ (∀ j, j ∈ ms ↔ j ∈ (kindsOf J).take i) ∧ ms.length ≤ i)
      ⟨_, [], rfl, same_upd hd, upd_same, by simp, fun j => by simp, Nat.zero_le _⟩ (fun i σ H1 _ ⟨_, _, _, s1, _⟩ => s1.sqT qp) ?_ ?_⟩
    · rintro i x σ H1 hx ⟨v2, ms, rfl, s1, D1, mn, mm, ml⟩
      obtain ⟨dd, e1, r1⟩ := (rp.same s1).get hx
      rw [List.getElem?_map] at e1
      obtain ⟨pa, epa, rfl⟩ := Option.map_eq_some_iff.mp e1
      have hi := (List.getElem?_eq_some_iff.mp epa).1
      obtain ⟨a, c, rfl, qa⟩ := part_open r1
      have ek : (kindsOf J)[i]? = some pa.k := by unfold kindsOf; rw [List.getElem?_map, epa]; rfl
      refine ⟨_, rfl, d, rfl, .inl ⟨_, .inl D1⟩, _, rfl, a, _, _, _, rfl, rfl, qa, rfl, _, DGet.k (k := Sum.inr pa.k) D1, ?_⟩
      rw [dkC_get fun z => (mm _).mpr z]
      refine ⟨_, _, rfl, rfl, _, rfl, _, rfl, a, _, _, _, rfl, rfl, qa, rfl, d, _, rfl, DPut.k (k := Sum.inr pa.k) D1 (by rw [dkC_len]; omega), ?_⟩
      rw [dkC_put]
      refine ⟨_, addS ms pa.k, rfl, fun c o z => by rw [upd_ne (ne_of_none z hd)]; exact s1 _ _ z, by rw [upd_same, tk_snoc ek], addS_nd mn, fun j => ?_, Nat.le_trans (addS_len _ _) (by omega)⟩
      rw [addS_mem, mm j, tk_snoc ek, List.mem_append, List.mem_singleton]
    · rintro σ H1 ⟨v2, ms, rfl, s1, D1, mn, mm, ml⟩
      have lk : (kindsOf J).length = J.ps.length := List.length_map _
      rw [lp, ← lk, List.take_length] at D1 mm
      refine ⟨_, rfl, .inr (.inr (.inl ⟨rfl, .inl ⟨_, D1⟩⟩)), d, _, rfl, rfl, D1, fun p hp => ?_⟩
      have D2 := (same_upd (o := viewH p d) hp) _ _ D1
      have V2 : upd H1 p (viewH p d) p = some (viewH p d) := upd_same
      have s2 := s1.trans (same_upd (o := viewH p d) hp)
      generalize upd H1 p (viewH p d) = H2 at D2 V2 s2
      refine ⟨p, d, ms.map fun k => (k, ((kindsOf J).count k : Int)), rfl, V2, by rw [List.map_map]; exact D2, by rw [List.map_map]; show (ms.map id).Nodup; rw [List.map_id]; exact mn, by rw [List.length_map]; omega, fun l qs zs H3 s3 hl L3 pm pw zl zt => ?_⟩
      obtain ⟨ns, np, rfl⟩ := want_perm pm
      rw [List.map_map] at pw
      have pw' : ns.Pairwise fun a b => ltS a b = true := by
        have e : ns.map ((fun x : Str × Int => x.1) ∘ fun k => (k, ((kindsOf J).count k : Int))) = ns := by
          show ns.map id = ns
          rw [List.map_id]
        rwa [e] at pw
      refine k l ns zs H3 (s2.none hl) (s2.trans s3) L3 pw' (fun j => (np.mem_iff).trans (mm j)) (np.nodup_iff.mpr mn) (by have := np.length_eq; omega) ⟨by rw [zl, List.length_map], fun j kk e => ?_⟩
      obtain ⟨T, e1, e2, e3⟩ := zt j (kk, ((kindsOf J).count kk : Int)) (by rw [List.getElem?_map, e]; rfl)
      exact ⟨T, e1, e3⟩
end
end L2

set_option Elab.async false
set_option linter.all false
set_option maxRecDepth 100000
set_option maxHeartbeats 4000000
namespace L2
open PySem PySem.Spec PyProof.Rows
def wayI (x1 y1 x2 y2 : Int) : Int := if absI (y1 - y2) > absI (x1 - x2) then absI (y1 - y2) else absI (x1 - x2)
theorem abs_nn (a : Int) : 0 ≤ absI a := by unfold absI; split <;> omega
theorem way_nn (x1 y1 x2 y2 : Int) : 0 ≤ wayI x1 y1 x2 y2 := by
  unfold wayI
  have := abs_nn (y1 - y2)
  have := abs_nn (x1 - x2)
  split <;> assumption
theorem way_le (x1 y1 x2 y2 t : Int) : wayI x1 y1 x2 y2 ≤ t ↔ absI (x1 - x2) ≤ t ∧ absI (y1 - y2) ≤ t := by
  unfold wayI
  split <;> omega
theorem way_bd {x1 y1 x2 y2 : Int} (a : 0 ≤ x1) (b : x1 ≤ 1000) (c : 0 ≤ y1) (d : y1 ≤ 1000) (a' : 0 ≤ x2) (b' : x2 ≤ 1000) (c' : 0 ≤ y2) (d' : y2 ≤ 1000) : wayI x1 y1 x2 y2 ≤ 1000 := by
  rw [way_le]
  unfold absI
  constructor <;> split <;> omega
def inB (p : Int × Int) : Prop := 0 ≤ p.1 ∧ p.1 ≤ 1000 ∧ 0 ≤ p.2 ∧ p.2 ≤ 1000
def waysI : List (Int × Int) → List Int
  | p :: q :: r => wayI p.1 p.2 q.1 q.2 :: waysI (q :: r)
  | _ => []
theorem ways_len : ∀ ps : List (Int × Int), (waysI ps).length = ps.length - 1
  | [] => rfl
  | [_] => rfl
  | p :: q :: r => by
    have := ways_len (q :: r)
    show (waysI (q :: r)).length + 1 = _
    rw [this]; simp
theorem ways_get : ∀ {ps : List (Int × Int)} {i : Nat} {p q : Int × Int}, ps[i]? = some p → ps[i + 1]? = some q → (waysI ps)[i]? = some (wayI p.1 p.2 q.1 q.2)
  | [], _, _, _, h, _ => by simp at h
  | [_], i, _, _, _, h => by simp at h
  | a :: b :: r, 0, p, q, h1, h2 => by simp at h1 h2; subst h1; subst h2; rfl
  | a :: b :: r, i + 1, p, q, h1, h2 => ways_get (ps := b :: r) (i := i) (by simpa using h1) (by simpa using h2)
theorem ways_bd : ∀ {ps : List (Int × Int)}, (∀ p ∈ ps, inB p) → ∀ z ∈ waysI ps, 0 ≤ z ∧ z ≤ 1000
  | [], _, z, h => by cases h
  | [_], _, z, h => by cases h
  | a :: b :: r, hb, z, h => by
    rcases List.mem_cons.mp h with e | h
    · have h1 := hb a (by simp)
      have h2 := hb b (by simp)
      rw [e]
      exact ⟨way_nn _ _ _ _, way_bd h1.1 h1.2.1 h1.2.2.1 h1.2.2.2 h2.1 h2.2.1 h2.2.2.1 h2.2.2.2⟩
    · exact ways_bd (ps := b :: r) (fun p hp => hb p (List.mem_cons_of_mem _ hp)) z h

def plD (p : Int × Int) : Dat := .tup [.int p.1, .int p.2]
section
variable {P : Program} {w : World} {K : PySem.W.Frag} {mg : Str → Option Value} {base : Heap}
theorem pl_open {H : Hp} {p : Int × Int} {x : V} (h : Rep K H (plD p) x) : ∃ a, x = .ref a ∧ SqT K H a [.int p.1, .int p.2] := by
  obtain ⟨pa, xs, rfl, qp', y0, r0, f0, g0, y1, r1', f1, g1, f2⟩ := h
  subst f0 f1
  cases (show r1' = [] from f2)
  cases (show y0 = _ from g0)
  cases (show y1 = _ from g1)
  exact ⟨pa, rfl, qp'⟩
theorem pl_rep {H : Hp} {a : Addr} {x y : Int} (h : SqT K H a [.int x, .int y]) : Rep K H (plD (x, y)) (.ref a) := ⟨a, _, rfl, h, _, _, rfl, rfl, _, _, rfl, rfl, rfl⟩
def spWay (K : PySem.W.Frag) : Sp := fun vs H Q _ => ∃ (u v : V) (p q : Int × Int), vs = [u, v] ∧ Rep K H (plD p) u ∧ Rep K H (plD q) v ∧ Q (.int (wayI p.1 p.2 q.1 q.2)) H
theorem scWay : FnScope ["one", "other"] ["one", "other"] (defScope (topL 1)) := ⟨rfl, rfl, rfl, by decide +kernel, rfl, by decide +kernel, by decide +kernel⟩
theorem ok_way {f : Addr} {fd : FuncData} (F : Fun K "way_between" "way_between" (topL 1) f fd) (B : Blt mg) : FnOk P w K mg base CX0 1 f fd ["one", "other"] (spWay K) := by
  refine F.ok scWay (fun vs H Q E h => ?_) (fun cdv A outer s H vs Q E hr h => ?_)
  · obtain ⟨u, v, p, q, rfl, _⟩ := h
    rfl
  · obtain ⟨u, v, p, q, rfl, hu', hv', k⟩ := h
    obtain ⟨a, rfl, ha⟩ := pl_open hu'
    obtain ⟨b, rfl, hb⟩ := pl_open hv'
    refine ⟨_, (pss_one (ps_ret (pe_callB (call_max2 rfl) rfl B.max boot_max (pa_cons (pe_callB call_abs rfl B.abs boot_abs (pa_cons (pe_op op_sub (pe_ix ix_tup (pv 0) pe_int (fun _ _ => rfl)) (pe_ix ix_tup (pv 1) pe_int (fun _ _ => rfl))) pa_nil)) (pa_cons (pe_callB call_abs rfl B.abs boot_abs (pa_cons (pe_op op_sub (pe_ix ix_tup (pv 0) pe_int (fun _ _ => rfl)) (pe_ix ix_tup (pv 1) pe_int (fun _ _ => rfl))) pa_nil)) pa_nil))))), ?_⟩
    refine ⟨_, rfl, a, _, _, _, rfl, rfl, ha, rfl, _, rfl, b, _, _, _, rfl, rfl, hb, rfl, _, _, rfl, rfl, _, rfl, _, rfl, a, _, _, _, rfl, rfl, ha, rfl, _, rfl, b, _, _, _, rfl, rfl, hb, rfl, _, _, rfl, rfl, _, rfl, _, _, rfl, k⟩
theorem scLway : FnScope ["_law_one", "_law_other"] ["_law_one", "_law_other"] (defScope (topL 22)) := ⟨rfl, rfl, rfl, by decide +kernel, rfl, by decide +kernel, by decide +kernel⟩
theorem ok_lway {f : Addr} {fd : FuncData} (F : Fun K "_law_way" "_law_way" (topL 22) f fd) (B : Blt mg) : FnOk P w K mg base CX0 1 f fd ["_law_one", "_law_other"] (spWay K) := by
  refine F.ok scLway (fun vs H Q E h => ?_) (fun cdv A outer s H vs Q E hr h => ?_)
  · obtain ⟨u, v, p, q, rfl, _⟩ := h
    rfl
  · obtain ⟨u, v, p, q, rfl, hu', hv', k⟩ := h
    obtain ⟨a, rfl, ha⟩ := pl_open hu'
    obtain ⟨b, rfl, hb⟩ := pl_open hv'
    refine ⟨_, (pss_one (ps_ret (pe_callB (call_max2 rfl) rfl B.max boot_max (pa_cons (pe_callB call_abs rfl B.abs boot_abs (pa_cons (pe_op op_sub (pe_ix ix_tup (pv 0) pe_int (fun _ _ => rfl)) (pe_ix ix_tup (pv 1) pe_int (fun _ _ => rfl))) pa_nil)) (pa_cons (pe_callB call_abs rfl B.abs boot_abs (pa_cons (pe_op op_sub (pe_ix ix_tup (pv 0) pe_int (fun _ _ => rfl)) (pe_ix ix_tup (pv 1) pe_int (fun _ _ => rfl))) pa_nil)) pa_nil))))), ?_⟩
    refine ⟨_, rfl, a, _, _, _, rfl, rfl, ha, rfl, _, rfl, b, _, _, _, rfl, rfl, hb, rfl, _, _, rfl, rfl, _, rfl, _, rfl, a, _, _, _, rfl, rfl, ha, rfl, _, rfl, b, _, _, _, rfl, rfl, hb, rfl, _, _, rfl, rfl, _, rfl, _, _, rfl, k⟩
theorem cutV_tail (xs : List V) : cutV xs (some 1) none = xs.drop 1 := by
  unfold cutV
  rw [show (some (1 : Int)) = some ((1 : Nat) : Int) from rfl, HT.sIx_nat, HT.sIx_none]
  cases xs with
  | nil => rfl
  | cons x r =>
    have : min 1 (x :: r).length = 1 := by simp only [List.length_cons]; omega
    rw [this]
    simp
def spLen (K : PySem.W.Frag) : Sp := fun vs H Q _ => ∃ (a : Addr) (xs : List V) (ps : List (Int × Int)), vs = [.ref a] ∧ SqL K H a xs ∧ Reps K H (ps.map plD) xs ∧ (∀ p ∈ ps, inB p) ∧ ps.length ≤ 1000 ∧ ∀ H', Same H H' → Q (.int (waysI ps).sum) H'
theorem scLen : FnScope ["places"] ["places"] (defScope (topL 2)) := ⟨rfl, rfl, rfl, by decide +kernel, rfl, by decide +kernel, by decide +kernel⟩
theorem ok_len {f : Addr} {fd : FuncData} (F : Fun K "length_of" "length_of" (topL 2) f fd) (B : Blt mg) (Dway_between : Dfn P w K mg base "way_between" 1 ["one", "other"] (spWay K)) : FnOk P w K mg base CX0 2 f fd ["places"] (spLen K) := by
  have nd := scLen.nd
  refine F.ok scLen (fun vs H Q E h => ?_) (fun cdv A outer s H vs Q E hr h => ?_)
  · obtain ⟨a, xs, ps, rfl, _⟩ := h
    rfl
  · obtain ⟨a, xs, ps, rfl, hx, hp, hb, hl, k⟩ := h
    have hbig : 100000 < sizeLine := by rw [sizeLine_eq]; decide
    have hxl := hp.len
    rw [List.length_map] at hxl
    refine ⟨_, (pss_one (ps_ret (pe_callB (call_sumI rfl) rfl B.sum boot_sum (pa_cons (pe_lc2 [] [] rfl rfl (by kernel_rfl) (pi_zip rfl B.zip (pa_cons (pv 0) (pa_cons (pe_slice sl_list (pv 0) (po_some pe_int) po_none) pa_nil))) (fun C0 s0 H0 ex0 => pf_nil) (fun C0 s0 H0 ex0 => (pe_callD Dway_between (hr.mono (by first | decide | exact Nat.le_refl _ | omega)) rfl (pa_cons (pv 0) (pa_cons (pv 1) pa_nil))))) pa_nil)))), ?_⟩
    refine ⟨_, rfl, _, rfl, 1, rfl, a, xs, rfl, hx, fun t ht => ?_⟩
    have s1 : Same H (upd H t (.lst (cutV xs (some 1) none))) := same_upd ht
    have ht1 : upd H t (.lst (cutV xs (some 1) none)) t = some (.lst (xs.drop 1)) := by rw [upd_same, cutV_tail]
    have hx1 := s1.seq hx
    have hp1 := hp.same s1
    generalize upd H t (.lst (cutV xs (some 1) none)) = H1 at s1 ht1 hx1 hp1
    refine ⟨true, true, a, t, rfl, ⟨xs, hx1⟩, ⟨_, SqL.of ht1⟩, ?_⟩
    refine lc_zip (K := K) (k1 := true) (k2 := true) (xs := xs) (ys := xs.drop 1) (fun i zs H3 => zs = ((waysI ps).take i).map V.int ∧ Same H1 H3) ⟨rfl, Same.refl _⟩ (fun i zs H3 ⟨_, sm⟩ => ⟨sm.seq hx1, sm.seq (SqL.of ht1)⟩) ?_ ?_
    · rintro i x y zs H3 T e1 e2 ⟨rfl, sm⟩ hT
      have e2' : xs[i + 1]? = some y := by rw [List.getElem?_drop] at e2; rw [Nat.add_comm]; exact e2
      have s4 := sm.trans (same_upd (o := .tup [x, y]) hT)
      obtain ⟨d1, q1, r1⟩ := (hp1.same s4).get e1
      obtain ⟨d2, q2, r2⟩ := (hp1.same s4).get e2'
      rw [List.getElem?_map] at q1 q2
      obtain ⟨p, w1, rfl⟩ := Option.map_eq_some_iff.mp q1
      obtain ⟨q, w2, rfl⟩ := Option.map_eq_some_iff.mp q2
      refine ⟨T, _, rfl, SqT.of upd_same, rfl, _, _, rfl, _, _, rfl, rfl, rfl, ?_⟩
      refine ⟨_, rfl, _, rfl, x, y, p, q, rfl, r1, r2, ?_, ?_, s4⟩
      · have := ways_len ps
        rw [List.length_map, List.length_take]; omega
      · rw [tk_snoc (ways_get w1 w2), List.map_append]; rfl
    · rintro zs H3 ⟨rfl, sm⟩
      have hm : min xs.length (xs.drop 1).length = (waysI ps).length := by rw [ways_len, List.length_drop]; omega
      refine ⟨by rw [List.length_map, List.length_take]; omega, fun D hD => ⟨D, waysI ps, rfl, ?_, fun z hz => ?_, by rw [ways_len]; omega, k _ ((s1.trans sm).trans (same_upd hD))⟩⟩
      · refine SqL.of ?_
        rw [upd_same, hm, List.take_length]
      · have := ways_bd hb z hz
        omega
end
end L2

set_option Elab.async false
set_option linter.all false
set_option maxRecDepth 100000
set_option maxHeartbeats 4000000
namespace L2
open PySem PySem.Spec PyProof.Rows
/-! what a slot costs a kind -/
def triI (g p q : Int × Int) : Int := wayI g.1 g.2 p.1 p.2 + wayI p.1 p.2 q.1 q.2 + wayI q.1 q.2 g.1 g.2
def gateP (J : Job) : Int × Int := (J.gx, J.gy)
def costs (g p : Int × Int) (kd : Str) (ps : List Part) : List Int := (ps.filter fun q => decide (q.k = kd)).map fun q => triI g p (q.x, q.y)
def costI (J : Job) (kd : Str) (p : Int × Int) : Int := (costs (gateP J) p kd J.ps).sum
theorem costs_pos {g p : Int × Int} {kd : Str} {ps : List Part} {q : Part} (h : q.k = kd) : costs g p kd (ps ++ [q]) = costs g p kd ps ++ [triI g p (q.x, q.y)] := by
  unfold costs
  rw [List.filter_append, List.filter_cons_of_pos (by exact decide_eq_true h), List.map_append]
  rfl
theorem costs_neg {g p : Int × Int} {kd : Str} {ps : List Part} {q : Part} (h : q.k ≠ kd) : costs g p kd (ps ++ [q]) = costs g p kd ps := by
  unfold costs
  rw [List.filter_append, List.filter_cons_of_neg (by simpa using h), List.filter_nil, List.append_nil]
theorem costs_len (g p : Int × Int) (kd : Str) (ps : List Part) : (costs g p kd ps).length ≤ ps.length := by
  unfold costs
  rw [List.length_map]
  exact List.length_filter_le _ _
theorem tri_sum (g p q : Int × Int) : (waysI [g, p, q, g]).sum = triI g p q := by
  show wayI g.1 g.2 p.1 p.2 + (wayI p.1 p.2 q.1 q.2 + (wayI q.1 q.2 g.1 g.2 + 0)) = _
  unfold triI
  omega
theorem wayP_bd {p q : Int × Int} (hp : inB p) (hq : inB q) : 0 ≤ wayI p.1 p.2 q.1 q.2 ∧ wayI p.1 p.2 q.1 q.2 ≤ 1000 := ⟨way_nn _ _ _ _, way_bd hp.1 hp.2.1 hp.2.2.1 hp.2.2.2 hq.1 hq.2.1 hq.2.2.1 hq.2.2.2⟩
theorem tri_bd {g p q : Int × Int} (hg : inB g) (hp : inB p) (hq : inB q) : 0 ≤ triI g p q ∧ triI g p q ≤ 3000 := by
  have a := wayP_bd hg hp
  have b := wayP_bd hp hq
  have c := wayP_bd hq hg
  unfold triI
  omega
theorem costs_bd {J : Job} {ord : List Nat} (jo : JobOk J ord) {p : Int × Int} (hp : inB p) {kd : Str} {ps : List Part} (hs : ∀ q ∈ ps, q ∈ J.ps) : ∀ z ∈ costs (gateP J) p kd ps, 0 ≤ z ∧ z ≤ 3000 := fun z hz => by
  obtain ⟨q, hq, rfl⟩ := List.mem_map.mp hz
  exact tri_bd jo.gate hp (jo.pa q (hs q (List.mem_filter.mp hq).1)).2.1
def Rows (H0 H : Hp) (rs : List (List Int)) (zs : List V) : Prop := zs.length = rs.length ∧ ∀ (j : Nat) (r : List Int), rs[j]? = some r → ∃ a, zs[j]? = some (.ref a) ∧ H0 a = none ∧ H a = some (.lst (r.map V.int))
theorem Rows.nil {H0 H : Hp} : Rows H0 H [] [] := ⟨rfl, fun j k e => by simp at e⟩
theorem Rows.same {H0 H H' : Hp} {rs : List (List Int)} {zs : List V} (h : Rows H0 H rs zs) (s : Same H H') : Rows H0 H' rs zs := ⟨h.1, fun j k e => let ⟨T, a, b, c⟩ := h.2 j k e; ⟨T, a, b, s _ _ c⟩⟩
theorem Rows.snoc {H0 H : Hp} {rs : List (List Int)} {zs : List V} {r : List Int} {T : Addr} (h : Rows H0 H rs zs) (n : H0 T = none) (e : H T = some (.lst (r.map V.int))) : Rows H0 H (rs ++ [r]) (zs ++ [.ref T]) := by
  refine ⟨by rw [List.length_append, List.length_append, h.1]; rfl, fun j q hq => ?_⟩
  by_cases hj : j < rs.length
  · rw [List.getElem?_append_left hj] at hq
    obtain ⟨U, e1, e2⟩ := h.2 j q hq
    exact ⟨U, by rw [List.getElem?_append_left (by rw [h.1]; exact hj)]; exact e1, e2⟩
  · have hl := (List.getElem?_eq_some_iff.mp hq).1
    rw [List.length_append] at hl
    have ej : j = rs.length := by simp at hl; omega
    subst ej
    rw [List.getElem?_append_right (Nat.le_refl _), Nat.sub_self] at hq
    have : r = q := by simpa using hq
    subst this
    exact ⟨T, by rw [← h.1, List.getElem?_append_right (Nat.le_refl _), Nat.sub_self]; rfl, n, e⟩
def rowD (r : List Int) : Dat := .lst (r.map Dat.int)
theorem reps_ints {K : PySem.W.Frag} {H : Hp} : ∀ ms : List Int, Reps K H (ms.map Dat.int) (ms.map V.int)
  | [] => rfl
  | m :: ms => ⟨_, _, rfl, rfl, reps_ints ms⟩
theorem Rows.reps {K : PySem.W.Frag} {H0 H : Hp} : ∀ {rs : List (List Int)} {zs : List V}, Rows H0 H rs zs → Reps K H (rs.map rowD) zs
  | [], zs, h => by
    have : zs = [] := List.length_eq_zero_iff.mp h.1
    rw [this]; exact rfl
  | m :: ms, zs, h => by
    cases zs with
    | nil => have := h.1; simp at this
    | cons z zs =>
      obtain ⟨T, e1, _, e2⟩ := h.2 0 m rfl
      cases e1
      exact ⟨_, _, rfl, ⟨T, _, rfl, SqL.of e2, reps_ints m⟩, Rows.reps ⟨by have := h.1; simpa using this, fun j k e => h.2 (j + 1) k e⟩⟩
section
variable {P : Program} {w : World} {K : PySem.W.Frag} {mg : Str → Option Value} {base : Heap}
theorem part_at {H : Hp} {p : Part} {x : V} (h : Rep K H (partD p) x) : ∃ a c, x = .ref a ∧ SqT K H a [.str p.k, .ref c] ∧ Rep K H (plD (p.x, p.y)) (.ref c) := by
  obtain ⟨a, xs, rfl, q, y0, r0, f0, g0, y1, r1, f1, g1, f2⟩ := h
  subst f0 f1
  cases (show r1 = [] from f2)
  cases (show y0 = _ from g0)
  obtain ⟨c, ys, rfl, q', s⟩ := g1
  exact ⟨a, c, rfl, q, c, ys, rfl, q', s⟩
def spCost (K : PySem.W.Frag) : Sp := fun vs H Q _ => ∃ (jp : Addr) (J : Job) (ord : List Nat) (kd : Str) (u : V) (p : Int × Int), vs = [.ref jp, .str kd, u] ∧ Rep K H (jobD J) (.ref jp) ∧ JobOk J ord ∧ Rep K H (plD p) u ∧ inB p ∧ ∀ H', Same H H' → Q (.int (costI J kd p)) H'
theorem scCost : FnScope ["job", "kind", "slot"] ["job", "kind", "slot"] (defScope (topL 6)) := ⟨rfl, rfl, rfl, by decide +kernel, rfl, by decide +kernel, by decide +kernel⟩
theorem ok_cost {f : Addr} {fd : FuncData} (F : Fun K "slot_cost" "slot_cost" (topL 6) f fd) (B : Blt mg) (Dlength_of : Dfn P w K mg base "length_of" 2 ["places"] (spLen K)) : FnOk P w K mg base CX0 3 f fd ["job", "kind", "slot"] (spCost K) := by
  have nd := scCost.nd
  refine F.ok scCost (fun vs H Q E h => ?_) (fun cdv A outer s H vs Q E hr h => ?_)
  · obtain ⟨jp, J, ord, kd, u, p, rfl, _⟩ := h
    rfl
  · obtain ⟨jp, J, ord, kd, u, p, rfl, rj, jo, rpl, bp, k⟩ := h
    have hbig : 100000 < sizeLine := by rw [sizeLine_eq]; decide
    have pl := jo.pl
    obtain ⟨g, fs, ps, as, fv, pxs, qj, rg, qf, rf, qp, rp, _⟩ := job_open rj
    have lp := rp.len
    rw [List.length_map] at lp
    refine ⟨_, (pss_one (ps_ret (pe_callB (call_sumI rfl) rfl B.sum boot_sum (pa_cons (pe_lc2 ["slot", "job", "kind"] [2, 0, 1] rfl rfl (by kernel_rfl) (pi_tup (pe_ix ix_tup (pv 0) pe_int (fun _ _ => rfl))) (fun C0 s0 H0 ex0 => (pf_one (pt_cmpR op_eq (pv 0) (pv 4) (nomark _)))) (fun C0 s0 H0 ex0 => (pe_callD Dlength_of (hr.mono (by first | decide | exact Nat.le_refl _ | omega)) rfl (pa_cons (pe_lst (pa_cons (pe_ix (ix_tupB (K := K) rfl) (pv 3) pe_int (fun _ _ => rfl)) (pa_cons (pv 2) (pa_cons (pv 1) (pa_cons (pe_ix (ix_tupB (K := K) rfl) (pv 3) pe_int (fun _ _ => rfl)) pa_nil))))) pa_nil)))) pa_nil)))), ?_⟩
    refine ⟨_, rfl, jp, _, _, _, rfl, rfl, qj, rfl, ps, rfl, ⟨_, qp⟩, lc_tup (K := K) (a := ps) (xs := pxs) (fun i zs H3 => zs = (costs (gateP J) p kd (J.ps.take i)).map V.int ∧ Same H H3) ⟨rfl, Same.refl _⟩ (fun i zs H3 ⟨_, s3⟩ => s3.sqT qp) ?_ ?_⟩
    · rintro i x zs H3 hx ⟨rfl, s3⟩
      obtain ⟨dd, e1, r1⟩ := (rp.same s3).get hx
      rw [List.getElem?_map] at e1
      obtain ⟨pa, epa, rfl⟩ := Option.map_eq_some_iff.mp e1
      have hi := (List.getElem?_eq_some_iff.mp epa).1
      obtain ⟨a, c, rfl, qa, rc⟩ := part_at r1
      have cl := costs_len (gateP J) p kd (J.ps.take i)
      rw [List.length_take] at cl
      refine ⟨a, _, rfl, qa, rfl, _, _, rfl, _, _, rfl, rfl, rfl, ?_⟩
      refine ⟨_, rfl, _, rfl, rfl, _, rfl, ite2 (fun z => ?_) (fun z => ⟨?_, s3⟩)⟩
      · refine ⟨_, rfl, jp, _, _, _, rfl, rfl, s3.sqT qj, rfl, _, rfl, _, rfl, _, rfl, jp, _, _, _, rfl, rfl, s3.sqT qj, rfl, le4, fun l hl => ?_⟩
        have s4 := s3.trans (same_upd (o := .lst [.ref g, u, .ref c, .ref g]) hl)
        have rg4 : Rep K (upd H3 l (.lst [.ref g, u, .ref c, .ref g])) (plD (gateP J)) (.ref g) := rg.same s4
        refine ⟨l, _, [gateP J, p, (pa.x, pa.y), gateP J], rfl, SqL.of upd_same, ⟨_, _, rfl, rg4, _, _, rfl, rpl.same s4, _, _, rfl, rc.same (same_upd hl), _, _, rfl, rg4, rfl⟩, fun q hq => ?_, (by show 4 ≤ 1000; decide), fun H5 s5 => ⟨?_, ?_, s4.trans s5⟩⟩
        · have hg : inB (gateP J) := jo.gate
          have hpa : inB (pa.x, pa.y) := (jo.pa pa (List.mem_of_getElem? epa)).2.1
          rcases List.mem_cons.mp hq with rfl | hq
          · exact hg
          rcases List.mem_cons.mp hq with rfl | hq
          · exact bp
          rcases List.mem_cons.mp hq with rfl | hq
          · exact hpa
          rcases List.mem_cons.mp hq with rfl | hq
          · exact hg
          cases hq
        · rw [List.length_map]; omega
        · rw [tk_snoc epa, costs_pos (V.str.inj (of_decide_eq_true z)), List.map_append, tri_sum]
          rfl
      · rw [tk_snoc epa, costs_neg fun e => z (decide_eq_true (by rw [e]))]
    · rintro zs H3 ⟨rfl, s3⟩
      rw [lp, List.take_length]
      have cl := costs_len (gateP J) p kd J.ps
      refine ⟨by rw [List.length_map]; omega, fun D hD => ⟨D, _, rfl, SqL.of upd_same, fun z hz => ?_, by omega, k _ (s3.trans (same_upd hD))⟩⟩
      have := costs_bd jo bp (fun q hq => hq) z hz
      omega
end
end L2

set_option Elab.async false
set_option linter.all false
set_option maxRecDepth 100000
set_option maxHeartbeats 4000000
namespace L2
open PySem PySem.Spec PyProof.Rows
section
variable {P : Program} {w : World} {K : PySem.W.Frag} {mg : Str → Option Value} {base : Heap}
def rowI (J : Job) (qs : List (Int × Int)) (kd : Str) : List Int := qs.map (costI J kd)
def spCosts (K : PySem.W.Frag) : Sp := fun vs H Q _ => ∃ (jp sl : Addr) (J : Job) (ord : List Nat) (qs : List (Int × Int)) (sv : List V), vs = [.ref jp, .ref sl] ∧ Rep K H (jobD J) (.ref jp) ∧ JobOk J ord ∧ H sl = some (.lst sv) ∧ Reps K H (qs.map plD) sv ∧ (∀ q ∈ qs, inB q) ∧ qs.length ≤ 100 ∧
  ∀ (l : Addr) (ms : List Str) (zs : List V) H', H l = none → Same H H' → H' l = some (.lst zs) → (ms.Pairwise fun a b => ltS a b = true) → (∀ j, j ∈ ms ↔ j ∈ kindsOf J) → ms.length ≤ 60 → Rows H H' (ms.map (rowI J qs)) zs → Q (.ref l) H'
theorem scCosts : FnScope ["job", "slots"] ["job", "slots"] (defScope (topL 7)) := ⟨rfl, rfl, rfl, by decide +kernel, rfl, by decide +kernel, by decide +kernel⟩
theorem ok_costs {f : Addr} {fd : FuncData} (F : Fun K "slot_costs" "slot_costs" (topL 7) f fd) (B : Blt mg) (Dslot_cost : Dfn P w K mg base "slot_cost" 3 ["job", "kind", "slot"] (spCost K)) (Dwanted_of : Dfn P w K mg base "wanted_of" 1 ["job"] (spWant K)) : FnOk P w K mg base CX0 4 f fd ["job", "slots"] (spCosts K) := by
  have nd := scCosts.nd
  refine F.ok scCosts (fun vs H Q E h => ?_) (fun cdv A outer s H vs Q E hr h => ?_)
  · obtain ⟨jp, sl, J, ord, qs, sv, rfl, _⟩ := h
    rfl
  · obtain ⟨jp, sl, J, ord, qs, sv, rfl, rj, jo, hs, rs, hb, ql, k⟩ := h
    have hbig : 100000 < sizeLine := by rw [sizeLine_eq]; decide
    have lv := rs.len
    rw [List.length_map] at lv
    refine ⟨_, (pss_one (ps_ret (pe_lcX2 ["job", "slots"] [0, 1] rfl rfl (by kernel_rfl) (by kernel_rfl) (pi_list (pe_callD Dwanted_of (hr.mono (by first | decide | exact Nat.le_refl _ | omega)) rfl (pa_cons (pv 0) pa_nil))) (fun C0 s0 H0 ex0 => pf_nil) (fun C0 s0 H0 ex0 => (pe_lc1 ["job", "kind"] [2, 0] rfl rfl (by kernel_rfl) (pi_listB (K := K) rfl (pv 3)) (fun C0 s0 H0 ex0 => pf_nil) (fun C0 s0 H0 ex0 => (pe_callD Dslot_cost (hr.mono (by first | decide | exact Nat.le_refl _ | omega)) rfl (pa_cons (pv 1) (pa_cons (pv 2) (pa_cons (pv 0) pa_nil)))))))))), ?_⟩
    refine ⟨_, rfl, jp, J, rfl, rj, jo.pl, fun l ms wz H1 hl s1 L1 up mm mn ml wt => ?_⟩
    refine ⟨l, rfl, ⟨_, SqL.of L1⟩, lc_list (K := K) (a := l) (xs := wz) (fun i zs H2 => Rows H H2 ((ms.take i).map (rowI J qs)) zs ∧ Same H1 H2) ⟨Rows.nil, Same.refl _⟩ (fun i zs H2 ⟨_, s2⟩ => SqL.of (s2 _ _ L1)) ?_ ?_⟩
    · rintro i x zs H2 hx ⟨rw2, s2⟩
      have hi : i < ms.length := by rw [← wt.1]; exact (List.getElem?_eq_some_iff.mp hx).1
      have em : ms[i]? = some ms[i] := List.getElem?_eq_getElem _
      generalize ms[i] = kd at em
      obtain ⟨T, e1, e2⟩ := (wt.same s2).2 i kd em
      rw [hx] at e1
      cases e1
      have t2 := s1.trans s2
      refine ⟨T, _, rfl, SqT.of e2, rfl, _, _, rfl, _, _, rfl, rfl, rfl, ?_⟩
      refine ⟨_, rfl, sl, rfl, ⟨_, SqL.of (t2 _ _ hs)⟩, lc_list (K := K) (a := sl) (xs := sv) (fun j ys H3 => ys = ((qs.take j).map (costI J kd)).map V.int ∧ Same H2 H3) ⟨rfl, Same.refl _⟩ (fun j ys H3 ⟨_, s3⟩ => SqL.of (s3 _ _ (t2 _ _ hs))) ?_ ?_⟩
      · rintro j y ys H3 hy ⟨rfl, s3⟩
        have t3 := t2.trans s3
        obtain ⟨dd, q1, r1⟩ := (rs.same t3).get hy
        rw [List.getElem?_map] at q1
        obtain ⟨q, eq, rfl⟩ := Option.map_eq_some_iff.mp q1
        have hj := (List.getElem?_eq_some_iff.mp eq).1
        refine ⟨rfl, _, rfl, _, rfl, _, rfl, jp, J, ord, kd, y, q, rfl, rj.same t3, jo, r1, hb q (List.mem_of_getElem? eq), fun H4 s4 => ⟨?_, ?_, s3.trans s4⟩⟩
        · rw [List.length_map, List.length_map, List.length_take]; omega
        · rw [tk_snoc eq, List.map_append, List.map_append]
          rfl
      · rintro ys H3 ⟨rfl, s3⟩
        rw [lv, List.take_length]
        refine ⟨by rw [List.length_map, List.length_map]; omega, fun D hD => ⟨?_, ?_, s2.trans (s3.trans (same_upd hD))⟩⟩
        · rw [rw2.1, List.length_map, List.length_take]; omega
        · rw [tk_snoc em, List.map_append]
          exact (rw2.same (s3.trans (same_upd hD))).snoc (t2.none (s3.none hD)) upd_same
    · rintro zs H2 ⟨rw2, s2⟩
      rw [wt.1, List.take_length] at rw2
      refine ⟨by rw [rw2.1, List.length_map]; omega, fun D hD => k D ms zs _ ((s1.trans s2).none hD) ((s1.trans s2).trans (same_upd hD)) upd_same up mm ml (rw2.same (same_upd hD))⟩
def spKinds (K : PySem.W.Frag) : Sp := fun vs H Q _ => ∃ (jp : Addr) (J : Job), vs = [.ref jp] ∧ Rep K H (jobD J) (.ref jp) ∧ J.ps.length ≤ 60 ∧
  ∀ (l : Addr) (ms : List Str) H', H l = none → Same H H' → H' l = some (.lst (ms.map V.str)) → (ms.Pairwise fun a b => ltS a b = true) → (∀ j, j ∈ ms ↔ j ∈ kindsOf J) → ms.length ≤ 60 → Q (.ref l) H'
theorem nd_len : ∀ {xs ys : List Str}, xs.Nodup → (∀ x ∈ xs, x ∈ ys) → xs.length ≤ ys.length
  | [], _, _, _ => Nat.zero_le _
  | x :: xs, ys, nd, h => by
    obtain ⟨n1, n2⟩ := List.nodup_cons.mp nd
    have hx := h x (by simp)
    have := nd_len (xs := xs) (ys := ys.erase x) n2 fun y hy => (List.mem_erase_of_ne (fun z : y = x => n1 (z ▸ hy))).mpr (h y (List.mem_cons_of_mem _ hy))
    rw [List.length_erase_of_mem hx] at this
    have p := List.length_pos_of_mem hx
    rw [List.length_cons]
    omega
theorem scKinds : FnScope ["_law_job_here"] ["_law_job_here"] (defScope (topL 23)) := ⟨rfl, rfl, rfl, by decide +kernel, rfl, by decide +kernel, by decide +kernel⟩
theorem ok_kinds {f : Addr} {fd : FuncData} (F : Fun K "_law_kinds" "_law_kinds" (topL 23) f fd) (B : Blt mg) : FnOk P w K mg base CX0 1 f fd ["_law_job_here"] (spKinds K) := by
  have nd := scKinds.nd
  refine F.ok scKinds (fun vs H Q E h => ?_) (fun cdv A outer s H vs Q E hr h => ?_)
  · obtain ⟨jp, J, rfl, _⟩ := h
    rfl
  · obtain ⟨jp, J, rfl, rj, pl, k⟩ := h
    have hbig : 100000 < sizeLine := by rw [sizeLine_eq]; decide
    obtain ⟨g, fs, ps, as, fv, pxs, qj, rg, qf, rf, qp, rp, ra⟩ := job_open rj
    have lp := rp.len
    rw [List.length_map] at lp
    have lk : (kindsOf J).length = J.ps.length := List.length_map _
    refine ⟨_, (pss_one (ps_ret (pe_callB (call_sortedXS hr.hd) rfl B.sorted boot_sorted (pa_cons (pe_callTy (call_setL hr.hd) rfl B.set boot_set (pa_cons (pe_lc1 [] [] rfl rfl (by kernel_rfl) (pi_tup (pe_ix ix_tup (pv 0) pe_int (fun _ _ => rfl))) (fun C0 s0 H0 ex0 => pf_nil) (fun C0 s0 H0 ex0 => (pe_ix (ix_tupB (K := K) rfl) (pv 0) pe_int (fun _ _ => rfl)))) pa_nil)) pa_nil)))), ?_⟩
    refine ⟨_, rfl, jp, _, _, _, rfl, rfl, qj, rfl, ps, rfl, ⟨_, qp⟩, lc_tup (K := K) (a := ps) (xs := pxs) (fun i zs H1 => zs = ((kindsOf J).take i).map V.str ∧ Same H H1) ⟨rfl, Same.refl _⟩ (fun i zs H1 ⟨_, s1⟩ => s1.sqT qp) ?_ ?_⟩
    · rintro i x zs H1 hx ⟨rfl, s1⟩
      obtain ⟨dd, e1, r1⟩ := (rp.same s1).get hx
      rw [List.getElem?_map] at e1
      obtain ⟨pa, epa, rfl⟩ := Option.map_eq_some_iff.mp e1
      have hi := (List.getElem?_eq_some_iff.mp epa).1
      obtain ⟨a, c, rfl, qa⟩ := part_open r1
      have ek : (kindsOf J)[i]? = some pa.k := by unfold kindsOf; rw [List.getElem?_map, epa]; rfl
      refine ⟨rfl, _, rfl, a, _, _, _, rfl, rfl, qa, rfl, ?_, ?_, s1⟩
      · rw [List.length_map, List.length_take]; omega
      · rw [tk_snoc ek, List.map_append]
        rfl
    rintro zs H1 ⟨rfl, s1⟩
    rw [lp, ← lk, List.take_length]
    refine ⟨by rw [List.length_map]; omega, fun kl hkl => ?_⟩
    have K1 : upd H1 kl (.lst ((kindsOf J).map V.str)) kl = some (.lst (((kindsOf J).map Sum.inr : List Key).map kV)) := by
      rw [upd_same, List.map_map]
      rfl
    refine ⟨kl, _, rfl, K1, by rw [List.length_map]; omega, fun sp hsp => ⟨sp, kindsOf J, rfl, upd_same, by omega, fun so ms hso srt mn mm => ?_⟩⟩
    have s2 := s1.trans (same_upd (o := .lst ((kindsOf J).map V.str)) hkl)
    have s3 := s2.trans ((same_upd hsp).trans (same_upd (o := .lst (ms.map V.str)) hso))
    exact k so ms _ (s2.none ((same_upd hsp).none hso)) s3 upd_same (sortedS_pw srt mn) mm (by have := nd_len mn fun x hx => (mm x).mp hx; omega)
theorem scLcost : FnScope ["_law_job_here", "_law_kind", "_law_slot", "_law_total", "_law_part"] ["_law_job_here", "_law_kind", "_law_slot"] (defScope (topL 25)) := ⟨rfl, rfl, rfl, by decide +kernel, rfl, by decide +kernel, by decide +kernel⟩
theorem ok_lcost {f : Addr} {fd : FuncData} (F : Fun K "_law_cost" "_law_cost" (topL 25) f fd) (B : Blt mg) (D_way : Dfn P w K mg base "_law_way" 1 ["_law_one", "_law_other"] (spWay K)) : FnOk P w K mg base CX0 2 f fd ["_law_job_here", "_law_kind", "_law_slot"] (spCost K) := by
  have nd := scLcost.nd
  refine F.ok scLcost (fun vs H Q E h => ?_) (fun cdv A outer s H vs Q E hr h => ?_)
  · obtain ⟨jp, J, ord, kd, u, p, rfl, _⟩ := h
    rfl
  · obtain ⟨jp, J, ord, kd, u, p, rfl, rj, jo, rpl, bp, k⟩ := h
    obtain ⟨g, fs, ps, as, fv, pxs, qj, rg, qf, rf, qp, rp, _⟩ := job_open rj
    have lp := rp.len
    rw [List.length_map] at lp
    refine ⟨_, (pss_cons (ps_set (i := 3) nd rfl (Or.inl rfl) pe_int)
      (pss_cons (ps_for PassesOwn.never rfl (pi_tup (pe_ix ix_tup (pv 0) pe_int (fun _ _ => rfl))) (pg_name (i := 4) nd rfl (Or.inl rfl))
      (pss_one (ps_if (pt_cmpR op_eq (pe_ix ix_tup (pv 4) pe_int (fun _ _ => rfl)) (pv 1) (nomark _))
        (pss_one (ps_set (i := 3) nd rfl (Or.inl rfl) (pe_op op_add (pe_op op_add (pe_op op_add (pv 3) (pe_callD D_way (hr.mono (by first | decide | exact Nat.le_refl _ | omega)) rfl (pa_cons (pe_ix ix_tup (pv 0) pe_int (fun _ _ => rfl)) (pa_cons (pv 2) pa_nil)))) (pe_callD D_way (hr.mono (by first | decide | exact Nat.le_refl _ | omega)) rfl (pa_cons (pv 2) (pa_cons (pe_ix ix_tup (pv 4) pe_int (fun _ _ => rfl)) pa_nil)))) (pe_callD D_way (hr.mono (by first | decide | exact Nat.le_refl _ | omega)) rfl (pa_cons (pe_ix ix_tup (pv 4) pe_int (fun _ _ => rfl)) (pa_cons (pe_ix ix_tup (pv 0) pe_int (fun _ _ => rfl)) pa_nil))))))
        pss_nil)))
      (pss_one (ps_ret (pv 3))))), ?_⟩
    refine ⟨_, rfl, jp, _, _, _, rfl, rfl, qj, rfl, ps, rfl, ⟨_, qp⟩, for_tup (K := K) (a := ps) (xs := pxs) (fun i σ H3 => ∃ v4 : Option V, σ = [some (.ref jp), some (.str kd), some u, some (.int (costs (gateP J) p kd (J.ps.take i)).sum), v4] ∧ H3 = H) ⟨_, rfl, rfl⟩ (fun i σ H3 _ ⟨_, _, e⟩ => e ▸ qp) ?_ ?_⟩
    · rintro i x σ H3 hx ⟨v4, rfl, rfl⟩
      obtain ⟨dd, e1, r1⟩ := rp.get hx
      rw [List.getElem?_map] at e1
      obtain ⟨pa, epa, rfl⟩ := Option.map_eq_some_iff.mp e1
      obtain ⟨a, c, rfl, qa, rc⟩ := part_at r1
      refine ⟨_, rfl, a, _, _, _, rfl, rfl, qa, rfl, _, rfl, rfl, _, rfl, ite2 (fun z => ?_) (fun z => ?_)⟩
      · refine ⟨_, rfl, _, rfl, jp, _, _, _, rfl, rfl, qj, rfl, _, rfl, .ref g, u, gateP J, p, rfl, rg, rpl, _, _, rfl, rfl, _, rfl, _, rfl, a, _, _, _, rfl, rfl, qa, rfl, u, .ref c, p, (pa.x, pa.y), rfl, rpl, rc, _, _, rfl, rfl, _, rfl, a, _, _, _, rfl, rfl, qa, rfl, _, rfl, jp, _, _, _, rfl, rfl, qj, rfl, .ref c, .ref g, (pa.x, pa.y), gateP J, rfl, rc, rg, _, _, rfl, rfl, ?_⟩
        refine ⟨some (.ref a), ?_, rfl⟩
        rw [tk_snoc epa, costs_pos (V.str.inj (of_decide_eq_true z)), List.sum_append]
        have e : ∀ t : Int, t + wayI (gateP J).1 (gateP J).2 p.1 p.2 + wayI p.1 p.2 pa.x pa.y + wayI pa.x pa.y (gateP J).1 (gateP J).2 = t + [triI (gateP J) p (pa.x, pa.y)].sum := fun t => by
          show _ = t + (wayI (gateP J).1 (gateP J).2 p.1 p.2 + wayI p.1 p.2 pa.x pa.y + wayI pa.x pa.y (gateP J).1 (gateP J).2 + 0)
          omega
        rw [← e]
        rfl
      · refine ⟨some (.ref a), ?_, rfl⟩
        rw [tk_snoc epa, costs_neg fun e => z (decide_eq_true (by rw [e]))]
        rfl
    · rintro σ H3 ⟨v4, rfl, rfl⟩
      rw [lp, List.take_length]
      exact ⟨_, rfl, k _ (Same.refl _)⟩
end
end L2

set_option Elab.async false
set_option linter.all false
set_option maxRecDepth 100000
set_option maxHeartbeats 4000000
namespace L2
open PySem PySem.Spec PyProof.Rows
theorem ixN_last (i : Nat) : ixN (i + 1) (-1) = some i := by
  unfold ixN
  simp
  omega
section
variable {P : Program} {w : World} {K : PySem.W.Frag} {mg : Str → Option Value} {base : Heap}
def spSlots : Sp := fun vs H Q _ => ∃ (b : Addr) (m n : Int), vs = [.ref b, .int m] ∧ BoxAt H b n ∧ n < 1000000 ∧ 0 ≤ m ∧ m ≤ 100 ∧
  ∀ (l : Addr) (as : List Addr) H', SameB b H H' → BoxAt H' b (n + 100) → l ≠ b → H l = none → H' l = some (.lst (as.map V.ref)) → as.length ≤ 12 → (∀ a ∈ as, PlA H' a) → Q (.ref l) H'
theorem scSlots : FnScope ["_law_box_here", "_law_many", "_law_found", "_law_k"] ["_law_box_here", "_law_many"] (defScope (topL 24)) := ⟨rfl, rfl, rfl, by decide +kernel, rfl, by decide +kernel, by decide +kernel⟩
theorem ok_slots {f : Addr} {fd : FuncData} (F : Fun K "_law_slots" "_law_slots" (topL 24) f fd) (B : Blt mg) (D_take : Dfn P w K mg base "_law_take" 1 ["_law_box_here", "_law_size"] spTake) (D_place : Dfn P w K mg base "_law_place" 2 ["_law_box_here", "_law_taken"] (spPlace K)) : FnOk P w K mg base CX0 3 f fd ["_law_box_here", "_law_many"] spSlots := by
  have nd := scSlots.nd
  refine F.ok scSlots (fun vs H Q E h => ?_) (fun cdv A outer s H vs Q E hr h => ?_)
  · obtain ⟨b, m, n, rfl, _⟩ := h
    rfl
  · obtain ⟨b, m, n, rfl, B0, hn, m0, m1, k⟩ := h
    have hbig : 100000 < sizeLine := by rw [sizeLine_eq]; decide
    have e62 : (2 : Int) ^ 62 = 4611686018427387904 := by decide
    refine ⟨_, (pss_cons (ps_set (i := 2) nd rfl (Or.inl rfl) (pe_lst pa_nil))
      (pss_cons (ps_for PassesOwn.never rfl (pi_range1 rfl B.range (pa_cons (pe_callB (call_min2 rfl) rfl B.min boot_min (pa_cons pe_int (pa_cons (pe_op op_add (pv 1) (pe_callD D_take (hr.mono (by first | decide | exact Nat.le_refl _ | omega)) rfl (pa_cons (pv 0) (pa_cons pe_int pa_nil)))) pa_nil))) pa_nil)) (pg_name (i := 3) nd rfl (Or.inl rfl))
      (pss_cons (ps_expr (pe_bm PySem.F.plainAttrs_list PySem.F.slot_list_append PySem.F.type_list_append mt_append (pv 2) (pa_cons (pe_callD D_place (hr.mono (by first | decide | exact Nat.le_refl _ | omega)) rfl (pa_cons (pv 0) (pa_cons (pe_lst pa_nil) pa_nil))) pa_nil)))
        (pss_one (ps_if (pt_cmpR op_eq (pe_callD D_take (hr.mono (by first | decide | exact Nat.le_refl _ | omega)) rfl (pa_cons (pv 0) (pa_cons pe_int pa_nil))) pe_int (nomark _))
        (pss_one (ps_asg (pe_ix ix_list (pv 2) (pe_callD D_take (hr.mono (by first | decide | exact Nat.le_refl _ | omega)) rfl (pa_cons (pv 0) (pa_cons (pe_callB call_len_seq rfl B.len boot_len (pa_cons (pv 2) pa_nil)) pa_nil))) (fun _ _ => rfl)) (pg_sub (pv 2) (pe_un un_neg pe_int) set_list)))
        pss_nil))))
      (pss_one (ps_ret (pv 2))))), ?_⟩
    refine ⟨le0, fun l hl => ?_⟩
    have S1 := (SameB.refl b H).new (o := .lst []) hl
    have B1 := B0.new (o := .lst []) hl
    have nl := B0.nne hl
    have L1 : upd H l (.lst []) l = some (.lst []) := upd_same
    generalize upd H l (.lst []) = H1 at S1 B1 L1
    refine ⟨_, rfl, _, rfl, b, 4, n, rfl, B1, by omega, by decide, by decide, fun r H2 r0 r1 B2 S2 => ⟨_, _, rfl, rfl, _, _, rfl, _, rfl, ?_, ?_, ?_⟩⟩
    · rw [e62]; split <;> omega
    · rw [e62]; split <;> omega
    have hN : (if (12 : Int) > m + r then m + r else 12).toNat ≤ 12 := by split <;> omega
    refine for_range (fun i σ H3 => ∃ (as : List Addr) (v3 : Option V), σ = [some (.ref b), some (.int m), some (.ref l), v3] ∧ SameB b H H3 ∧ BoxAt H3 b (n + 1 + 5 * i) ∧ H3 l = some (.lst (as.map V.ref)) ∧ as.length = i ∧ ∀ a ∈ as, PlA H3 a)
      ⟨[], _, rfl, S1.trans S2, B2.mono (by omega), S2 _ _ L1 nl, rfl, fun a h => nomatch h⟩ ?_ ?_
    · rintro i σ H3 hi ⟨as, v3, rfl, S3, B3, L3, al, pa⟩
      refine ⟨_, rfl, .inl ⟨rfl, _, SqL.of L3⟩, _, rfl, le0, fun e he => ?_⟩
      have ne := B3.nne he
      refine ⟨b, e, _, [], rfl, B3.new he, by omega, ne, upd_same, Nat.zero_le _, (fun a h => nomatch h), fun p H4 S4 B4 pN pP => ?_⟩
      have S34 := ((SameB.refl b H3).new (o := .lst (([] : List Addr).map V.ref)) he).trans S4
      have L4 := S34 _ _ L3 nl
      have pl : p ≠ l := fun z => by
        obtain ⟨x, y, e1, _⟩ := pP
        rw [z, L4] at e1
        cases e1
      have pa4 : ∀ a ∈ as, PlA H4 a := fun a ha => (pa a ha).draw B3 S34
      refine ⟨l, _, _, rfl, rfl, L4, by rw [List.length_map]; omega, ?_⟩
      have nal : ∀ a, PlA H4 a → a ≠ l := fun a h z => by
        obtain ⟨x, y, e1, _⟩ := h
        rw [z, L4] at e1
        cases e1
      have S5 : SameB b H (upd H4 l (.lst (as.map V.ref ++ [.ref p]))) := (S3.trans S34).put hl
      have B5 := B4.other (o := .lst (as.map V.ref ++ [.ref p])) nl
      have L5 : upd H4 l (.lst (as.map V.ref ++ [.ref p])) l = some (.lst ((as ++ [p]).map V.ref)) := by rw [upd_same, List.map_append]; rfl
      have pa5 : ∀ a ∈ as ++ [p], PlA (upd H4 l (.lst (as.map V.ref ++ [.ref p]))) a := fun a ha => by
        have h4 : PlA H4 a := by
          rcases List.mem_append.mp ha with z | z
          · exact pa4 a z
          · rw [List.mem_singleton.mp z]; exact pP
        exact h4.imp fun o ho => by rw [upd_ne (nal a h4)]; exact ho
      generalize upd H4 l (.lst (as.map V.ref ++ [.ref p])) = H5 at S5 B5 L5 pa5
      have al5 : (as ++ [p]).length = i + 1 := by rw [List.length_append, al]; rfl
      generalize as ++ [p] = as5 at L5 pa5 al5
      refine ⟨_, rfl, b, 5, _, rfl, B5, by omega, by decide, by decide, fun r5 H6 r50 r51 B6 S6 => ⟨rfl, _, rfl, ite2 (fun c => ?_) (fun c => ?_)⟩⟩
      · have L6 := S6 _ _ L5 nl
        refine ⟨_, rfl, _, rfl, _, rfl, l, _, rfl, .inl (SqL.of L6), b, _, _, rfl, B6, by omega, by rw [List.length_map]; omega, by rw [List.length_map]; omega, fun q H7 q0 q1 B7 S7 => ?_⟩
        have L7 := S7 _ _ L6 nl
        obtain ⟨v, ev, hv⟩ := atI_in (xs := as5.map V.ref) q0 q1
        rw [List.getElem?_map] at hv
        obtain ⟨a, ha, rfl⟩ := Option.map_eq_some_iff.mp hv
        refine ⟨l, _, _, _, rfl, rfl, SqL.of L7, ev, _, rfl, 1, rfl, l, _, _, i, rfl, rfl, L7, by rw [List.length_map, al5]; exact ixN_last i, ?_⟩
        have pa7 : ∀ a ∈ as5, PlA H7 a := fun a ha => ((pa5 a ha).draw B5 S6).draw B6 S7
        have nal7 : ∀ a, PlA H7 a → a ≠ l := fun a h z => by
          obtain ⟨x, y, e1, _⟩ := h
          rw [z, L7] at e1
          cases e1
        refine ⟨as5.set i a, _, rfl, ((S5.trans S6).trans S7).put hl, (B7.other nl).mono (by omega), by rw [upd_same, List.map_set], by rw [List.length_set]; exact al5, fun c hc => ?_⟩
        have hc7 : PlA H7 c := by
          rcases List.mem_or_eq_of_mem_set hc with z | z
          · exact pa7 c z
          · rw [z]; exact pa7 a (List.mem_of_getElem? ha)
        exact hc7.imp fun o ho => by rw [upd_ne (nal7 c hc7)]; exact ho
      · exact ⟨as5, _, rfl, S5.trans S6, B6.mono (by omega), S6 _ _ L5 nl, al5, fun a ha => (pa5 a ha).draw B5 S6⟩
    · rintro σ H3 ⟨as, v3, rfl, S3, B3, L3, al, pa⟩
      exact ⟨_, rfl, k l as H3 S3 (B3.mono (by omega)) nl hl L3 (by omega) pa⟩
end
end L2

set_option Elab.async false
set_option linter.all false
set_option maxRecDepth 100000
set_option maxHeartbeats 4000000
namespace L2
open PySem PySem.Spec PyProof.Rows
theorem ByOrd.mem1 {ord : List Nat} {as : List (Nat × Nat)} (h : ByOrd ord as) {p : Nat × Nat} (hp : p ∈ as) : p.1 ∈ ord := by
  obtain ⟨k, l, _, e, _⟩ := h p hp
  exact List.mem_of_getElem? e
theorem ByOrd.mem2 {ord : List Nat} {as : List (Nat × Nat)} (h : ByOrd ord as) {p : Nat × Nat} (hp : p ∈ as) : p.2 ∈ ord := by
  obtain ⟨k, l, _, _, e⟩ := h p hp
  exact List.mem_of_getElem? e
theorem shws_map {α : Type} {f : α → Dat} : ∀ {l : List α}, (∀ a ∈ l, (f a).shw = true) → Dat.shws (l.map f) = true
  | [], _ => rfl
  | a :: l, h => by
    show ((f a).shw && Dat.shws (l.map f)) = true
    rw [h a (by simp), shws_map fun b hb => h b (List.mem_cons_of_mem _ hb)]
    rfl
theorem blks_map {α : Type} {f : α → Dat} {c : Nat} : ∀ {l : List α}, (∀ a ∈ l, (f a).blk ≤ c) → Dat.blks (l.map f) ≤ (c + 1) * l.length
  | [], _ => Nat.zero_le _
  | a :: l, h => by
    show (f a).blk + 1 + Dat.blks (l.map f) ≤ _
    have h1 := h a (by simp)
    have h2 := blks_map (f := f) (c := c) (l := l) fun b hb => h b (List.mem_cons_of_mem _ hb)
    rw [List.length_cons, Nat.mul_succ]
    omega
theorem deps_map {α : Type} {f : α → Dat} {c : Nat} (h : ∀ a, (f a).py.depth ≤ c) : ∀ l : List α, PyData.depthAll (Dat.pys (l.map f)) ≤ c
  | [] => Nat.zero_le _
  | a :: l => by
    have h1 := h a
    have h2 := deps_map h l
    show max (PyData.depth (f a).py) (PyData.depthAll (Dat.pys (l.map f))) ≤ c
    omega
theorem int_shw {i : Int} (h : -1000000 ≤ i) (h' : i ≤ 1000000) : Dat.shw (.int i) = true := decide_eq_true (by omega)
theorem nm_shw {x : Str} (h : Nm x) : Dat.shw (.str x) = true := List.all_eq_true.mpr fun c hc => decide_eq_true (h.2 c hc)
theorem nm_blk {x : Str} (h : Nm x) : Dat.blk (.str x) ≤ 8 := h.1
theorem pl_shw {x y : Int} (h : inP x y) : Dat.shw (.tup [.int x, .int y]) = true := by
  unfold inP at h
  show (Dat.shw (.int x) && (Dat.shw (.int y) && true)) = true
  rw [int_shw (by omega) (by omega), int_shw (by omega) (by omega)]
  rfl
theorem job_shw {J : Job} {ord : List Nat} (jo : JobOk J ord) : (jobD J).shw = true := by
  have hd0 := jo.hd0
  have hd1 := jo.hd1
  show (Dat.shw (.tup [.int J.gx, .int J.gy]) && (Dat.shw (.int J.hd) && (Dat.shws (J.fs.map feedD) && (Dat.shws (J.ps.map partD) && (Dat.shws (J.as.map pairD) && true))))) = true
  rw [pl_shw jo.gate, int_shw (by omega) (by omega), shws_map, shws_map, shws_map]
  · rfl
  · intro p hp
    have h1 := List.mem_range.mp (jo.op.mem_iff.mp (jo.bo.mem1 hp))
    have h2 := List.mem_range.mp (jo.op.mem_iff.mp (jo.bo.mem2 hp))
    have pl := jo.pl
    show (Dat.shw (.int (p.1 : Int)) && (Dat.shw (.int (p.2 : Int)) && true)) = true
    rw [int_shw (by omega) (by omega), int_shw (by omega) (by omega)]
    rfl
  · intro p hp
    obtain ⟨h1, h2, _⟩ := jo.pa p hp
    show (Dat.shw (.str p.k) && (Dat.shw (.tup [.int p.x, .int p.y]) && true)) = true
    rw [nm_shw h1, pl_shw h2]
    rfl
  · intro p hp
    obtain ⟨h1, h2, h3, h4⟩ := jo.fa p hp
    show (Dat.shw (.str p.k) && (Dat.shw (.tup [.int p.x, .int p.y]) && (Dat.shw (.int p.m) && true))) = true
    rw [nm_shw h1, pl_shw h2, int_shw (by omega) (by omega)]
    rfl
theorem job_blk {J : Job} {ord : List Nat} (jo : JobOk J ord) : (jobD J).blk ≤ 10000 := by
  have h1 := blks_map (f := feedD) (c := 20) (l := J.fs) fun p hp => by
    have := nm_blk (jo.fa p hp).1
    show Dat.blk (.str p.k) + 1 + (0 + 1 + (0 + 1 + 0) + 1 + (0 + 1 + 0)) ≤ 20
    omega
  have h2 := blks_map (f := partD) (c := 20) (l := J.ps) fun p hp => by
    have := nm_blk (jo.pa p hp).1
    show Dat.blk (.str p.k) + 1 + (0 + 1 + (0 + 1 + 0) + 1 + 0) ≤ 20
    omega
  have h3 := blks_map (f := pairD) (c := 20) (l := J.as) fun p hp => by
    show 0 + 1 + (0 + 1 + 0) ≤ 20
    omega
  have fl := jo.fl
  have pl := jo.pl
  have al := jo.al
  show 0 + 1 + (0 + 1 + 0) + 1 + (0 + 1 + (Dat.blks (J.fs.map feedD) + 1 + (Dat.blks (J.ps.map partD) + 1 + (Dat.blks (J.as.map pairD) + 1 + 0)))) ≤ 10000
  omega
theorem job_dep (J : Job) : (jobD J).py.depth ≤ 20 := by
  have h1 := deps_map (f := feedD) (c := 10) (fun p => by
    show PyData.depth (.tuple [.str p.k, .tuple [.int p.x, .int p.y], .int p.m]) ≤ 10
    simp [PyData.depth, PyData.depthAll]) J.fs
  have h2 := deps_map (f := partD) (c := 10) (fun p => by
    show PyData.depth (.tuple [.str p.k, .tuple [.int p.x, .int p.y]]) ≤ 10
    simp [PyData.depth, PyData.depthAll]) J.ps
  have h3 := deps_map (f := pairD) (c := 10) (fun p => by
    show PyData.depth (.tuple [.int p.1, .int p.2]) ≤ 10
    simp [PyData.depth, PyData.depthAll]) J.as
  show PyData.depth (.tuple [.tuple [.int J.gx, .int J.gy], .int J.hd, .tuple (Dat.pys (J.fs.map feedD)), .tuple (Dat.pys (J.ps.map partD)), .tuple (Dat.pys (J.as.map pairD))]) ≤ 20
  simp only [PyData.depth, PyData.depthAll]
  omega
def slotsD (J : Job) (qs : List (Int × Int)) : Dat := .lst [jobD J, .lst (qs.map plD)]
theorem slots_shw {J : Job} {ord : List Nat} {qs : List (Int × Int)} (jo : JobOk J ord) (hb : ∀ q ∈ qs, inB q) : (slotsD J qs).shw = true := by
  show ((jobD J).shw && (Dat.shws (qs.map plD) && true)) = true
  rw [job_shw jo, shws_map (f := plD) fun q hq => pl_shw (hb q hq)]
  rfl
theorem slots_blk {J : Job} {ord : List Nat} {qs : List (Int × Int)} (jo : JobOk J ord) (hl : qs.length ≤ 12) : (slotsD J qs).blk ≤ 1048576 := by
  have h1 := job_blk jo
  have h3 := blks_map (f := plD) (c := 5) (l := qs) fun p hp => by
    show 0 + 1 + (0 + 1 + 0) ≤ 5
    omega
  show (jobD J).blk + 1 + (Dat.blks (qs.map plD) + 1 + 0) ≤ _
  omega
theorem slots_dep (J : Job) (qs : List (Int × Int)) : (slotsD J qs).py.depth ≤ 60 := by
  have h1 := job_dep J
  have h3 := deps_map (f := plD) (c := 10) (fun p => by
    show PyData.depth (.tuple [.int p.1, .int p.2]) ≤ 10
    simp [PyData.depth, PyData.depthAll]) qs
  show PyData.depth (.list [(jobD J).py, .list (Dat.pys (qs.map plD))]) ≤ 60
  simp only [PyData.depth, PyData.depthAll]
  omega
theorem pls_of {K : PySem.W.Frag} {H : Hp} : ∀ (as : List Addr), (∀ a ∈ as, PlA H a) → ∃ qs : List (Int × Int), Reps K H (qs.map plD) (as.map V.ref) ∧ (∀ q ∈ qs, inB q) ∧ qs.length = as.length
  | [], _ => ⟨[], rfl, fun q h => (nomatch h), rfl⟩
  | a :: as, h => by
    obtain ⟨qs, h1, h2, h3⟩ := pls_of (K := K) as fun b hb => h b (List.mem_cons_of_mem _ hb)
    obtain ⟨x, y, e, r⟩ := h a (by simp)
    refine ⟨(x, y) :: qs, ⟨_, _, rfl, pl_rep (SqT.of e), h1⟩, fun q hq => ?_, by rw [List.length_cons, List.length_cons, h3]⟩
    rcases List.mem_cons.mp hq with rfl | hq
    · exact r
    · exact h2 q hq
section
variable {P : Program} {w : World} {K : PySem.W.Frag} {mg : Str → Option Value} {base : Heap}
def spRight : Sp := fun vs H Q _ => ∃ (b : Addr) (n : Int), vs = [.ref b] ∧ BoxAt H b n ∧ n < 1000 ∧ ∀ H', SameB b H H' → Q (.bl true) H'
theorem scRight : FnScope ["_law_box_here", "_law_job_here", "_law_kinds_here", "_law_slots_here", "_law_kept", "_law_turned", "_law_some", "_law_due", "_law_found", "_law_row"] ["_law_box_here"] (defScope (topL 26)) := ⟨rfl, rfl, rfl, by decide +kernel, rfl, by decide +kernel, by decide +kernel⟩
theorem ok_right {f : Addr} {fd : FuncData} (F : Fun K "_law_right" "_law_right" (topL 26) f fd) (B : Blt mg) (D_job : Dfn P w K mg base "_law_job" 4 ["_law_box_here", "_law_few", "_law_most", "_law_plenty"] (spJob K)) (D_kinds : Dfn P w K mg base "_law_kinds" 1 ["_law_job_here"] (spKinds K)) (D_slots : Dfn P w K mg base "_law_slots" 3 ["_law_box_here", "_law_many"] spSlots) (D_cost : Dfn P w K mg base "_law_cost" 2 ["_law_job_here", "_law_kind", "_law_slot"] (spCost K))
    (Dslot_costs : Dfn P w K mg base "slot_costs" 4 ["job", "slots"] (spCosts K)) (D_same : Dfn P w K mg base "_law_same" 3 ["_law_found", "_law_due"] (spS K 3)) : FnOk P w K mg base CX0 5 f fd ["_law_box_here"] spRight := by
  have nd := scRight.nd
  refine F.ok scRight (fun vs H Q E h => ?_) (fun cdv A outer s H vs Q E hr h => ?_)
  · obtain ⟨b, n, rfl, _⟩ := h
    rfl
  · obtain ⟨b, n, rfl, B0, hn, k⟩ := h
    have hu64 := hr.units
    have hu := hr.units0
    have hg := hr.gd
    have hbig : 100000 < sizeLine := by rw [sizeLine_eq]; decide
    refine ⟨_, (pss_cons (ps_set (i := 1) nd rfl (Or.inr rfl) (pe_callD D_job (hr.mono (by first | decide | exact Nat.le_refl _ | omega)) rfl (pa_cons (pv 0) (pa_cons pe_int (pa_cons pe_int (pa_cons pe_bl pa_nil))))))
      (pss_cons (ps_set (i := 2) nd rfl (Or.inl rfl) (pe_callD D_kinds (hr.mono (by first | decide | exact Nat.le_refl _ | omega)) rfl (pa_cons (pv 1) pa_nil)))
      (pss_cons (ps_set (i := 3) nd rfl (Or.inl rfl) (pe_callD D_slots (hr.mono (by first | decide | exact Nat.le_refl _ | omega)) rfl (pa_cons (pv 0) (pa_cons (pe_callB call_len_seq rfl B.len boot_len (pa_cons (pv 2) pa_nil)) pa_nil))))
      (pss_cons (ps_par (i := 4) (j := 5) rfl nd rfl rfl (by decide) rfl rfl (pa_cons (pe_callB (call_reprD hg hu64) rfl B.repr boot_repr (pa_cons (pe_lst (pa_cons (pv 1) (pa_cons (pv 3) pa_nil))) pa_nil)) (pa_cons (pe_rev (pv 3) (po_some (pe_un un_neg pe_int))) pa_nil)) (by rfl))
      (pss_cons (ps_for PassesOwn.never rfl (pi_tup (pe_tup (pa_cons (pv 3) (pa_cons (pv 5) (pa_cons (pv 3) pa_nil))))) (pg_name (i := 6) nd rfl (Or.inr rfl))
      (pss_cons (ps_lcX ["_law_job_here", "_law_some"] [1, 6] rfl rfl (by kernel_rfl) (pi_list (pv 2)) (fun C0 s0 H0 ex0 => pf_nil) (fun C0 s0 H0 ex0 => (pe_lc1 ["_law_job_here", "_law_kind"] [1, 0] rfl rfl (by kernel_rfl) (pi_listB (K := K) rfl (pv 2)) (fun C0 s0 H0 ex0 => pf_nil) (fun C0 s0 H0 ex0 => (pe_callD D_cost (hr.mono (by first | decide | exact Nat.le_refl _ | omega)) rfl (pa_cons (pv 1) (pa_cons (pv 2) (pa_cons (pv 0) pa_nil))))))) (pg_name (i := 7) nd rfl (Or.inl rfl)))
        (pss_cons (ps_set (i := 8) nd rfl (Or.inl rfl) (pe_callD Dslot_costs (hr.mono (by first | decide | exact Nat.le_refl _ | omega)) rfl (pa_cons (pv 1) (pa_cons (pv 6) pa_nil))))
        (pss_cons (ps_if (PW.pt (pw_or (pt_not (pt_val (pe_callD D_same (hr.mono (by first | decide | exact Nat.le_refl _ | omega)) rfl (pa_cons (pv 8) (pa_cons (pv 7) pa_nil))))) (pw_or (pt_cmpR op_ne (pe_callB (call_reprD hg hu64) rfl B.repr boot_repr (pa_cons (pe_lst (pa_cons (pv 1) (pa_cons (pv 3) pa_nil))) pa_nil)) (pv 4) (nomark _)) (pw_or1 (pt_cmpR (op_neRef hu) (pv 5) (pe_rev (pv 3) (po_some (pe_un un_neg pe_int))) (nomark _))))))
        (pss_one (ps_ret pe_bl))
        pss_nil)
        (pss_cons (ps_for PassesOwn.never rfl (pi_list (pv 8)) (pg_name (i := 9) nd rfl (Or.inl rfl))
        (pss_one (ps_expr (pe_bm PySem.F.plainAttrs_list PySem.F.slot_list_append PySem.F.type_list_append mt_append (pv 9) (pa_cons pe_int pa_nil)))))
        (pss_one (ps_expr (pe_bm0 PySem.F.plainAttrs_list PySem.F.slot_list_reverse PySem.F.type_list_reverse mt_reverse (pv 8)))))))))
      (pss_one (ps_ret pe_bl))))))), ?_⟩
    -- the job, its kinds, the slots
    refine ⟨_, rfl, b, 12, 60, n, true, rfl, B0, by omega, by decide, by decide, by decide, by decide, fun jp J ord H1 S1 B1 rj1 jo => ?_⟩
    refine ⟨_, rfl, jp, J, rfl, rj1, jo.pl, fun kl ms H2 hkl s2 K2 pw mm ml => ?_⟩
    have B2 := B1.same s2
    have nkl := B1.nne hkl
    refine ⟨_, rfl, _, rfl, kl, _, rfl, .inl (SqL.of K2), b, _, _, rfl, B2, by omega, by omega, by rw [List.length_map]; omega, fun sl as H3 S3 B3 nsl slN L3 al pa3 => ?_⟩
    have K3 := S3 _ _ K2 nkl
    have rj3 := (rj1.same s2).keep (SameT.draw B2 S3) (jobD_imm J)
    have S3' := (S1.trans (SameB.of s2)).trans S3
    obtain ⟨qs, rq3, hq, ql⟩ := pls_of (K := K) as pa3
    have shw := slots_shw jo hq
    have blk := slots_blk (qs := qs) jo (by omega)
    have dep := slots_dep J qs
    clear S1 B1 rj1 s2 B2 K2 S3 hkl
    have rep : ∀ (H' : Hp) (q : Addr), Same H3 H' → H' q = some (.lst [.ref jp, .ref sl]) → Rep K H' (slotsD J qs) (.ref q) := fun H' q s' e => ⟨q, _, rfl, SqL.of e, _, _, rfl, rj3.same s', _, _, rfl, ⟨sl, _, rfl, SqL.of (s' _ _ L3), rq3.same s'⟩, rfl⟩
    refine ⟨_, rfl, _, rfl, le2, fun q1 hq1 => ⟨.ref q1, slotsD J qs, rfl, rep _ q1 (same_upd hq1) upd_same, shw, blk, dep, ?_⟩⟩
    generalize hkept : (slotsD J qs).py.shown = kept
    have s4 := same_upd (H := H3) (o := .lst [.ref jp, .ref sl]) hq1
    generalize upd H3 q1 (.lst [.ref jp, .ref sl]) = H4 at s4
    refine ⟨_, rfl, 1, rfl, _, rfl, sl, _, rfl, rfl, SqL.of (s4 _ _ L3), fun tl htl => ⟨_, _, rfl, ?_⟩⟩
    have s5 := s4.trans (same_upd (o := .lst (as.map V.ref).reverse) htl)
    have T5 : upd H4 tl (.lst (as.map V.ref).reverse) tl = some (.lst (as.reverse.map V.ref)) := by rw [upd_same, List.map_reverse]
    generalize upd H4 tl (.lst (as.map V.ref).reverse) = H5 at s5 T5
    refine ⟨_, rfl, _, rfl, _, rfl, le3, fun T hT => ?_⟩
    have s6 := s5.trans (same_upd (o := .tup [.ref sl, .ref tl, .ref sl]) hT)
    have T6 := (same_upd (o := .tup [.ref sl, .ref tl, .ref sl]) hT) _ _ T5
    have U6 : upd H5 T (.tup [.ref sl, .ref tl, .ref sl]) T = some (.tup [.ref sl, .ref tl, .ref sl]) := upd_same
    generalize upd H5 T (.tup [.ref sl, .ref tl, .ref sl]) = H6 at s6 T6 U6
    have pa6 : ∀ a ∈ as, PlA H6 a := fun a ha => (pa3 a ha).imp fun o ho => s6 _ _ ho
    have all3 : ∀ (i : Nat) (x : V), [V.ref sl, V.ref tl, V.ref sl][i]? = some x → ∃ (s1 : Addr) (as1 : List Addr), x = .ref s1 ∧ H6 s1 = some (.lst (as1.map V.ref)) ∧ (∀ a ∈ as1, PlA H6 a) ∧ as1.length ≤ 12 := fun i x hx => by
      match i, hx with
      | 0, hx => cases hx; exact ⟨sl, as, rfl, s6 _ _ L3, pa6, al⟩
      | 1, hx => cases hx; exact ⟨tl, as.reverse, rfl, T6, fun a ha => pa6 a (List.mem_reverse.mp ha), by rw [List.length_reverse]; exact al⟩
      | 2, hx => cases hx; exact ⟨sl, as, rfl, s6 _ _ L3, pa6, al⟩
      | i + 3, hx => simp at hx
    refine ⟨T, rfl, ⟨_, SqT.of U6⟩, for_tup (K := K) (a := T) (xs := [V.ref sl, V.ref tl, V.ref sl]) (fun i σ H7 => ∃ v6 v7 v8 v9 : Option V, σ = [some (.ref b), some (.ref jp), some (.ref kl), some (.ref sl), some (.str kept), some (.ref tl), v6, v7, v8, v9] ∧ Same H6 H7) ⟨_, _, _, _, rfl, Same.refl _⟩ (fun i σ H7 _ ⟨_, _, _, _, _, s7⟩ => SqT.of (s7 _ _ U6)) ?_ ?_⟩
    · rintro i x σ H7 hx ⟨v6, v7, v8, v9, rfl, s7⟩
      obtain ⟨s1, as1, rfl, L1, pa1, al1⟩ := all3 i x hx
      have t7 := s6.trans s7
      obtain ⟨ps, rps, hb, plen⟩ := pls_of (K := K) as1 fun a ha => (pa1 a ha).imp fun o ho => s7 _ _ ho
      have L7 := s7 _ _ L1
      have K7 := t7 _ _ K3
      have rj7 := rj3.same t7
      have lv : (as1.map V.ref).length = ps.length := by rw [List.length_map, plen]
      -- the rows that are due
      refine ⟨_, rfl, kl, rfl, ⟨_, SqL.of K7⟩, lc_list (K := K) (a := kl) (xs := ms.map V.str) (fun i zs H8 => Rows H7 H8 ((ms.take i).map (rowI J ps)) zs ∧ Same H7 H8) ⟨Rows.nil, Same.refl _⟩ (fun i zs H8 ⟨_, s8⟩ => SqL.of (s8 _ _ K7)) ?_ ?_⟩
      · rintro i x zs H8 hx ⟨rw2, s8⟩
        rw [List.getElem?_map] at hx
        obtain ⟨kd, em, rfl⟩ := Option.map_eq_some_iff.mp hx
        have hi := (List.getElem?_eq_some_iff.mp em).1
        refine ⟨rfl, _, rfl, s1, rfl, ⟨_, SqL.of (s8 _ _ L7)⟩, lc_list (K := K) (a := s1) (xs := as1.map V.ref) (fun j ys H9 => ys = ((ps.take j).map (costI J kd)).map V.int ∧ Same H8 H9) ⟨rfl, Same.refl _⟩ (fun j ys H9 ⟨_, s9⟩ => SqL.of (s9 _ _ (s8 _ _ L7))) ?_ ?_⟩
        · rintro j y ys H9 hy ⟨rfl, s9⟩
          have t9 := s8.trans s9
          obtain ⟨dd, q1, r1⟩ := (rps.same t9).get hy
          rw [List.getElem?_map] at q1
          obtain ⟨q, eq, rfl⟩ := Option.map_eq_some_iff.mp q1
          have hj := (List.getElem?_eq_some_iff.mp eq).1
          refine ⟨rfl, _, rfl, _, rfl, _, rfl, jp, J, ord, kd, y, q, rfl, rj7.same t9, jo, r1, hb q (List.mem_of_getElem? eq), fun H10 s10 => ⟨?_, ?_, s9.trans s10⟩⟩
          · rw [List.length_map, List.length_map, List.length_take]; omega
          · rw [tk_snoc eq, List.map_append, List.map_append]
            rfl
        · rintro ys H9 ⟨rfl, s9⟩
          rw [lv, List.take_length]
          refine ⟨by rw [List.length_map, List.length_map]; omega, fun D hD => ⟨?_, ?_, s8.trans (s9.trans (same_upd hD))⟩⟩
          · rw [rw2.1, List.length_map, List.length_take]; omega
          · rw [tk_snoc em, List.map_append]
            exact (rw2.same (s9.trans (same_upd hD))).snoc (s8.none (s9.none hD)) upd_same
      rintro dz H8 ⟨rw8, s8⟩
      rw [List.length_map, List.take_length] at rw8
      refine ⟨by rw [rw8.1, List.length_map]; omega, fun dl hdl => ?_⟩
      have s9 := s8.trans (same_upd (o := .lst dz) hdl)
      have D9 : upd H8 dl (.lst dz) dl = some (.lst dz) := upd_same
      have rw9 := rw8.same (same_upd (o := .lst dz) hdl)
      generalize upd H8 dl (.lst dz) = H9 at s9 D9 rw9
      -- what the program says
      refine ⟨_, rfl, _, rfl, jp, s1, J, ord, ps, _, rfl, rj7.same s9, jo, s9 _ _ L7, rps.same s9, hb, by omega, fun l ms' zs H10 hl s10 L10 up mm' ml' rw10 => ?_⟩
      have em : ms' = ms := upS_eq up pw fun j => (mm' j).trans (mm j).symm
      subst em
      have t10 := s9.trans s10
      refine ⟨_, rfl, _, rfl, .lst ((ms'.map (rowI J ps)).map rowD), _, _, rfl, ⟨l, _, rfl, SqL.of L10, rw10.reps⟩, ⟨dl, _, rfl, SqL.of (s10 _ _ D9), (rw9.same s10).reps⟩, ⟨by rw [List.length_map, List.length_map]; omega, fun d hd => ?_⟩, fun H11 s11 => ⟨_, rfl, ?_⟩⟩
      · obtain ⟨x, hx, rfl⟩ := List.mem_map.mp hd
        obtain ⟨kd, _, rfl⟩ := List.mem_map.mp hx
        refine ⟨by show ((ps.map (costI J kd)).map Dat.int).length ≤ _; rw [List.length_map, List.length_map]; omega, fun d hd => ?_⟩
        obtain ⟨z, _, rfl⟩ := List.mem_map.mp hd
        exact True.intro
      have t11 := (t7.trans t10).trans s11
      refine ifF rfl ⟨_, rfl, _, rfl, le2, fun q2 hq2 => ⟨.ref q2, slotsD J qs, rfl, rep _ q2 (t11.trans (same_upd hq2)) upd_same, shw, blk, dep, ?_⟩⟩
      rw [hkept]
      refine ⟨_, rfl, rfl, _, rfl, ifF ?_ ?_⟩
      · rw [decide_eq_true rfl]; rfl
      · have s12 := s11.trans (same_upd (o := .lst [.ref jp, .ref sl]) hq2)
        have t12 := t11.trans (same_upd (o := .lst [.ref jp, .ref sl]) hq2)
        have u12 := (s7.trans t10).trans s12
        generalize upd H11 q2 (.lst [.ref jp, .ref sl]) = H12 at s12 t12 u12
        refine ⟨_, rfl, _, rfl, 1, rfl, _, rfl, sl, _, rfl, rfl, SqL.of (t12 _ _ L3), fun rl hrl => ⟨tl, rl, as.reverse, rfl, rfl, SqL.of ((same_upd hrl) _ _ (u12 _ _ T6)), SqL.of (by rw [upd_same, List.map_reverse]), _, rfl, ifF rfl ?_⟩⟩
        have s13 := s12.trans (same_upd (o := .lst (as.map V.ref).reverse) hrl)
        generalize upd H12 rl (.lst (as.map V.ref).reverse) = H13 at s13
        have L13 := s13 _ _ L10
        have nin : ∀ x ∈ zs, ∃ a, x = .ref a ∧ H9 a = none ∧ a ≠ l ∧ ∃ xs, H13 a = some (.lst xs) ∧ xs.length ≤ 100 := fun x hx => by
          obtain ⟨j, hj⟩ := List.mem_iff_getElem?.mp hx
          have hjl := (List.getElem?_eq_some_iff.mp hj).1
          have er : (ms'.map (rowI J ps))[j]? = some ((ms'.map (rowI J ps))[j]'(by rw [← rw10.1]; exact hjl)) := List.getElem?_eq_getElem _
          generalize (ms'.map (rowI J ps))[j]'(by rw [← rw10.1]; exact hjl) = r at er
          obtain ⟨a, e1, e2, e3⟩ := rw10.2 j r er
          rw [hj] at e1
          cases e1
          have hr2 : r.length ≤ 100 := by
            obtain ⟨kd, _, rfl⟩ := List.mem_map.mp (List.mem_of_getElem? er)
            show (ps.map _).length ≤ 100
            rw [List.length_map]; omega
          refine ⟨a, rfl, e2, fun z => ?_, _, s13 _ _ e3, by rw [List.length_map]; exact hr2⟩
          subst z
          rw [L10] at e3
          cases e3
          obtain ⟨v, _, hv⟩ := List.mem_map.mp hx
          cases hv
        have sH9 : Same H9 H13 := s10.trans s13
        have zl : zs.length ≤ 60 := by rw [rw10.1, List.length_map]; exact ml'
        refine ⟨_, rfl, l, rfl, ⟨_, SqL.of L13⟩, for_list (K := K) (a := l) (xs := zs) (fun i σ H14 => ∃ v9 : Option V, σ = [some (.ref b), some (.ref jp), some (.ref kl), some (.ref sl), some (.str kept), some (.ref tl), some (.ref s1), some (.ref dl), some (.ref l), v9] ∧ Same H9 H14 ∧ H14 l = some (.lst zs) ∧ ∀ x ∈ zs, ∃ a, x = .ref a ∧ H9 a = none ∧ a ≠ l ∧ ∃ xs, H14 a = some (.lst xs) ∧ xs.length ≤ 100 + i)
          ⟨_, rfl, sH9, L13, nin⟩ (fun i σ H14 _ ⟨_, _, _, L14, _⟩ => SqL.of L14) ?_ ?_⟩
        · rintro i' x σ H14 hx ⟨v9, rfl, s14, L14, al14⟩
          have hi' := (List.getElem?_eq_some_iff.mp hx).1
          obtain ⟨a, rfl, a9, al, xs, ea, el⟩ := al14 x (List.mem_of_getElem? hx)
          refine ⟨_, rfl, .inl ⟨rfl, _, SqL.of ea⟩, a, _, _, rfl, rfl, ea, by omega, ?_⟩
          refine ⟨_, rfl, fun c o z => by rw [upd_ne (ne_of_none z a9)]; exact s14 _ _ z, by rw [upd_ne (Ne.symm al)]; exact L14, fun y hy => ?_⟩
          obtain ⟨c, rfl, c9, cl, ys, ec, elc⟩ := al14 y hy
          refine ⟨c, rfl, c9, cl, ?_⟩
          by_cases z : c = a
          · subst z
            exact ⟨_, upd_same, by rw [List.length_append]; show xs.length + 1 ≤ _; omega⟩
          · exact ⟨ys, by rw [upd_ne z]; exact ec, by omega⟩
        · rintro σ H14 ⟨v9, rfl, s14, L14, _⟩
          refine ⟨_, rfl, .inl ⟨rfl, _, SqL.of L14⟩, l, _, rfl, rfl, L14, ?_⟩
          exact ⟨_, _, _, _, rfl, fun c o z => by rw [upd_ne (ne_of_none (s9 _ _ (s7 _ _ z)) hl)]; exact s14 _ _ (s9 _ _ (s7 _ _ z))⟩
    · rintro σ H7 ⟨v6, v7, v8, v9, rfl, s7⟩
      exact k _ (S3'.trans (SameB.of (s6.trans s7)))
end
end L2

set_option Elab.async false
set_option linter.all false
set_option maxRecDepth 100000
set_option maxHeartbeats 4000000
namespace L2
open PySem PySem.Spec PyProof.Rows
section
variable {P : Program} {w : World} {K : PySem.W.Frag} {mg : Str → Option Value} {base : Heap}
def spLaw (K : PySem.W.Frag) : Sp := fun vs H Q _ => ∃ (a : Addr) (ns : List Int), vs = [.ref a] ∧ SqL K H a (ns.map V.int) ∧ ns.length ≤ 63 ∧ ∀ H', Q (.bl true) H'
end
section
variable {P : Program} {w : World} {K : PySem.W.Frag} {mg : Str → Option Value} {base : Heap}
theorem scLaw : FnScope ["_law_script", "_law_cells"] ["_law_script"] (defScope (topL 27)) := ⟨rfl, rfl, rfl, by decide +kernel, rfl, by decide +kernel, by decide +kernel⟩
theorem ok_law {f : Addr} {fd : FuncData} (F : Fun K "law" "law" (topL 27) f fd) (B : Blt mg) (D_folded : Dfn P w K mg base "_law_folded" 1 ["_law_script", "_law_size"] (spFold K)) (D_box : Dfn P w K mg base "_law_box" 1 ["_law_script", "_law_k"] (spBox K))
    (D_right : Dfn P w K mg base "_law_right" 5 ["_law_box_here"] spRight) : FnOk P w K mg base CX0 6 f fd ["_law_script"] (spLaw K) := by
  have nd := scLaw.nd
  refine F.ok scLaw (fun vs H Q E h => ?_) (fun cdv A outer s H vs Q E hr h => ?_)
  · obtain ⟨a, ns, rfl, _⟩ := h
    rfl
  · obtain ⟨a, ns, rfl, hS, hlen, k⟩ := h
    refine ⟨_, (pss_cons (ps_set (i := 1) nd rfl (Or.inr rfl) (pe_callD D_folded (hr.mono (by first | decide | exact Nat.le_refl _ | omega)) rfl (pa_cons (pv 0) (pa_cons pe_int pa_nil))))
      (pss_one (ps_ret (pe_callB (call_allL rfl) rfl B.all boot_all (pa_cons (pe_lc1 ["_law_cells"] [1] rfl rfl (by kernel_rfl) (pi_range1 rfl B.range (pa_cons (pe_callB (call_max2 rfl) rfl B.max boot_max (pa_cons pe_int (pa_cons (pe_callB call_len_seq rfl B.len boot_len (pa_cons (pv 1) pa_nil)) pa_nil))) pa_nil)) (fun C0 s0 H0 ex0 => pf_nil) (fun C0 s0 H0 ex0 => (pe_callD D_right (hr.mono (by first | decide | exact Nat.le_refl _ | omega)) rfl (pa_cons (pe_callD D_box (hr.mono (by first | decide | exact Nat.le_refl _ | omega)) rfl (pa_cons (pv 1) (pa_cons (pv 0) pa_nil))) pa_nil)))) pa_nil))))), ?_⟩
    refine ⟨_, rfl, a, ns, 3, rfl, hS, hlen, by decide, by decide, fun p ms H1 s1 hp hm => ?_⟩
    have e62 : (2 : Int) ^ 62 = 4611686018427387904 := by decide
    have hl : (ms.map V.int).length ≤ 3 := by rw [List.length_map]; exact hm
    refine ⟨_, rfl, p, _, rfl, .inl hp, _, _, rfl, _, rfl, (by rw [e62]; split <;> omega), (by rw [e62]; split <;> omega), ?_⟩
    have hN : (if ((ms.map V.int).length : Int) > 2 then ((ms.map V.int).length : Int) else 2).toNat ≤ 3 := by split <;> omega
    have hbig : 100 < sizeLine := by rw [sizeLine_eq]; decide
    refine lc_range (fun i zs H2 => zs = List.replicate i (V.bl true) ∧ Same H1 H2) ⟨rfl, Same.refl _⟩ ?_ ?_
    · rintro i zs H2 hi ⟨rfl, sm⟩
      rw [Int.zero_add]
      refine ⟨rfl, ?_⟩
      refine ⟨_, rfl, _, rfl, p, ms, i, rfl, sm.seq hp, by omega, fun q o hq Bq => ⟨q, 0, rfl, Bq, by decide, fun H3 s3 => ⟨?_, ?_, fun c u e => ?_⟩⟩⟩
      · rw [List.length_replicate]; omega
      · rw [List.replicate_succ']
      · exact s3 c u ((same_upd hq) c u (sm c u e)) (ne_of_none (sm c u e) hq)
    · rintro zs H2 ⟨rfl, sm⟩
      refine ⟨by rw [List.length_replicate]; omega, fun D hD => ⟨D, List.replicate (if ((ms.map V.int).length : Int) > 2 then ((ms.map V.int).length : Int) else 2).toNat true, rfl, ?_, ?_⟩⟩
      · refine SqL.of ?_
        rw [upd_same, List.map_replicate]
      · have := k (upd H2 D (.lst (List.replicate (if ((ms.map V.int).length : Int) > 2 then ((ms.map V.int).length : Int) else 2).toNat (V.bl true))))
        simpa using this
end
end L2

set_option Elab.async false
set_option linter.all false
set_option maxRecDepth 100000
set_option maxHeartbeats 4000000
namespace L2
open PySem PySem.Spec PyProof.Rows
theorem all_mk {l : PySem.W.OpenLaw} {w : World} {K : PySem.W.Frag} {h : Heap} {mg : Str → Option Value} {fa : Addr} (X : K.In h) (G : h.Ns mainGlobals mg) (hfa : mg "law" = some (.ref fa))
    {f0 : Addr} {od0 an0 : Option Addr} {sl0 : Array (Option Value)} {oc0 kV0 dc0 pm0 cd0 ct0 : Value}
    {f1 : Addr} {od1 an1 : Option Addr} {sl1 : Array (Option Value)} {oc1 kV1 dc1 pm1 cd1 ct1 : Value}
    {f2 : Addr} {od2 an2 : Option Addr} {sl2 : Array (Option Value)} {oc2 kV2 dc2 pm2 cd2 ct2 : Value}
    {f3 : Addr} {od3 an3 : Option Addr} {sl3 : Array (Option Value)} {oc3 kV3 dc3 pm3 cd3 ct3 : Value}
    {f4 : Addr} {od4 an4 : Option Addr} {sl4 : Array (Option Value)} {oc4 kV4 dc4 pm4 cd4 ct4 : Value}
    {f5 : Addr} {od5 an5 : Option Addr} {sl5 : Array (Option Value)} {oc5 kV5 dc5 pm5 cd5 ct5 : Value}
    {f6 : Addr} {od6 an6 : Option Addr} {sl6 : Array (Option Value)} {oc6 kV6 dc6 pm6 cd6 ct6 : Value}
    {f7 : Addr} {od7 an7 : Option Addr} {sl7 : Array (Option Value)} {oc7 kV7 dc7 pm7 cd7 ct7 : Value}
    {f8 : Addr} {od8 an8 : Option Addr} {sl8 : Array (Option Value)} {oc8 kV8 dc8 pm8 cd8 ct8 : Value}
    {f9 : Addr} {od9 an9 : Option Addr} {sl9 : Array (Option Value)} {oc9 kV9 dc9 pm9 cd9 ct9 : Value}
    {f10 : Addr} {od10 an10 : Option Addr} {sl10 : Array (Option Value)} {oc10 kV10 dc10 pm10 cd10 ct10 : Value}
    {f11 : Addr} {od11 an11 : Option Addr} {sl11 : Array (Option Value)} {oc11 kV11 dc11 pm11 cd11 ct11 : Value}
    {f12 : Addr} {od12 an12 : Option Addr} {sl12 : Array (Option Value)} {oc12 kV12 dc12 pm12 cd12 ct12 : Value}
    {f13 : Addr} {od13 an13 : Option Addr} {sl13 : Array (Option Value)} {oc13 kV13 dc13 pm13 cd13 ct13 : Value}
    {f14 : Addr} {od14 an14 : Option Addr} {sl14 : Array (Option Value)} {oc14 kV14 dc14 pm14 cd14 ct14 : Value}
    {f15 : Addr} {od15 an15 : Option Addr} {sl15 : Array (Option Value)} {oc15 kV15 dc15 pm15 cd15 ct15 : Value}
    {f16 : Addr} {od16 an16 : Option Addr} {sl16 : Array (Option Value)} {oc16 kV16 dc16 pm16 cd16 ct16 : Value}
    {f17 : Addr} {od17 an17 : Option Addr} {sl17 : Array (Option Value)} {oc17 kV17 dc17 pm17 cd17 ct17 : Value}
    {f18 : Addr} {od18 an18 : Option Addr} {sl18 : Array (Option Value)} {oc18 kV18 dc18 pm18 cd18 ct18 : Value}
    {f19 : Addr} {od19 an19 : Option Addr} {sl19 : Array (Option Value)} {oc19 kV19 dc19 pm19 cd19 ct19 : Value}
    {f20 : Addr} {od20 an20 : Option Addr} {sl20 : Array (Option Value)} {oc20 kV20 dc20 pm20 cd20 ct20 : Value}
    {f21 : Addr} {od21 an21 : Option Addr} {sl21 : Array (Option Value)} {oc21 kV21 dc21 pm21 cd21 ct21 : Value}
    {f22 : Addr} {od22 an22 : Option Addr} {sl22 : Array (Option Value)} {oc22 kV22 dc22 pm22 cd22 ct22 : Value}
    {f23 : Addr} {od23 an23 : Option Addr} {sl23 : Array (Option Value)} {oc23 kV23 dc23 pm23 cd23 ct23 : Value}
    (a0 : PySem.W.nsIn K mainGlobals "way_between" = some (some (.ref f0))) (l0 : K.lookup f0 = some ⟨oc0, od0, .func (PySem.W.fnOf "way_between" "way_between" (defArgs (topL 1)) (defBody (topL 1)) (defScope (topL 1)) .none kV0 dc0 pm0 an0 cd0 ct0), sl0⟩) (c0 : PySem.W.codeIn K cd0 "way_between" = true) (k0 : PySem.W.keepIn K (.ref f0) = true)
    (a1 : PySem.W.nsIn K mainGlobals "length_of" = some (some (.ref f1))) (l1 : K.lookup f1 = some ⟨oc1, od1, .func (PySem.W.fnOf "length_of" "length_of" (defArgs (topL 2)) (defBody (topL 2)) (defScope (topL 2)) .none kV1 dc1 pm1 an1 cd1 ct1), sl1⟩) (c1 : PySem.W.codeIn K cd1 "length_of" = true) (k1 : PySem.W.keepIn K (.ref f1) = true)
    (a2 : PySem.W.nsIn K mainGlobals "wanted_of" = some (some (.ref f2))) (l2 : K.lookup f2 = some ⟨oc2, od2, .func (PySem.W.fnOf "wanted_of" "wanted_of" (defArgs (topL 4)) (defBody (topL 4)) (defScope (topL 4)) .none kV2 dc2 pm2 an2 cd2 ct2), sl2⟩) (c2 : PySem.W.codeIn K cd2 "wanted_of" = true) (k2 : PySem.W.keepIn K (.ref f2) = true)
    (a3 : PySem.W.nsIn K mainGlobals "slot_cost" = some (some (.ref f3))) (l3 : K.lookup f3 = some ⟨oc3, od3, .func (PySem.W.fnOf "slot_cost" "slot_cost" (defArgs (topL 6)) (defBody (topL 6)) (defScope (topL 6)) .none kV3 dc3 pm3 an3 cd3 ct3), sl3⟩) (c3 : PySem.W.codeIn K cd3 "slot_cost" = true) (k3 : PySem.W.keepIn K (.ref f3) = true)
    (a4 : PySem.W.nsIn K mainGlobals "slot_costs" = some (some (.ref f4))) (l4 : K.lookup f4 = some ⟨oc4, od4, .func (PySem.W.fnOf "slot_costs" "slot_costs" (defArgs (topL 7)) (defBody (topL 7)) (defScope (topL 7)) .none kV4 dc4 pm4 an4 cd4 ct4), sl4⟩) (c4 : PySem.W.codeIn K cd4 "slot_costs" = true) (k4 : PySem.W.keepIn K (.ref f4) = true)
    (a5 : PySem.W.nsIn K mainGlobals "_law_box" = some (some (.ref f5))) (l5 : K.lookup f5 = some ⟨oc5, od5, .func (PySem.W.fnOf "_law_box" "_law_box" (defArgs (topL 9)) (defBody (topL 9)) (defScope (topL 9)) .none kV5 dc5 pm5 an5 cd5 ct5), sl5⟩) (c5 : PySem.W.codeIn K cd5 "_law_box" = true) (k5 : PySem.W.keepIn K (.ref f5) = true)
    (a6 : PySem.W.nsIn K mainGlobals "_law_take" = some (some (.ref f6))) (l6 : K.lookup f6 = some ⟨oc6, od6, .func (PySem.W.fnOf "_law_take" "_law_take" (defArgs (topL 10)) (defBody (topL 10)) (defScope (topL 10)) .none kV6 dc6 pm6 an6 cd6 ct6), sl6⟩) (c6 : PySem.W.codeIn K cd6 "_law_take" = true) (k6 : PySem.W.keepIn K (.ref f6) = true)
    (a7 : PySem.W.nsIn K mainGlobals "_law_folded" = some (some (.ref f7))) (l7 : K.lookup f7 = some ⟨oc7, od7, .func (PySem.W.fnOf "_law_folded" "_law_folded" (defArgs (topL 11)) (defBody (topL 11)) (defScope (topL 11)) .none kV7 dc7 pm7 an7 cd7 ct7), sl7⟩) (c7 : PySem.W.codeIn K cd7 "_law_folded" = true) (k7 : PySem.W.keepIn K (.ref f7) = true)
    (a8 : PySem.W.nsIn K mainGlobals "_law_same" = some (some (.ref f8))) (l8 : K.lookup f8 = some ⟨oc8, od8, .func (PySem.W.fnOf "_law_same" "_law_same" (defArgs (topL 12)) (defBody (topL 12)) (defScope (topL 12)) .none kV8 dc8 pm8 an8 cd8 ct8), sl8⟩) (c8 : PySem.W.codeIn K cd8 "_law_same" = true) (k8 : PySem.W.keepIn K (.ref f8) = true)
    (a9 : PySem.W.nsIn K mainGlobals "_law_spelled" = some (some (.ref f9))) (l9 : K.lookup f9 = some ⟨oc9, od9, .func (PySem.W.fnOf "_law_spelled" "_law_spelled" (defArgs (topL 13)) (defBody (topL 13)) (defScope (topL 13)) .none kV9 dc9 pm9 an9 cd9 ct9), sl9⟩) (c9 : PySem.W.codeIn K cd9 "_law_spelled" = true) (k9 : PySem.W.keepIn K (.ref f9) = true)
    (a10 : PySem.W.nsIn K mainGlobals "_law_name" = some (some (.ref f10))) (l10 : K.lookup f10 = some ⟨oc10, od10, .func (PySem.W.fnOf "_law_name" "_law_name" (defArgs (topL 14)) (defBody (topL 14)) (defScope (topL 14)) .none kV10 dc10 pm10 an10 cd10 ct10), sl10⟩) (c10 : PySem.W.codeIn K cd10 "_law_name" = true) (k10 : PySem.W.keepIn K (.ref f10) = true)
    (a11 : PySem.W.nsIn K mainGlobals "_law_names" = some (some (.ref f11))) (l11 : K.lookup f11 = some ⟨oc11, od11, .func (PySem.W.fnOf "_law_names" "_law_names" (defArgs (topL 15)) (defBody (topL 15)) (defScope (topL 15)) .none kV11 dc11 pm11 an11 cd11 ct11), sl11⟩) (c11 : PySem.W.codeIn K cd11 "_law_names" = true) (k11 : PySem.W.keepIn K (.ref f11) = true)
    (a12 : PySem.W.nsIn K mainGlobals "_law_place" = some (some (.ref f12))) (l12 : K.lookup f12 = some ⟨oc12, od12, .func (PySem.W.fnOf "_law_place" "_law_place" (defArgs (topL 16)) (defBody (topL 16)) (defScope (topL 16)) .none kV12 dc12 pm12 an12 cd12 ct12), sl12⟩) (c12 : PySem.W.codeIn K cd12 "_law_place" = true) (k12 : PySem.W.keepIn K (.ref f12) = true)
    (a13 : PySem.W.nsIn K mainGlobals "_law_places" = some (some (.ref f13))) (l13 : K.lookup f13 = some ⟨oc13, od13, .func (PySem.W.fnOf "_law_places" "_law_places" (defArgs (topL 17)) (defBody (topL 17)) (defScope (topL 17)) .none kV13 dc13 pm13 an13 cd13 ct13), sl13⟩) (c13 : PySem.W.codeIn K cd13 "_law_places" = true) (k13 : PySem.W.keepIn K (.ref f13) = true)
    (a14 : PySem.W.nsIn K mainGlobals "_law_shuffled" = some (some (.ref f14))) (l14 : K.lookup f14 = some ⟨oc14, od14, .func (PySem.W.fnOf "_law_shuffled" "_law_shuffled" (defArgs (topL 18)) (defBody (topL 18)) (defScope (topL 18)) .none kV14 dc14 pm14 an14 cd14 ct14), sl14⟩) (c14 : PySem.W.codeIn K cd14 "_law_shuffled" = true) (k14 : PySem.W.keepIn K (.ref f14) = true)
    (a15 : PySem.W.nsIn K mainGlobals "_law_feeders" = some (some (.ref f15))) (l15 : K.lookup f15 = some ⟨oc15, od15, .func (PySem.W.fnOf "_law_feeders" "_law_feeders" (defArgs (topL 19)) (defBody (topL 19)) (defScope (topL 19)) .none kV15 dc15 pm15 an15 cd15 ct15), sl15⟩) (c15 : PySem.W.codeIn K cd15 "_law_feeders" = true) (k15 : PySem.W.keepIn K (.ref f15) = true)
    (a16 : PySem.W.nsIn K mainGlobals "_law_aheads" = some (some (.ref f16))) (l16 : K.lookup f16 = some ⟨oc16, od16, .func (PySem.W.fnOf "_law_aheads" "_law_aheads" (defArgs (topL 20)) (defBody (topL 20)) (defScope (topL 20)) .none kV16 dc16 pm16 an16 cd16 ct16), sl16⟩) (c16 : PySem.W.codeIn K cd16 "_law_aheads" = true) (k16 : PySem.W.keepIn K (.ref f16) = true)
    (a17 : PySem.W.nsIn K mainGlobals "_law_job" = some (some (.ref f17))) (l17 : K.lookup f17 = some ⟨oc17, od17, .func (PySem.W.fnOf "_law_job" "_law_job" (defArgs (topL 21)) (defBody (topL 21)) (defScope (topL 21)) .none kV17 dc17 pm17 an17 cd17 ct17), sl17⟩) (c17 : PySem.W.codeIn K cd17 "_law_job" = true) (k17 : PySem.W.keepIn K (.ref f17) = true)
    (a18 : PySem.W.nsIn K mainGlobals "_law_way" = some (some (.ref f18))) (l18 : K.lookup f18 = some ⟨oc18, od18, .func (PySem.W.fnOf "_law_way" "_law_way" (defArgs (topL 22)) (defBody (topL 22)) (defScope (topL 22)) .none kV18 dc18 pm18 an18 cd18 ct18), sl18⟩) (c18 : PySem.W.codeIn K cd18 "_law_way" = true) (k18 : PySem.W.keepIn K (.ref f18) = true)
    (a19 : PySem.W.nsIn K mainGlobals "_law_kinds" = some (some (.ref f19))) (l19 : K.lookup f19 = some ⟨oc19, od19, .func (PySem.W.fnOf "_law_kinds" "_law_kinds" (defArgs (topL 23)) (defBody (topL 23)) (defScope (topL 23)) .none kV19 dc19 pm19 an19 cd19 ct19), sl19⟩) (c19 : PySem.W.codeIn K cd19 "_law_kinds" = true) (k19 : PySem.W.keepIn K (.ref f19) = true)
    (a20 : PySem.W.nsIn K mainGlobals "_law_slots" = some (some (.ref f20))) (l20 : K.lookup f20 = some ⟨oc20, od20, .func (PySem.W.fnOf "_law_slots" "_law_slots" (defArgs (topL 24)) (defBody (topL 24)) (defScope (topL 24)) .none kV20 dc20 pm20 an20 cd20 ct20), sl20⟩) (c20 : PySem.W.codeIn K cd20 "_law_slots" = true) (k20 : PySem.W.keepIn K (.ref f20) = true)
    (a21 : PySem.W.nsIn K mainGlobals "_law_cost" = some (some (.ref f21))) (l21 : K.lookup f21 = some ⟨oc21, od21, .func (PySem.W.fnOf "_law_cost" "_law_cost" (defArgs (topL 25)) (defBody (topL 25)) (defScope (topL 25)) .none kV21 dc21 pm21 an21 cd21 ct21), sl21⟩) (c21 : PySem.W.codeIn K cd21 "_law_cost" = true) (k21 : PySem.W.keepIn K (.ref f21) = true)
    (a22 : PySem.W.nsIn K mainGlobals "_law_right" = some (some (.ref f22))) (l22 : K.lookup f22 = some ⟨oc22, od22, .func (PySem.W.fnOf "_law_right" "_law_right" (defArgs (topL 26)) (defBody (topL 26)) (defScope (topL 26)) .none kV22 dc22 pm22 an22 cd22 ct22), sl22⟩) (c22 : PySem.W.codeIn K cd22 "_law_right" = true) (k22 : PySem.W.keepIn K (.ref f22) = true)
    (a23 : PySem.W.nsIn K mainGlobals "law" = some (some (.ref f23))) (l23 : K.lookup f23 = some ⟨oc23, od23, .func (PySem.W.fnOf "law" "law" (defArgs (topL 27)) (defBody (topL 27)) (defScope (topL 27)) .none kV23 dc23 pm23 an23 cd23 ct23), sl23⟩) (c23 : PySem.W.codeIn K cd23 "law" = true) (k23 : PySem.W.keepIn K (.ref f23) = true)
    (z_abs : PySem.W.nsIn K mainGlobals "abs" = some none)
    (z_all : PySem.W.nsIn K mainGlobals "all" = some none)
    (z_divmod : PySem.W.nsIn K mainGlobals "divmod" = some none)
    (z_enumerate : PySem.W.nsIn K mainGlobals "enumerate" = some none)
    (z_int : PySem.W.nsIn K mainGlobals "int" = some none)
    (z_isinstance : PySem.W.nsIn K mainGlobals "isinstance" = some none)
    (z_len : PySem.W.nsIn K mainGlobals "len" = some none)
    (z_list : PySem.W.nsIn K mainGlobals "list" = some none)
    (z_max : PySem.W.nsIn K mainGlobals "max" = some none)
    (z_min : PySem.W.nsIn K mainGlobals "min" = some none)
    (z_range : PySem.W.nsIn K mainGlobals "range" = some none)
    (z_str : PySem.W.nsIn K mainGlobals "str" = some none)
    (z_tuple : PySem.W.nsIn K mainGlobals "tuple" = some none)
    (z_bool : PySem.W.nsIn K mainGlobals "bool" = some none)
    (z_zip : PySem.W.nsIn K mainGlobals "zip" = some none)
    (z_sum : PySem.W.nsIn K mainGlobals "sum" = some none)
    (z_any : PySem.W.nsIn K mainGlobals "any" = some none)
    (z_repr : PySem.W.nsIn K mainGlobals "repr" = some none)
    (z_sorted : PySem.W.nsIn K mainGlobals "sorted" = some none)
    (z_dict : PySem.W.nsIn K mainGlobals "dict" = some none)
    (z_set : PySem.W.nsIn K mainGlobals "set" = some none)
    : ∃ fd : FuncData, (∀ (s : Shared) (v : Value), BindsTo s fd ⟨[v], []⟩ [("_law_script", v)]) ∧ ∀ base : Heap, K.In base → base.Ns mainGlobals mg → FnOk l.prog w K mg base CX0 6 fa fd ["_law_script"] (spLaw K) := by
  have e := hfa.symm.trans (PySem.W.mg_of X G a23)
  cases e
  have B : Blt mg := ⟨PySem.W.mg_none_of X G z_abs, PySem.W.mg_none_of X G z_all, PySem.W.mg_none_of X G z_divmod, PySem.W.mg_none_of X G z_enumerate, PySem.W.mg_none_of X G z_int, PySem.W.mg_none_of X G z_isinstance, PySem.W.mg_none_of X G z_len, PySem.W.mg_none_of X G z_list, PySem.W.mg_none_of X G z_max, PySem.W.mg_none_of X G z_min, PySem.W.mg_none_of X G z_range, PySem.W.mg_none_of X G z_str, PySem.W.mg_none_of X G z_tuple, PySem.W.mg_none_of X G z_bool, PySem.W.mg_none_of X G z_zip, PySem.W.mg_none_of X G z_sum, PySem.W.mg_none_of X G z_any, PySem.W.mg_none_of X G z_repr, PySem.W.mg_none_of X G z_sorted, PySem.W.mg_none_of X G z_dict, PySem.W.mg_none_of X G z_set⟩
  have F0 := fun_mk (st := topL 1) l0 c0 k0
  have b0 := F0.binds (ps := ["one", "other"]) fun _ _ _ _ _ _ us hl => match us, hl with | [_, _], _ => rfl
  have F1 := fun_mk (st := topL 2) l1 c1 k1
  have b1 := F1.binds (ps := ["places"]) fun _ _ _ _ _ _ us hl => match us, hl with | [_], _ => rfl
  have F2 := fun_mk (st := topL 4) l2 c2 k2
  have b2 := F2.binds (ps := ["job"]) fun _ _ _ _ _ _ us hl => match us, hl with | [_], _ => rfl
  have F3 := fun_mk (st := topL 6) l3 c3 k3
  have b3 := F3.binds (ps := ["job", "kind", "slot"]) fun _ _ _ _ _ _ us hl => match us, hl with | [_, _, _], _ => rfl
  have F4 := fun_mk (st := topL 7) l4 c4 k4
  have b4 := F4.binds (ps := ["job", "slots"]) fun _ _ _ _ _ _ us hl => match us, hl with | [_, _], _ => rfl
  have F5 := fun_mk (st := topL 9) l5 c5 k5
  have b5 := F5.binds (ps := ["_law_script", "_law_k"]) fun _ _ _ _ _ _ us hl => match us, hl with | [_, _], _ => rfl
  have F6 := fun_mk (st := topL 10) l6 c6 k6
  have b6 := F6.binds (ps := ["_law_box_here", "_law_size"]) fun _ _ _ _ _ _ us hl => match us, hl with | [_, _], _ => rfl
  have F7 := fun_mk (st := topL 11) l7 c7 k7
  have b7 := F7.binds (ps := ["_law_script", "_law_size"]) fun _ _ _ _ _ _ us hl => match us, hl with | [_, _], _ => rfl
  have F8 := fun_mk (st := topL 12) l8 c8 k8
  have b8 := F8.binds (ps := ["_law_found", "_law_due"]) fun _ _ _ _ _ _ us hl => match us, hl with | [_, _], _ => rfl
  have F9 := fun_mk (st := topL 13) l9 c9 k9
  have b9 := F9.binds (ps := ["_law_number", "_law_size"]) fun _ _ _ _ _ _ us hl => match us, hl with | [_, _], _ => rfl
  have F10 := fun_mk (st := topL 14) l10 c10 k10
  have b10 := F10.binds (ps := ["_law_box_here", "_law_taken"]) fun _ _ _ _ _ _ us hl => match us, hl with | [_, _], _ => rfl
  have F11 := fun_mk (st := topL 15) l11 c11 k11
  have b11 := F11.binds (ps := ["_law_box_here", "_law_many"]) fun _ _ _ _ _ _ us hl => match us, hl with | [_, _], _ => rfl
  have F12 := fun_mk (st := topL 16) l12 c12 k12
  have b12 := F12.binds (ps := ["_law_box_here", "_law_taken"]) fun _ _ _ _ _ _ us hl => match us, hl with | [_, _], _ => rfl
  have F13 := fun_mk (st := topL 17) l13 c13 k13
  have b13 := F13.binds (ps := ["_law_box_here", "_law_many"]) fun _ _ _ _ _ _ us hl => match us, hl with | [_, _], _ => rfl
  have F14 := fun_mk (st := topL 18) l14 c14 k14
  have b14 := F14.binds (ps := ["_law_box_here", "_law_some"]) fun _ _ _ _ _ _ us hl => match us, hl with | [_, _], _ => rfl
  have F15 := fun_mk (st := topL 19) l15 c15 k15
  have b15 := F15.binds (ps := ["_law_box_here", "_law_kinds_here", "_law_parts", "_law_plenty"]) fun _ _ _ _ _ _ us hl => match us, hl with | [_, _, _, _], _ => rfl
  have F16 := fun_mk (st := topL 20) l16 c16 k16
  have b16 := F16.binds (ps := ["_law_box_here", "_law_many"]) fun _ _ _ _ _ _ us hl => match us, hl with | [_, _], _ => rfl
  have F17 := fun_mk (st := topL 21) l17 c17 k17
  have b17 := F17.binds (ps := ["_law_box_here", "_law_few", "_law_most", "_law_plenty"]) fun _ _ _ _ _ _ us hl => match us, hl with | [_, _, _, _], _ => rfl
  have F18 := fun_mk (st := topL 22) l18 c18 k18
  have b18 := F18.binds (ps := ["_law_one", "_law_other"]) fun _ _ _ _ _ _ us hl => match us, hl with | [_, _], _ => rfl
  have F19 := fun_mk (st := topL 23) l19 c19 k19
  have b19 := F19.binds (ps := ["_law_job_here"]) fun _ _ _ _ _ _ us hl => match us, hl with | [_], _ => rfl
  have F20 := fun_mk (st := topL 24) l20 c20 k20
  have b20 := F20.binds (ps := ["_law_box_here", "_law_many"]) fun _ _ _ _ _ _ us hl => match us, hl with | [_, _], _ => rfl
  have F21 := fun_mk (st := topL 25) l21 c21 k21
  have b21 := F21.binds (ps := ["_law_job_here", "_law_kind", "_law_slot"]) fun _ _ _ _ _ _ us hl => match us, hl with | [_, _, _], _ => rfl
  have F22 := fun_mk (st := topL 26) l22 c22 k22
  have b22 := F22.binds (ps := ["_law_box_here"]) fun _ _ _ _ _ _ us hl => match us, hl with | [_], _ => rfl
  have F23 := fun_mk (st := topL 27) l23 c23 k23
  refine ⟨PySem.W.fnOf "law" "law" (defArgs (topL 27)) (defBody (topL 27)) (defScope (topL 27)) .none kV23 dc23 pm23 an23 cd23 ct23, fun s v => .of_eq rfl, fun base _ _ => ?_⟩
  have D_way_between : Dfn l.prog w K mg base "way_between" 1 ["one", "other"] (spWay K) := ⟨_, _, ok_way F0 B, PySem.W.mg_of X G a0, k0, b0⟩
  have D_length_of : Dfn l.prog w K mg base "length_of" 2 ["places"] (spLen K) := ⟨_, _, ok_len F1 B D_way_between, PySem.W.mg_of X G a1, k1, b1⟩
  have D_wanted_of : Dfn l.prog w K mg base "wanted_of" 1 ["job"] (spWant K) := ⟨_, _, ok_want F2 B, PySem.W.mg_of X G a2, k2, b2⟩
  have D_slot_cost : Dfn l.prog w K mg base "slot_cost" 3 ["job", "kind", "slot"] (spCost K) := ⟨_, _, ok_cost F3 B D_length_of, PySem.W.mg_of X G a3, k3, b3⟩
  have D_slot_costs : Dfn l.prog w K mg base "slot_costs" 4 ["job", "slots"] (spCosts K) := ⟨_, _, ok_costs F4 B D_slot_cost D_wanted_of, PySem.W.mg_of X G a4, k4, b4⟩
  have D_law_box : Dfn l.prog w K mg base "_law_box" 1 ["_law_script", "_law_k"] (spBox K) := ⟨_, _, ok_box F5 B, PySem.W.mg_of X G a5, k5, b5⟩
  have D_law_take : Dfn l.prog w K mg base "_law_take" 1 ["_law_box_here", "_law_size"] (spTake) := ⟨_, _, ok_take F6 B, PySem.W.mg_of X G a6, k6, b6⟩
  have D_law_folded : Dfn l.prog w K mg base "_law_folded" 1 ["_law_script", "_law_size"] (spFold K) := ⟨_, _, ok_fold F7 B, PySem.W.mg_of X G a7, k7, b7⟩
  have D_law_same : Dfn l.prog w K mg base "_law_same" 3 ["_law_found", "_law_due"] (spS K 3) := ⟨_, _, ok_same F8 B (PySem.W.mg_of X G a8) b8 3, PySem.W.mg_of X G a8, k8, b8⟩
  have D_law_spelled : Dfn l.prog w K mg base "_law_spelled" 1 ["_law_number", "_law_size"] (spSpell) := ⟨_, _, ok_spell F9 B, PySem.W.mg_of X G a9, k9, b9⟩
  have D_law_name : Dfn l.prog w K mg base "_law_name" 2 ["_law_box_here", "_law_taken"] (spNam) := ⟨_, _, ok_nam F10 B D_law_take D_law_spelled, PySem.W.mg_of X G a10, k10, b10⟩
  have D_law_names : Dfn l.prog w K mg base "_law_names" 3 ["_law_box_here", "_law_many"] (spNames) := ⟨_, _, ok_names F11 B D_law_name, PySem.W.mg_of X G a11, k11, b11⟩
  have D_law_place : Dfn l.prog w K mg base "_law_place" 2 ["_law_box_here", "_law_taken"] (spPlace K) := ⟨_, _, ok_place F12 B D_law_take, PySem.W.mg_of X G a12, k12, b12⟩
  have D_law_places : Dfn l.prog w K mg base "_law_places" 3 ["_law_box_here", "_law_many"] (spPlaces) := ⟨_, _, ok_places F13 B D_law_place, PySem.W.mg_of X G a13, k13, b13⟩
  have D_law_shuffled : Dfn l.prog w K mg base "_law_shuffled" 2 ["_law_box_here", "_law_some"] (spShuf K) := ⟨_, _, ok_shuf F14 B D_law_take, PySem.W.mg_of X G a14, k14, b14⟩
  have D_law_feeders : Dfn l.prog w K mg base "_law_feeders" 3 ["_law_box_here", "_law_kinds_here", "_law_parts", "_law_plenty"] (spFeed K) := ⟨_, _, ok_feed F15 B D_law_take D_law_shuffled D_law_place, PySem.W.mg_of X G a15, k15, b15⟩
  have D_law_aheads : Dfn l.prog w K mg base "_law_aheads" 3 ["_law_box_here", "_law_many"] (spAheads K) := ⟨_, _, ok_aheads F16 B D_law_take D_law_shuffled, PySem.W.mg_of X G a16, k16, b16⟩
  have D_law_job : Dfn l.prog w K mg base "_law_job" 4 ["_law_box_here", "_law_few", "_law_most", "_law_plenty"] (spJob K) := ⟨_, _, ok_job F17 B D_law_take D_law_names D_law_place D_law_places D_law_feeders D_law_aheads, PySem.W.mg_of X G a17, k17, b17⟩
  have D_law_way : Dfn l.prog w K mg base "_law_way" 1 ["_law_one", "_law_other"] (spWay K) := ⟨_, _, ok_lway F18 B, PySem.W.mg_of X G a18, k18, b18⟩
  have D_law_kinds : Dfn l.prog w K mg base "_law_kinds" 1 ["_law_job_here"] (spKinds K) := ⟨_, _, ok_kinds F19 B, PySem.W.mg_of X G a19, k19, b19⟩
  have D_law_slots : Dfn l.prog w K mg base "_law_slots" 3 ["_law_box_here", "_law_many"] (spSlots) := ⟨_, _, ok_slots F20 B D_law_take D_law_place, PySem.W.mg_of X G a20, k20, b20⟩
  have D_law_cost : Dfn l.prog w K mg base "_law_cost" 2 ["_law_job_here", "_law_kind", "_law_slot"] (spCost K) := ⟨_, _, ok_lcost F21 B D_law_way, PySem.W.mg_of X G a21, k21, b21⟩
  have D_law_right : Dfn l.prog w K mg base "_law_right" 5 ["_law_box_here"] (spRight) := ⟨_, _, ok_right F22 B D_law_job D_law_kinds D_law_slots D_law_cost D_slot_costs D_law_same, PySem.W.mg_of X G a22, k22, b22⟩
  exact ok_law F23 B D_law_folded D_law_box D_law_right
theorem walk {l : PySem.W.OpenLaw} {q : Program} {loose : List Str} {XP : (Str → Option Value) → Heap → Prop} {YP : World → Heap → Prop} {d : DefRec} {K : Params → PySem.W.Frag} (hn : l.most = some 63) (hdf : d.params.defaults = [])
    (hY : ∀ (w : World) (h : Heap), YP w h → (K w.params).In h)
    (F : ∀ (w : World) (mg : Str → Option Value) (fa : Addr) (h : Heap), (K w.params).In h → h.Ns mainGlobals mg → mg d.name = some (.ref fa) →
      ∃ fd : FuncData, (∀ (s : Shared) (u : Value), BindsTo s fd ⟨[u], []⟩ [("_law_script", u)]) ∧ ∀ base : Heap, (K w.params).In base → base.Ns mainGlobals mg → FnOk l.prog w (K w.params) mg base CX0 6 fa fd ["_law_script"] (spLaw (K w.params))) :
    PySem.W.WalkO q loose XP YP l.row.toRowW d [] (fun f vs => PySem.call f vs) :=
  L2.walk_of (n := 63) (k := 6) (x := "_law_script") (CX := fun _ => CX0) (sp := fun w => spLaw (K w.params)) hn (by decide) hdf ⟨rfl, by decide, by decide, rfl⟩ hY F (fun _ _ a ns hl _ hS => ⟨a, ns, rfl, hS, hl, fun _ => rfl⟩) fun _ _ _ _ _ z => z
end L2
open PySem PySem.W PyProof.Rows
set_option maxRecDepth 100000 in
set_option maxHeartbeats 0 in
theorem PySem.Challenge.cw_pickboard_k35_costs_of_slots_holds : PySem.Challenge.rw_pickboard_k35_costs_of_slots.Holds := by
  w_on; o_law; k_head; (case hw => w_witness2)
  k_fill
  refine L2.walk (l := PySem.Challenge.rw_pickboard_k35_costs_of_slots) rfl rfl (fun w h Y => PySem.W.kIn_of Y) ?F
  case F =>
    intro w mg fa h KX G hmg
    refine' L2.all_mk KX G hmg ?a0 ?l0 ?c0 ?k0 ?a1 ?l1 ?c1 ?k1 ?a2 ?l2 ?c2 ?k2 ?a3 ?l3 ?c3 ?k3 ?a4 ?l4 ?c4 ?k4 ?a5 ?l5 ?c5 ?k5 ?a6 ?l6 ?c6 ?k6 ?a7 ?l7 ?c7 ?k7 ?a8 ?l8 ?c8 ?k8 ?a9 ?l9 ?c9 ?k9 ?a10 ?l10 ?c10 ?k10 ?a11 ?l11 ?c11 ?k11 ?a12 ?l12 ?c12 ?k12 ?a13 ?l13 ?c13 ?k13 ?a14 ?l14 ?c14 ?k14 ?a15 ?l15 ?c15 ?k15 ?a16 ?l16 ?c16 ?k16 ?a17 ?l17 ?c17 ?k17 ?a18 ?l18 ?c18 ?k18 ?a19 ?l19 ?c19 ?k19 ?a20 ?l20 ?c20 ?k20 ?a21 ?l21 ?c21 ?k21 ?a22 ?l22 ?c22 ?k22 ?a23 ?l23 ?c23 ?k23 ?z_abs ?z_all ?z_divmod ?z_enumerate ?z_int ?z_isinstance ?z_len ?z_list ?z_max ?z_min ?z_range ?z_str ?z_tuple ?z_bool ?z_zip ?z_sum ?z_any ?z_repr ?z_sorted ?z_dict ?z_set
    (case a0 => k_is)
    (case l0 => k_is)
    (case c0 => k_is)
    (case k0 => k_is)
    (case a1 => k_is)
    (case l1 => k_is)
    (case c1 => k_is)
    (case k1 => k_is)
    (case a2 => k_is)
    (case l2 => k_is)
    (case c2 => k_is)
    (case k2 => k_is)
    (case a3 => k_is)
    (case l3 => k_is)
    (case c3 => k_is)
    (case k3 => k_is)
    (case a4 => k_is)
    (case l4 => k_is)
    (case c4 => k_is)
    (case k4 => k_is)
    (case a5 => k_is)
    (case l5 => k_is)
    (case c5 => k_is)
    (case k5 => k_is)
    (case a6 => k_is)
    (case l6 => k_is)
    (case c6 => k_is)
    (case k6 => k_is)
    (case a7 => k_is)
    (case l7 => k_is)
    (case c7 => k_is)
    (case k7 => k_is)
    (case a8 => k_is)
    (case l8 => k_is)
    (case c8 => k_is)
    (case k8 => k_is)
    (case a9 => k_is)
    (case l9 => k_is)
    (case c9 => k_is)
    (case k9 => k_is)
    (case a10 => k_is)
    (case l10 => k_is)
    (case c10 => k_is)
    (case k10 => k_is)
    (case a11 => k_is)
    (case l11 => k_is)
    (case c11 => k_is)
    (case k11 => k_is)
    (case a12 => k_is)
    (case l12 => k_is)
    (case c12 => k_is)
    (case k12 => k_is)
    (case a13 => k_is)
    (case l13 => k_is)
    (case c13 => k_is)
    (case k13 => k_is)
    (case a14 => k_is)
    (case l14 => k_is)
    (case c14 => k_is)
    (case k14 => k_is)
    (case a15 => k_is)
    (case l15 => k_is)
    (case c15 => k_is)
    (case k15 => k_is)
    (case a16 => k_is)
    (case l16 => k_is)
    (case c16 => k_is)
    (case k16 => k_is)
    (case a17 => k_is)
    (case l17 => k_is)
    (case c17 => k_is)
    (case k17 => k_is)
    (case a18 => k_is)
    (case l18 => k_is)
    (case c18 => k_is)
    (case k18 => k_is)
    (case a19 => k_is)
    (case l19 => k_is)
    (case c19 => k_is)
    (case k19 => k_is)
    (case a20 => k_is)
    (case l20 => k_is)
    (case c20 => k_is)
    (case k20 => k_is)
    (case a21 => k_is)
    (case l21 => k_is)
    (case c21 => k_is)
    (case k21 => k_is)
    (case a22 => k_is)
    (case l22 => k_is)
    (case c22 => k_is)
    (case k22 => k_is)
    (case a23 => k_is)
    (case l23 => k_is)
    (case c23 => k_is)
    (case k23 => k_is)
    (case z_abs => k_is)
    (case z_all => k_is)
    (case z_divmod => k_is)
    (case z_enumerate => k_is)
    (case z_int => k_is)
    (case z_isinstance => k_is)
    (case z_len => k_is)
    (case z_list => k_is)
    (case z_max => k_is)
    (case z_min => k_is)
    (case z_range => k_is)
    (case z_str => k_is)
    (case z_tuple => k_is)
    (case z_bool => k_is)
    (case z_zip => k_is)
    (case z_sum => k_is)
    (case z_any => k_is)
    (case z_repr => k_is)
    (case z_sorted => k_is)
    (case z_dict => k_is)
    (case z_set => k_is)
