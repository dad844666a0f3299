import PyProof.Rows.All
import Wide.All
import OpenK.AllK
import Wide.FinOn
import Lean
import PyProof.EqAt
import PyProof.EqKinds
import PyProof.TupleCall
import PyProof.NeKinds
import PyProof.ReprRoads
import PyProof.ReprBulk
import PyProof.SumWalk
import PyProof.FString5
import PyProof.StrBlock2
import PyProof.StrBlockI
import PyProof.StrBlockH
import PyProof.StrWalks
import PyProof.StrLawsIn
import PyProof.AutoListH
import PyProof.CompUse
import PyProof.ListRange
import PyProof.CallFns
import PyProof.ListTruth
import PyProof.Rows.Range3
import PyProof.Ascii
import PySem.Challenge.RW_pickboard_k50_moves_spoilt_anywhere
set_option Elab.async false
set_option linter.all false
set_option maxRecDepth 100000
/-! THE HAND LAYER, for ints, bools, texts, own classes, LISTS and tuples (index, slices, in, append, pop ..), calls, loops. Paste it whole ahead of your own text; what your proof does not reach may be deleted. -/
namespace L2
open PySem PySem.Spec PyProof.Rows

abbrev Key := Sum Int Str
def keyIs : Key → Value → Bool
  | .inl k, v => Value.isInt k v
  | .inr x, v => Value.isStrOf x v
def keyH (w : World) : Key → Int
  | .inl k => hashInt k
  | .inr x => hashStr w x
theorem keyIs_shape : ∀ {k : Key} {v : Value}, keyIs k v = true → (∃ i t, k = Sum.inl i ∧ v = Value.int i t) ∨ (∃ x t, k = Sum.inr x ∧ v = Value.str x t)
  | .inl i, v, h => by
    obtain ⟨t, e⟩ := Value.isInt_shape (k := i) (v := v) h
    exact .inl ⟨i, t, rfl, e⟩
  | .inr x, v, h => by
    obtain ⟨t, e⟩ := Value.isStrOf_shape (x := x) (v := v) h
    exact .inr ⟨x, t, rfl, e⟩
theorem keyIs_int (i : Int) (t : Tok) : keyIs (.inl i) (.int i t) = true := by simp [keyIs, Value.isInt]
theorem keyIs_str (x : Str) (t : Tok) : keyIs (.inr x) (.str x t) = true := by simp [keyIs, Value.isStrOf]
theorem key_ll (a b : Int) : decide ((Sum.inl a : Key) = Sum.inl b) = (a == b) := by
  by_cases e : a = b
  · subst e; simp
  · have h : ¬ (Sum.inl a : Key) = Sum.inl b := fun q => e (Sum.inl.inj q)
    rw [decide_eq_false h]
    exact (beq_eq_false_iff_ne.mpr e).symm
theorem key_rr (a b : Str) : decide ((Sum.inr a : Key) = Sum.inr b) = decide (a = b) := by
  by_cases e : a = b
  · subst e; simp
  · have h : ¬ (Sum.inr a : Key) = Sum.inr b := fun q => e (Sum.inr.inj q)
    rw [decide_eq_false h, decide_eq_false e]
theorem key_lr (a : Int) (b : Str) : decide ((Sum.inl a : Key) = Sum.inr b) = false := decide_eq_false (fun q => nomatch q)
theorem key_rl (a : Str) (b : Int) : decide ((Sum.inr a : Key) = Sum.inl b) = false := decide_eq_false (fun q => nomatch q)

def mixKind (prog : Program) (w : World) : PySem.KeyKind prog w Key where
  is := keyIs
  hash := keyH w
  inj := fun v a b ha hb => by
    rcases keyIs_shape ha with ⟨i, t, rfl, rfl⟩ | ⟨x, t, rfl, rfl⟩
    · rcases keyIs_shape hb with ⟨j, u, rfl, e⟩ | ⟨y, u, rfl, e⟩
      · injection e with e1 _; rw [e1]
      · exact nomatch e
    · rcases keyIs_shape hb with ⟨j, u, rfl, e⟩ | ⟨y, u, rfl, e⟩
      · exact nomatch e
      · injection e with e1 _; rw [e1]
  byValue := fun k v h => by
    rcases keyIs_shape h with ⟨i, t, rfl, rfl⟩ | ⟨x, t, rfl, rfl⟩ <;> rfl
  pyHash := fun hv h => by
    rcases keyIs_shape hv with ⟨i, t, rfl, rfl⟩ | ⟨x, t, rfl, rfl⟩
    · exact wpAny_pyHash_int h
    · exact wpAny_pyHash_str h
  eqBool := fun hu hv h => by
    rcases keyIs_shape hu with ⟨i, t, rfl, rfl⟩ | ⟨x, t, rfl, rfl⟩
    · rcases keyIs_shape hv with ⟨j, u, rfl, rfl⟩ | ⟨y, u, rfl, rfl⟩
      · rw [key_ll] at h; exact wpAny_eqBool_int h
      · rw [key_lr] at h; exact SeqAt.EqAt.int_str i t y u _ _ _ _ h
    · rcases keyIs_shape hv with ⟨j, u, rfl, rfl⟩ | ⟨y, u, rfl, rfl⟩
      · rw [key_rl] at h; exact SeqAt.EqAt.str_int x t j u _ _ _ _ h
      · rw [key_rr] at h; exact wpAny_eqBool_str h
  «strs» := fun k x t v h => by
    rcases keyIs_shape h with ⟨i, u, rfl, e⟩ | ⟨y, u, rfl, e⟩
    · exact nomatch e
    · injection e with e1 _
      subst e1
      cases v <;> rfl

theorem mixKind_int (prog : Program) (w : World) (i : Int) (t : Tok) : (mixKind prog w).is (.inl i) (.int i t) = true := keyIs_int i t
theorem mixKind_str (prog : Program) (w : World) (x : Str) (t : Tok) : (mixKind prog w).is (.inr x) (.str x t) = true := keyIs_str x t
end L2

namespace L2
open PySem PySem.Spec PyProof.Rows

inductive V where
  | non | bl (b : Bool) | int (i : Int) | str (x : Str) | byt (b : Array UInt8) | flt (b : UInt64) | ref (a : Addr) | ty (n : String)
  deriving DecidableEq

def RelV : V → Value → Prop
  | .non, u => u = Value.none
  | .bl b, u => u = Value.bool b
  | .int i, u => ∃ t, u = Value.int i t
  | .str x, u => ∃ t, u = Value.str x t
  | .byt b, u => ∃ t, u = Value.bytes b t
  | .flt b, u => ∃ t, u = Value.float b t
  | .ref a, u => u = Value.ref a
  | .ty n, u => u = Value.type n

abbrev Vals : List V → List Value → Prop := Paired RelV
theorem Vals.length {xs : List V} {us : List Value} (r : Vals xs us) : xs.length = us.length := Paired.length r
theorem Vals.get : ∀ {xs : List V} {us : List Value} {i : Nat} {x : V}, Vals xs us → xs[i]? = some x → ∃ u, us[i]? = some u ∧ RelV x u
  | _, _, _, _, .nil, e => by simp at e
  | _, _, 0, _, .cons r _, e => by simp at e; subst e; exact ⟨_, rfl, r⟩
  | _, _, i + 1, x, .cons _ t, e => by
    obtain ⟨u, h1, h2⟩ := Vals.get (i := i) (x := x) t (by simpa using e)
    exact ⟨u, by simpa using h1, h2⟩
theorem Vals.set {x : V} {u : Value} (r : RelV x u) : ∀ {xs : List V} {us : List Value} (i : Nat), Vals xs us → Vals (xs.set i x) (us.set i u)
  | _, _, _, .nil => .nil
  | _, _, 0, .cons _ t => .cons r t
  | _, _, i + 1, .cons q t => .cons q (Vals.set r i t)
theorem Vals.append : ∀ {xs ys : List V} {us ws : List Value}, Vals xs us → Vals ys ws → Vals (xs ++ ys) (us ++ ws)
  | _, _, _, _, .nil, s => s
  | _, _, _, _, .cons r t, s => .cons r (Vals.append t s)
theorem Vals.take : ∀ {xs : List V} {us : List Value} (n : Nat), Vals xs us → Vals (xs.take n) (us.take n)
  | _, _, 0, _ => .nil
  | _, _, _ + 1, .nil => .nil
  | _, _, n + 1, .cons r t => .cons r (Vals.take n t)
theorem Vals.drop : ∀ {xs : List V} {us : List Value} (n : Nat), Vals xs us → Vals (xs.drop n) (us.drop n)
  | _, _, 0, r => r
  | _, _, _ + 1, .nil => .nil
  | _, _, n + 1, .cons _ t => Vals.drop n t
def RelO : Option V → Option Value → Prop
  | some v, some u => RelV v u
  | none, none => True
  | _, _ => False
def KV {κ : Type} : List (κ × V) → List (κ × Value) → Prop := Paired fun (p : κ × V) (q : κ × Value) => p.1 = q.1 ∧ RelV p.2 q.2

def kV : Key → V
  | .inl i => .int i
  | .inr x => .str x

inductive HO where
  /-- a list -/
  | lst (xs : List V)
  /-- a tuple (never changes) -/
  | tup (xs : List V)
  /-- a dict whose keys are ints and texts; one whose keys are tuples of ints and texts (the empty one is both) -/
  | dK (kvs : List (Key × V)) | dT (kvs : List (List Key × V))
  /-- a set of ints: its members, its size -/
  | set (S : Int → Bool) (n : Nat)
  /-- an instance of the class at C, its dict at dx, its attributes -/
  | ins (C dx : Addr) (fs : List (Str × V))
  /-- the dict of the instance at x -/
  | own (x : Addr)
  /-- the dict of an exception -/
  | xd (fs : List (Str × V))
  /-- a bound method, f of x -/
  | met (f x : Addr)
  /-- a range object lo, lo + 1, .. below hi -/
  | rng (lo hi : Int)
  /-- a thing that is known to the object (the script; a dict while a loop walks it): read, never written while it is so -/
  | frz (o : Obj) (u : HO)
  /-- a code object's table -/
  | tbl (ps : Array Value)
  /-- any other thing, by what is true of its one object (a def of one's own: SetO a S n := HO.ext fun h => ..) -/
  | ext (φ : Heap → Prop)

abbrev Hp := Addr → Option HO
def upd (H : Hp) (a : Addr) (o : HO) : Hp := fun b => if b = a then some o else H b
theorem upd_same {H : Hp} {a : Addr} {o : HO} : upd H a o a = some o := by unfold upd; rw [if_pos rfl]
theorem upd_ne {H : Hp} {a b : Addr} {o : HO} (h : b ≠ a) : upd H a o b = H b := by unfold upd; rw [if_neg h]
theorem ne_of {H : Hp} {a b : Addr} {o u : HO} (h : H a = some o) (h' : H b = some u) (d : o ≠ u) : a ≠ b := by
  intro e; subst e; rw [h] at h'; exact d (Option.some.inj h')
theorem ne_of_none {H : Hp} {a b : Addr} {o : HO} (h : H a = some o) (h' : H b = none) : a ≠ b := by
  intro e; subst e; rw [h] at h'; cases h'

section
variable (P : Program) (w : World)
def ObjOk (H : Hp) (h : Heap) (a : Addr) : HO → Prop
  | .lst xs => xs.length ≤ sizeLine ∧ ∃ (its : List Value) (n : Nat), Vals xs its ∧ h.get? a = some { cls := .type "list", data := .seq its.toArray n }
  | .tup xs => xs.length ≤ sizeLine ∧ ∃ its : List Value, Vals xs its ∧ IsTup h a its.toArray
  | .dK kvs => kvs.length ≤ sizeLine ∧ (a == sysModules) = false ∧ ∃ vs, KV kvs vs ∧ h.DictOf (mixKind P w) a vs
  | .dT kvs => kvs.length ≤ sizeLine ∧ (a == sysModules) = false ∧ ∃ xs : List (List Key × Addr × Value),
      Paired (fun (p : List Key × V) (q : List Key × Addr × Value) => p.1 = q.1 ∧ H q.2.1 = some (.tup (p.1.map kV)) ∧ RelV p.2 q.2.2) kvs xs ∧
      ∃ o es ep, h.get? a = some o ∧ o.ExactDict ∧ o.data = .dict es ep ∧ es.toList = xs.map (entryOfKey (tupleKind (mixKind P w))) ∧ (xs.map (·.1)).Nodup
  | .set S n => h.SetOf (intKind P w) a S n
  | .ins C dx fs => H dx = some (.own a) ∧ fs.length ≤ 1000 ∧ dx ≠ a ∧ h.get? a = some (PySem.W.instObj C dx) ∧
      ∃ mA, h.Ns1 dx mA ∧ (∀ f, RelO (fs.lookup f) (mA f)) ∧ PySem.Within mA (fs.map (·.1))
  | .own _ => ∃ o, h.get? a = some o
  | .xd fs => ∃ mA, h.Ns1 a mA ∧ ∀ f, RelO (fs.lookup f) (mA f)
  | .rng lo hi => ∃ t u v, h.get? a = some { cls := .type "range", data := .fields #[.int lo t, .int hi u, .int 1 v] }
  | .frz o u => h.get? a = some o ∧ ObjOk H h a u
  | .tbl ps => h.get? a = some { cls := .none, data := .fields ps }
  | .met f x => h.get? a = some (PySem.W.methodObj (.ref f) (.ref x))
  | .ext φ => φ h ∧ (∃ o, h.get? a = some o) ∧ ∀ h1 h2 : Heap, φ h1 → (∀ o, h1.get? a = some o → h2.get? a = some o) → φ h2
def HOk (H : Hp) (h : Heap) : Prop := ∀ a o, H a = some o → ObjOk P w H h a o
end

section
variable {P : Program} {w : World} {H H' : Hp} {h h' : Heap} {a : Addr} {o : HO}
theorem ObjOk.lt (x : ObjOk P w H h a o) : a < h.objs.size := by
  cases o with
  | lst xs => obtain ⟨_, _, _, _, e⟩ := x; exact Heap.lt_size e
  | tup xs => obtain ⟨_, _, _, p⟩ := x; exact p.lt
  | dK kvs => obtain ⟨_, _, _, _, o, _, _, e, _⟩ := x; exact Heap.lt_size e
  | dT kvs => obtain ⟨_, _, _, _, o, _, _, e, _⟩ := x; exact Heap.lt_size e
  | set S n => obtain ⟨o, _, _, _, e, _⟩ := x; exact Heap.lt_size e
  | ins C dx fs => obtain ⟨_, _, _, e, _⟩ := x; exact Heap.lt_size e
  | own y => obtain ⟨_, e⟩ := x; exact Heap.lt_size e
  | xd fs => obtain ⟨_, ⟨_, _, _, e, _⟩, _⟩ := x; exact Heap.lt_size e
  | rng lo hi => obtain ⟨_, _, _, e⟩ := x; exact Heap.lt_size e
  | frz ob u => obtain ⟨e, _⟩ := x; exact Heap.lt_size e
  | tbl ps => exact Heap.lt_size (show h.get? a = some _ from x)
  | met f y => exact Heap.lt_size (show h.get? a = some _ from x)
  | ext φ => obtain ⟨_, ⟨_, e⟩, _⟩ := x; exact Heap.lt_size e
theorem Paired.mapP {α β : Type} {F G : α → β → Prop} : ∀ {l₁ : List α} {l₂ : List β}, Paired F l₁ l₂ → (∀ a b, F a b → G a b) → Paired G l₁ l₂
  | _, _, .nil, _ => .nil
  | _, _, .cons r t, f => .cons (f _ _ r) (Paired.mapP t f)
theorem ObjOk.stay (x : ObjOk P w H h a o) (k : ∀ b u, (b = a ∨ H b = some (.own a)) → h.get? b = some u → h'.get? b = some u)
    (ho : ∀ b, H b = some (.own a) → H' b = some (.own a)) (ht : ∀ b xs, H b = some (.tup xs) → H' b = some (.tup xs)) : ObjOk P w H' h' a o := by
  induction o with
  | lst xs => obtain ⟨z, its, n, r, e⟩ := x; exact ⟨z, its, n, r, k _ _ (.inl rfl) e⟩
  | tup xs => obtain ⟨z, its, r, ob, e, c⟩ := x; exact ⟨z, its, r, ob, k _ _ (.inl rfl) e, c⟩
  | dK kvs => obtain ⟨z, y, vs, r, ob, es, ep, e, c⟩ := x; exact ⟨z, y, vs, r, ob, es, ep, k _ _ (.inl rfl) e, c⟩
  | dT kvs =>
    obtain ⟨z, y, xs, r, ob, es, ep, e, c⟩ := x
    exact ⟨z, y, xs, Paired.mapP r fun p q z => ⟨z.1, ht _ _ z.2.1, z.2.2⟩, ob, es, ep, k _ _ (.inl rfl) e, c⟩
  | set S n => obtain ⟨ob, es, ep, t, e, c⟩ := x; exact ⟨ob, es, ep, t, k _ _ (.inl rfl) e, c⟩
  | ins C dx fs =>
    obtain ⟨d, z, ne, e, mA, ⟨od, es, ep, e2, c⟩, r⟩ := x
    exact ⟨ho _ d, z, ne, k _ _ (.inl rfl) e, mA, ⟨od, es, ep, k _ _ (.inr d) e2, c⟩, r⟩
  | own y => obtain ⟨ob, e⟩ := x; exact ⟨ob, k _ _ (.inl rfl) e⟩
  | xd fs => obtain ⟨mA, ⟨od, es, ep, e, c⟩, r⟩ := x; exact ⟨mA, ⟨od, es, ep, k _ _ (.inl rfl) e, c⟩, r⟩
  | rng lo hi => obtain ⟨t, u, v, e⟩ := x; exact ⟨t, u, v, k _ _ (.inl rfl) e⟩
  | frz ob u ih => obtain ⟨e, q⟩ := x; exact ⟨k _ _ (.inl rfl) e, ih q⟩
  | tbl ps =>
    have e : h.get? a = some { cls := .none, data := .fields ps } := x
    show h'.get? a = some { cls := .none, data := .fields ps }
    exact k a _ (.inl rfl) e
  | met f y =>
    have e : h.get? a = some (PySem.W.methodObj (.ref f) (.ref y)) := x
    show h'.get? a = some (PySem.W.methodObj (.ref f) (.ref y))
    exact k a _ (.inl rfl) e
  | ext φ => obtain ⟨p, ⟨o, e⟩, st⟩ := x; exact ⟨st _ _ p fun o q => k _ _ (.inl rfl) q, ⟨o, k _ _ (.inl rfl) e⟩, st⟩
theorem HOk.lt (x : HOk P w H h) (e : H a = some o) : a < h.objs.size := (x a o e).lt
theorem HOk.fresh (x : HOk P w H h) (e : h.objs.size ≤ a) : H a = none := by
  cases q : H a with
  | none => rfl
  | some u => exact absurd (Nat.lt_of_lt_of_le (x.lt q) e) (Nat.lt_irrefl _)
theorem HOk.kept (x : HOk P w H h) (k : ∀ b u, h.get? b = some u → h'.get? b = some u) : HOk P w H h' := fun a o e =>
  (x a o e).stay (fun b u _ q => k b u q) (fun _ q => q) fun _ _ q => q
theorem HOk.laid (x : HOk P w H h) (k : ∀ b u, h.get? b = some u → h'.get? b = some u) (hp : h.objs.size ≤ a) (new : ObjOk P w (upd H a o) h' a o) : HOk P w (upd H a o) h' := fun b u e => by
  have hn := x.fresh hp
  by_cases hb : b = a
  · subst hb; rw [upd_same] at e; cases e; exact new
  · rw [upd_ne hb] at e
    exact (x b u e).stay (fun c v _ q => k c v q) (fun c q => by rw [upd_ne (ne_of_none q hn)]; exact q) fun c xs q => by rw [upd_ne (ne_of_none q hn)]; exact q
end

def Rd (H : Hp) (a : Addr) (u : HO) : Prop := H a = some u ∨ ∃ o, H a = some (.frz o u)
theorem Rd.of {H : Hp} {a : Addr} {u : HO} (h : H a = some u) : Rd H a u := .inl h
theorem Rd.ok {P : Program} {w : World} {H : Hp} {h : Heap} {a : Addr} {u : HO} (r : Rd H a u) (x : HOk P w H h) : ObjOk P w H h a u := by
  rcases r with r | ⟨o, r⟩
  · exact x a u r
  · obtain ⟨_, q⟩ := x a _ r
    exact q
def Mut : Option HO → Prop
  | some (.lst _) => True
  | some (.dK _) => True
  | some (.dT _) => True
  | some (.set _ _) => True
  | some (.ins _ _ _) => True
  | some (.ext _) => True
  | _ => False
section
variable {P : Program} {w : World} {H : Hp} {h h' : Heap} {x e : Addr} {o' : HO}
theorem HOk.write (ok : HOk P w H h) (mu : Mut (H x)) (he : e = x ∨ H e = some (.own x)) (k : ∀ b u, b ≠ e → h.get? b = some u → h'.get? b = some u) (heo : ∃ u, h'.get? e = some u)
    (new : ObjOk P w (upd H x o') h' x o') : HOk P w (upd H x o') h' := fun b u q => by
  have nown : ∀ c y, H c = some (.own y) → c ≠ x := fun c y r z => by subst z; rw [r] at mu; exact mu
  have ntup : ∀ c xs, H c = some (.tup xs) → c ≠ x := fun c xs r z => by subst z; rw [r] at mu; exact mu
  by_cases hb : b = x
  · subst hb; rw [upd_same] at q; cases q; exact new
  · rw [upd_ne hb] at q
    by_cases hbe : b = e
    · have q' : H b = some (.own x) := by
        rcases he with z | z
        · exact absurd (hbe.trans z) hb
        · rw [hbe]; exact z
      rw [q] at q'; cases q'
      obtain ⟨v, hv⟩ := heo
      exact ⟨v, by rw [hbe]; exact hv⟩
    · refine (ok b u q).stay (fun c v hc r => k c v ?_ r) (fun c r => by rw [upd_ne (nown c b r)]; exact r) fun c xs r => by rw [upd_ne (ntup c xs r)]; exact r
      rcases hc with rfl | hc
      · exact hbe
      · rintro rfl
        rcases he with z | z
        · exact nown c b hc z
        · rw [hc] at z; cases z; exact hb rfl
end

/-! ### kept unless tracked; of the frames at fs (the callers') the slots may change (an exception that passes writes there); of the records at ex (iterators) nothing is said -/
structure Un (fs ex : List Addr) (H H' : Hp) (h h' : Heap) : Prop where
  keep : ∀ b o, h.get? b = some o → H b = none → b ∉ fs → b ∉ ex → h'.get? b = some o
  slot : ∀ b o, h.get? b = some o → H b = none → b ∈ fs → b ∉ ex → ∃ sl, h'.get? b = some { o with slots := sl }
  free : ∀ b o, h.get? b = some o → H b = none → b ∉ ex → H' b = none
  there : ∀ b o, h.get? b = some o → b ∉ ex → ∃ o', h'.get? b = some o'
  tups : ∀ b xs, H b = some (.tup xs) → H' b = some (.tup xs)
  frzs : ∀ b o u, H b = some (.frz o u) → H' b = some (.frz o u)
  tbls : ∀ b ps, H b = some (.tbl ps) → ∃ more, H' b = some (.tbl (ps ++ more))
section
variable {fs fs' ex ex' : List Addr} {H H1 H2 : Hp} {h h1 h2 h' : Heap} {a x e : Addr} {o : HO}
theorem Un.any (u : Un fs ex H H1 h h1) {b : Addr} {ob : Obj} (q : h.get? b = some ob) (n : H b = none) (hx : b ∉ ex) : ∃ sl, h1.get? b = some { ob with slots := sl } := by
  by_cases hb : b ∈ fs
  · exact u.slot b ob q n hb hx
  · exact ⟨ob.slots, u.keep b ob q n hb hx⟩
theorem Un.trans (a : Un fs ex H H1 h h1) (b : Un fs ex H1 H2 h1 h2) : Un fs ex H H2 h h2 where
  keep := fun c ob q n hc hx => b.keep c ob (a.keep c ob q n hc hx) (a.free c ob q n hx) hc hx
  slot := fun c ob q n hc hx => by
    obtain ⟨sl, e1⟩ := a.slot c ob q n hc hx
    obtain ⟨sl', e2⟩ := b.slot c _ e1 (a.free c ob q n hx) hc hx
    exact ⟨sl', e2⟩
  free := fun c ob q n hx => by
    obtain ⟨o', e1⟩ := a.there c ob q hx
    exact b.free c o' e1 (a.free c ob q n hx) hx
  there := fun c ob q hx => by
    obtain ⟨o', e1⟩ := a.there c ob q hx
    exact b.there c o' e1 hx
  tups := fun c xs q => b.tups c xs (a.tups c xs q)
  frzs := fun c ob xs q => b.frzs c ob xs (a.frzs c ob xs q)
  tbls := fun c ps q => by
    obtain ⟨m1, e1⟩ := a.tbls c ps q
    obtain ⟨m2, e2⟩ := b.tbls c _ e1
    exact ⟨m1 ++ m2, by rw [e2, Array.append_assoc]⟩
theorem Un.kept (k : ∀ b u, h.get? b = some u → h'.get? b = some u) : Un fs ex H H h h' :=
  ⟨fun b ob q _ _ _ => k b ob q, fun b ob q _ _ _ => ⟨ob.slots, k b ob q⟩, fun _ _ _ n _ => n, fun b ob q _ => ⟨ob, k b ob q⟩, fun _ _ q => q, fun _ _ _ q => q, fun _ ps q => ⟨#[], by rw [q]; simp⟩⟩
theorem Un.refl : Un fs ex H H h h := Un.kept fun _ _ q => q
theorem Un.laid (k : ∀ b u, h.get? b = some u → h'.get? b = some u) (hp : h.objs.size ≤ a) (hn : H a = none) : Un fs ex H (upd H a o) h h' where
  keep := fun b u q _ _ _ => k b u q
  slot := fun b u q _ _ _ => ⟨u.slots, k b u q⟩
  free := fun b u q n _ => by rw [upd_ne (Nat.ne_of_lt (Nat.lt_of_lt_of_le (Heap.lt_size q) hp))]; exact n
  there := fun b u q _ => ⟨u, k b u q⟩
  tups := fun b xs q => by rw [upd_ne (ne_of_none q hn)]; exact q
  frzs := fun b u xs q => by rw [upd_ne (ne_of_none q hn)]; exact q
  tbls := fun b ps q => ⟨#[], by rw [upd_ne (ne_of_none q hn), q]; simp⟩
theorem Un.write (mu : Mut (H x)) (he : e = x ∨ H e = some (.own x)) (k : ∀ b u, b ≠ e → h.get? b = some u → h'.get? b = some u) (heo : ∃ u, h'.get? e = some u) : Un fs ex H (upd H x o) h h' := by
  have hx : ∀ b, H b = none → b ≠ x := fun b n z => by subst z; rw [n] at mu; exact mu
  have hb : ∀ b, H b = none → b ≠ e := fun b n z => by
    subst z
    rcases he with r | r
    · exact hx b n r
    · rw [n] at r; cases r
  have hm : ∀ b u, H b = some u → ¬ Mut (some u) → b ≠ x := fun b u q nm z => by subst z; rw [q] at mu; exact nm mu
  refine ⟨fun b u q n _ _ => k b u (hb b n) q, fun b u q n _ _ => ⟨u.slots, k b u (hb b n) q⟩, fun b u q n _ => by rw [upd_ne (hx b n)]; exact n, fun b u q _ => ?_,
    fun b xs q => by rw [upd_ne (hm b _ q fun z => z)]; exact q, fun b u xs q => by rw [upd_ne (hm b _ q fun z => z)]; exact q, fun b ps q => ⟨#[], by rw [upd_ne (hm b _ q fun z => z), q]; simp⟩⟩
  by_cases hbe : b = e
  · subst hbe; exact heo
  · exact ⟨u, k b u hbe q⟩
theorem Un.mono (u : Un fs ex H H1 h h1) (hs : ∀ b ∈ fs, b ∈ fs') (hx : ∀ b ∈ ex, b ∈ ex') : Un fs' ex' H H1 h h1 :=
  ⟨fun b ob q n hb he => u.keep b ob q n (fun z => hb (hs b z)) fun z => he (hx b z), fun _ _ q n _ he => u.any q n fun z => he (hx _ z), fun b ob q n he => u.free b ob q n fun z => he (hx b z), fun b ob q he => u.there b ob q fun z => he (hx b z), u.tups, u.frzs, u.tbls⟩
end

/-! ### the heap without what is tracked -/
def trk (h : Heap) (H : Hp) : List Addr := (List.range h.objs.size).filter fun a => (H a).isSome
def hidT (h : Heap) (H : Hp) : Heap := PySem.W.hideAll h (trk h H)
theorem hidT_size (h : Heap) (H : Hp) : (hidT h H).objs.size = h.objs.size := PySem.W.hideAll_size _ _
theorem hidT_get {h : Heap} {H : Hp} {b : Addr} {o : Obj} (e : h.get? b = some o) (n : H b = none) : (hidT h H).get? b = some o :=
  PySem.W.hideAll_get _ e fun hm => by
    have q : (H b).isSome = true := (List.mem_filter.mp hm).2
    rw [n] at q; simp at q
theorem of_hidT {h : Heap} {H : Hp} {b : Addr} {o : Obj} (e : (hidT h H).get? b = some o) : h.get? b = some o ∧ H b = none := by
  have e' : h.get? b = some o := PySem.W.of_hideAll (trk h H) e
  refine ⟨e', ?_⟩
  cases q : H b with
  | none => rfl
  | some x =>
    have hm : b ∈ trk h H := List.mem_filter.mpr ⟨List.mem_range.mpr (Heap.lt_size e'), by simp [q]⟩
    have z : (hidT h H).get? b = none := PySem.W.hideAll_none (trk h H) hm
    rw [z] at e; cases e

/-! ### OpenK's ledger, filled with every new object but one -/
def allNews (g h : Heap) (L : Addr) : List (Addr × Obj) := (List.range h.objs.size).filterMap fun a => if a = L ∨ (g.get? a).isSome = true then none else (h.get? a).map fun o => (a, o)
def rest (g h : Heap) (L d : Addr) : List (Addr × Obj) := (allNews g h L).filter fun p => decide (p.1 ≠ d)
end L2

namespace L2
open PySem PySem.Spec PyProof.Rows

structure Mod (K : PySem.W.Frag) (mg : Str → Option Value) (base : Heap) : Prop where
  kin : K.In base
  glob : base.Ns mainGlobals mg
  blt : ∃ mb, base.Ns builtinsNs mb ∧ ∀ x : Str, x ≠ "__name__" → mb x = bootBuiltins x
  nolimit : base.NoLimit

structure Cx where
  prog : Program
  w : World
  K : PySem.W.Frag
  mg : Str → Option Value
  base : Heap
  A : Around
  N : List Str
  s₀ : Shared
  H₀ : Hp
  env : Env
  outer : List Env
  stack : List Env
  ex : List Addr
  fn : Str → Bool
  calm : Bool
  pn : List (Addr × Obj)
  xe : Value → Shared → Prop
def frs (l : List Env) : List Addr := l.filterMap (·.frame)
abbrev Cx.fs (X : Cx) : List Addr := frs X.outer

def Vis (sc : Scope) (x : Str) : Prop := sc.names.lookup x = some .local ∨ sc.names.lookup x = some .cell ∨ sc.names.lookup x = some .free
def Loc (sc : Scope) (x : Str) : Prop := sc.names.lookup x = some .local ∨ sc.names.lookup x = some .cell
def Look (env : Env) (h : Heap) (m : Str → Option Value) (x : Str) (u : Value) : Prop :=
  (env.kindOf x = some .local ∧ m x = some u) ∨ ((env.kindOf x = some .cell ∨ env.kindOf x = some .free) ∧ ∃ c, env.cells.lookup x = some c ∧ h.IsCell c (some u))

structure Cx.Ok (X : Cx) : Prop where
  mod : Mod X.K X.mg X.base
  kind : X.env.scope.kind = .function
  glob : X.env.globals = mainGlobals
  blt : X.env.builtins = builtinsNs
  above : X.s₀.heap.objs.size ≤ X.env.locals
  inj : ∀ x y c, X.env.cells.lookup x = some c → X.env.cells.lookup y = some c → x = y
  has : ∀ x, (X.env.kindOf x = some .cell ∨ X.env.kindOf x = some .free) → ∃ c, X.env.cells.lookup x = some c
  cab : ∀ x c, X.fn x = true → X.env.cells.lookup x = some c → X.s₀.heap.objs.size ≤ c
  hd : X.calm = true → X.A.handled = none
  frames : X.A.frames = some X.stack
  stk : X.stack = X.outer ∨ (X.stack = X.env :: X.outer ∧ X.env.frame = some X.env.locals)
  exf : ∀ b ∈ X.ex, b ≠ X.env.locals ∧ ∀ x c, X.env.cells.lookup x = some c → c ≠ b
  bs : ∀ b o, X.base.get? b = some o → X.s₀.heap.get? b = some o ∧ X.H₀ b = none
  bsz : X.base.objs.size ≤ X.s₀.heap.objs.size
  noex : ∀ b o, X.base.get? b = some o → b ∉ X.ex
  exfs : ∀ b ∈ X.ex, b ∉ X.fs
  funs : X.s₀.heap.FunFrames X.base X.outer
  frf : ∀ b ∈ X.fs, X.H₀ b = none

structure Inv (X : Cx) (pins : List (Addr × Obj)) (σ : List (Option V)) (H : Hp) (s : Shared) : Prop where
  ok : X.Ok
  os : s.os = X.s₀.os
  bare : AllBare s.gens
  base : Un X.fs X.ex X.H₀ H X.s₀.heap s.heap
  loc : ∃ m, s.heap.Ns X.env.locals m ∧ ∀ (i : Nat) (x : Str) (v : V), X.N[i]? = some x → σ[i]? = some (some v) → Vis X.env.scope x → ∃ u, RelV v u ∧ Look X.env s.heap m x u
  cell : ∀ x c, X.env.cells.lookup x = some c → ∃ v, s.heap.IsCell c v
  free : H X.env.locals = none
  freeC : ∀ x c, X.env.cells.lookup x = some c → H c = none
  pin : ∀ p ∈ X.pn ++ pins, s.heap.get? p.1 = some p.2 ∧ H p.1 = none ∧ p.1 ≠ X.env.locals ∧ p.1 ∉ X.fs ∧ ∀ v, p.2.data ≠ .cell v
  hok : HOk X.prog X.w H s.heap
  len : σ.length = X.N.length

section
variable {X : Cx} {pins : List (Addr × Obj)} {σ : List (Option V)} {H H' : Hp} {s : Shared} {h' : Heap}

theorem Cx.Ok.nofr (ok : X.Ok) {b : Addr} {o : Obj} (e : X.base.get? b = some o) : b ∉ X.fs := fun hb => by
  have := (ok.funs.mem hb).1
  rw [e] at this; cases this
theorem Inv.bs (I : Inv X pins σ H s) : ∀ b o, X.base.get? b = some o → s.heap.get? b = some o ∧ H b = none := fun b o e =>
  ⟨I.base.keep b o (I.ok.bs b o e).1 (I.ok.bs b o e).2 (I.ok.nofr e) (I.ok.noex b o e), I.base.free b o (I.ok.bs b o e).1 (I.ok.bs b o e).2 (I.ok.noex b o e)⟩
theorem Inv.bk (I : Inv X pins σ H s) : ∀ b o, X.base.get? b = some o → s.heap.get? b = some o := fun b o e => (I.bs b o e).1
theorem Inv.mod (I : Inv X pins σ H s) : Mod X.K X.mg X.base := I.ok.mod
theorem Inv.kIn (I : Inv X pins σ H s) : X.K.In s.heap := I.ok.mod.kin.keeps I.bk
theorem Inv.nolimit (I : Inv X pins σ H s) : s.heap.NoLimit := I.ok.mod.nolimit.keeps I.bk
theorem Inv.fr (I : Inv X pins σ H s) : ∃ m, Fr X.base X.env.locals s.heap m :=
  let ⟨m, hn, _⟩ := I.loc
  ⟨m, hn, I.bk, Nat.le_trans I.ok.bsz I.ok.above⟩
theorem Inv.lt (I : Inv X pins σ H s) : X.env.locals < s.heap.objs.size := let ⟨_, hn, _⟩ := I.loc; hn.lt
theorem Inv.sz (I : Inv X pins σ H s) : X.s₀.heap.objs.size ≤ s.heap.objs.size := Nat.le_trans I.ok.above (Nat.le_of_lt I.lt)
theorem Inv.nofs (I : Inv X pins σ H s) {a : Addr} (h : s.heap.objs.size ≤ a) : a ∉ X.fs := fun hb => by
  obtain ⟨_, o, ho, _⟩ := I.ok.funs.mem hb
  exact absurd (Nat.lt_of_lt_of_le (Heap.lt_size ho) (Nat.le_trans I.sz h)) (Nat.lt_irrefl _)
theorem Inv.cne (I : Inv X pins σ H s) : ∀ x c, X.env.cells.lookup x = some c → c ≠ X.env.locals := fun x c e z => by
  obtain ⟨v, o, ho, hd⟩ := I.cell x c e
  obtain ⟨m, ⟨o', es, ep, ho', hd', _⟩, _⟩ := I.loc
  rw [z, ho'] at ho; cases ho; rw [hd'] at hd; cases hd
theorem Inv.funs (I : Inv X pins σ H s) : s.heap.FunFrames X.base X.outer := by
  have all : ∀ (l : List Env), (∀ b ∈ frs l, b ∈ X.fs) → X.s₀.heap.FunFrames X.base l → s.heap.FunFrames X.base l := by
    intro l
    induction l with
    | nil => intro _ _; trivial
    | cons env r ih =>
      intro hs hl
      obtain ⟨hk, ⟨L, o, hf, hn, ho, hd⟩, hr⟩ := hl
      have hL : L ∈ X.fs := hs L (by unfold frs; rw [List.filterMap_cons, hf]; exact List.mem_cons_self)
      obtain ⟨sl, e⟩ := I.base.slot L o ho (I.ok.frf L hL) hL fun z => I.ok.exfs L z hL
      exact ⟨hk, ⟨L, _, hf, hn, e, hd⟩, ih (fun b hb => hs b (by unfold frs; rw [List.filterMap_cons, hf]; exact List.mem_cons_of_mem _ hb)) hr⟩
  exact all X.outer (fun _ hb => hb) I.ok.funs

theorem Inv.stack (I : Inv X pins σ H s) : s.heap.FunFrames X.base X.stack := by
  rcases I.ok.stk with e | ⟨e, hf⟩
  · rw [e]; exact I.funs
  · rw [e]
    obtain ⟨m, hn, _⟩ := I.loc
    refine .cons (by rw [I.ok.kind]; decide) hf hn ?_ I.funs
    exact Heap.get?_none_of_le (Nat.le_trans I.ok.bsz I.ok.above)
theorem Inv.stkSub (I : Inv X pins σ H s) : ∀ b ∈ frs X.stack, b ∈ X.env.locals :: X.fs := fun b hb => by
  rcases I.ok.stk with e | ⟨e, hf⟩
  · rw [e] at hb; exact List.mem_cons_of_mem _ hb
  · rw [e] at hb
    unfold frs at hb
    rw [List.filterMap_cons, hf] at hb
    exact hb
theorem Inv.stkFree (I : Inv X pins σ H s) : ∀ b ∈ frs X.stack, H b = none := fun b hb => by
  rcases List.mem_cons.mp (I.stkSub b hb) with e | hb
  · rw [e]; exact I.free
  · obtain ⟨_, o, ho, _⟩ := I.ok.funs.mem hb
    exact I.base.free b o ho (I.ok.frf b hb) fun z => I.ok.exfs b z hb

theorem Inv.step {g' : Array GenState} {t' : Nat} {d' : Drawn} {ch : List Addr} (I : Inv X pins σ H s)
    (hch : ∀ b ∈ ch, (b ∈ X.ex ∨ X.s₀.heap.objs.size ≤ b) ∧ b ≠ X.env.locals ∧ (∀ x c, X.env.cells.lookup x = some c → c ≠ b) ∧ ∀ p ∈ X.pn ++ pins, p.1 ≠ b)
    (keep : ∀ b o, b ≠ X.env.locals → b ∉ X.fs → b ∉ ch → s.heap.get? b = some o → H b = none → h'.get? b = some o)
    (slot : ∀ b o, b ≠ X.env.locals → b ∈ X.fs → b ∉ ch → s.heap.get? b = some o → H b = none → ∃ sl, h'.get? b = some { o with slots := sl }) (free : ∀ b o, b ∉ ch → s.heap.get? b = some o → H b = none → H' b = none)
    (there : ∀ b o, b ∉ ch → s.heap.get? b = some o → ∃ o', h'.get? b = some o')
    (tups : ∀ b xs, H b = some (.tup xs) → H' b = some (.tup xs)) (frzs : ∀ b o u, H b = some (.frz o u) → H' b = some (.frz o u)) (tbls : ∀ b ps, H b = some (.tbl ps) → ∃ more, H' b = some (.tbl (ps ++ more)))
    (ns : ∀ m, s.heap.Ns X.env.locals m → h'.Ns X.env.locals m) (hok : HOk X.prog X.w H' h') (hg : AllBare g') :
    Inv X pins σ H' { s with heap := h', gens := g', drawn := d', toks := t' } := by
  have neL : ∀ b o, X.s₀.heap.get? b = some o → b ≠ X.env.locals := fun b o e => Nat.ne_of_lt (Nat.lt_of_lt_of_le (Heap.lt_size e) I.ok.above)
  have neC : ∀ b o, X.s₀.heap.get? b = some o → b ∉ X.ex → b ∉ ch := fun b o e hx hb => by
    rcases (hch b hb).1 with z | z
    · exact hx z
    · exact absurd (Nat.lt_of_lt_of_le (Heap.lt_size e) z) (Nat.lt_irrefl _)
  have cellK : ∀ x c, X.env.cells.lookup x = some c → ∀ v, s.heap.IsCell c v → h'.IsCell c v := fun x c e v ⟨o, ho, hd⟩ => by
    have nch : c ∉ ch := fun z => (hch c z).2.2.1 x c e rfl
    by_cases hc : c ∈ X.fs
    · obtain ⟨sl, q⟩ := slot c o (I.cne x c e) hc nch ho (I.freeC x c e)
      exact ⟨_, q, hd⟩
    · exact ⟨o, keep c o (I.cne x c e) hc nch ho (I.freeC x c e), hd⟩
  refine ⟨I.ok, I.os, hg, ⟨fun b o e n hb hx => ?_, fun b o e n hb hx => ?_, fun b o e n hx => ?_, fun b o e hx => ?_, fun b xs e => tups b xs (I.base.tups b xs e), fun b o xs e => frzs b o xs (I.base.frzs b o xs e), fun b ps e => ?_⟩, ?_, fun x c e => ?_, ?_, fun x c e => ?_, fun p hp => ?_, hok, I.len⟩
  · exact keep b o (neL b o e) hb (neC b o e hx) (I.base.keep b o e n hb hx) (I.base.free b o e n hx)
  · obtain ⟨sl, e1⟩ := I.base.slot b o e n hb hx
    obtain ⟨sl', e2⟩ := slot b _ (neL b o e) hb (neC b o e hx) e1 (I.base.free b o e n hx)
    exact ⟨sl', e2⟩
  · obtain ⟨o', e1⟩ := I.base.there b o e hx
    exact free b o' (neC b o e hx) e1 (I.base.free b o e n hx)
  · obtain ⟨o', e1⟩ := I.base.there b o e hx
    exact there b o' (neC b o e hx) e1
  · obtain ⟨m1, e1⟩ := I.base.tbls b ps e
    obtain ⟨m2, e2⟩ := tbls b _ e1
    exact ⟨m1 ++ m2, by rw [e2, Array.append_assoc]⟩
  · obtain ⟨m, hn, hl⟩ := I.loc
    refine ⟨m, ns m hn, fun i x v e1 e2 e3 => ?_⟩
    obtain ⟨u, r, l⟩ := hl i x v e1 e2 e3
    refine ⟨u, r, ?_⟩
    rcases l with l | ⟨k, c, e, z⟩
    · exact .inl l
    · exact .inr ⟨k, c, e, cellK x c e _ z⟩
  · obtain ⟨v, z⟩ := I.cell x c e
    exact ⟨v, cellK x c e v z⟩
  · obtain ⟨m, ⟨o, _, _, ho, _⟩, _⟩ := I.loc
    exact free _ o (fun z => (hch _ z).2.1 rfl) ho I.free
  · obtain ⟨v, o, ho, hd⟩ := I.cell x c e
    exact free c o (fun z => (hch c z).2.2.1 x c e rfl) ho (I.freeC x c e)
  · obtain ⟨e, n, ne, nf, d⟩ := I.pin p hp
    have nch : p.1 ∉ ch := fun z => (hch p.1 z).2.2.2 p hp rfl
    exact ⟨keep p.1 p.2 ne nf nch e n, free p.1 p.2 nch e n, ne, nf, d⟩
theorem Inv.un {t' : Nat} (I : Inv X pins σ H s) (u : Un X.fs [] H H' s.heap h') (hok : HOk X.prog X.w H' h') : Inv X pins σ H' { s with heap := h', toks := t' } := by
  obtain ⟨m, ⟨o, es, ep, ho, r⟩, _⟩ := id I.loc
  obtain ⟨sl, hL⟩ := u.any ho I.free (by simp)
  exact I.step (g' := s.gens) (d' := s.drawn) (ch := []) (fun _ z => nomatch z) (fun b o _ hb _ e n => u.keep b o e n hb (by simp)) (fun b o _ hb _ e n => u.slot b o e n hb (by simp)) (fun b o _ e n => u.free b o e n (by simp)) (fun b o _ e => u.there b o e (by simp)) u.tups u.frzs u.tbls (fun m' hm => by
    obtain ⟨o', es', ep', ho', r'⟩ := hm
    rw [ho] at ho'; cases ho'
    exact ⟨_, es', ep', hL, r'⟩) hok I.bare
theorem Inv.call {g' : Array GenState} {t' : Nat} {d' : Drawn} {ch : List Addr} (I : Inv X pins σ H s) (u : Un (frs X.stack) ch H H' s.heap h') (hok : HOk X.prog X.w H' h') (hg : AllBare g')
    (hch : ∀ b ∈ ch, (b ∈ X.ex ∨ X.s₀.heap.objs.size ≤ b) ∧ b ≠ X.env.locals ∧ (∀ x c, X.env.cells.lookup x = some c → c ≠ b) ∧ ∀ p ∈ X.pn ++ pins, p.1 ≠ b) :
    Inv X pins σ H' { s with heap := h', gens := g', drawn := d', toks := t' } := by
  obtain ⟨m, ⟨o, es, ep, ho, r⟩, _⟩ := id I.loc
  obtain ⟨sl, hL⟩ := u.any ho I.free fun z => (hch _ z).2.1 rfl
  exact I.step (ch := ch) hch (fun b o hL hb hc e n => u.keep b o e n (fun z => (List.mem_cons.mp (I.stkSub b z)).elim hL hb) hc) (fun b o _ _ hc e n => u.any e n hc) (fun b o hc e n => u.free b o e n hc) (fun b o hc e => u.there b o e hc) u.tups u.frzs u.tbls (fun m' hm => by
    obtain ⟨o', es', ep', ho', r'⟩ := hm
    rw [ho] at ho'; cases ho'
    exact ⟨_, es', ep', hL, r'⟩) hok hg
theorem Inv.turned {t' : Nat} {it : Addr} (I : Inv X pins σ H s) (k : ∀ b o, b ≠ it → s.heap.get? b = some o → h'.get? b = some o) (hn : H it = none) (hL : it ≠ X.env.locals)
    (h1 : it ∈ X.ex ∨ X.s₀.heap.objs.size ≤ it) (h2 : ∀ x c, X.env.cells.lookup x = some c → c ≠ it) (h3 : ∀ p ∈ X.pn ++ pins, p.1 ≠ it) : Inv X pins σ H { s with heap := h', toks := t' } := by
  have nit : ∀ b u, H b = some u → b ≠ it := fun b u e z => by rw [z, hn] at e; cases e
  refine I.step (g' := s.gens) (d' := s.drawn) (ch := [it]) (fun b hb => ?_) (fun b o _ _ hc e _ => k b o (fun z => hc (by simp [z])) e) (fun b o _ _ hc e _ => ⟨o.slots, k b o (fun z => hc (by simp [z])) e⟩) (fun _ _ _ _ n => n)
    (fun b o hc e => ⟨o, k b o (fun z => hc (by simp [z])) e⟩) (fun _ _ e => e) (fun _ _ _ e => e) (fun b ps e => ⟨#[], by rw [e]; simp⟩) (fun m hm => ?_) (fun b u e => ?_) I.bare
  · have e : b = it := by simpa using hb
    subst e
    exact ⟨h1, hL, h2, h3⟩
  · obtain ⟨o, es, ep, ho, r⟩ := hm
    exact ⟨o, es, ep, k _ o (Ne.symm hL) ho, r⟩
  · refine (I.hok b u e).stay (fun c v hc q => k c v ?_ q) (fun _ q => q) fun _ _ q => q
    rcases hc with z | z
    · rw [z]; exact nit b u e
    · exact nit c _ z
theorem Inv.tok (I : Inv X pins σ H s) (t : Nat) : Inv X pins σ H { s with toks := t } := I.un (h' := s.heap) (t' := t) Un.refl I.hok
theorem Inv.kept {t' : Nat} (I : Inv X pins σ H s) (k : ∀ b u, s.heap.get? b = some u → h'.get? b = some u) : Inv X pins σ H { s with heap := h', toks := t' } := I.un (Un.kept k) (I.hok.kept k)
theorem Inv.laid {a : Addr} {o : HO} {t' : Nat} (I : Inv X pins σ H s) (k : ∀ b u, s.heap.get? b = some u → h'.get? b = some u) (hp : s.heap.objs.size ≤ a) (new : ObjOk X.prog X.w (upd H a o) h' a o) :
    Inv X pins σ (upd H a o) { s with heap := h', toks := t' } := I.un (Un.laid k hp (I.hok.fresh hp)) (I.hok.laid k hp new)
theorem Inv.write {x e : Addr} {o : HO} {t' : Nat} (I : Inv X pins σ H s) (mu : Mut (H x)) (he : e = x ∨ H e = some (.own x)) (k : ∀ b u, b ≠ e → s.heap.get? b = some u → h'.get? b = some u) (heo : ∃ u, h'.get? e = some u)
    (new : ObjOk X.prog X.w (upd H x o) h' x o) : Inv X pins σ (upd H x o) { s with heap := h', toks := t' } := I.un (Un.write mu he k heo) (I.hok.write mu he k heo new)
theorem Inv.weak {σ' : List (Option V)} (I : Inv X pins σ H s) (hl : σ'.length = σ.length) (w : ∀ (i : Nat) v, σ'[i]? = some (some v) → σ[i]? = some (some v)) : Inv X pins σ' H s :=
  ⟨I.ok, I.os, I.bare, I.base, let ⟨m, hn, hl'⟩ := I.loc; ⟨m, hn, fun i x v e1 e2 e3 => hl' i x v e1 (w i v e2) e3⟩, I.cell, I.free, I.freeC, I.pin, I.hok, hl.trans I.len⟩
theorem Inv.pins_of {pins' : List (Addr × Obj)} (I : Inv X pins σ H s) (h : ∀ p ∈ pins', s.heap.get? p.1 = some p.2 ∧ H p.1 = none ∧ p.1 ≠ X.env.locals ∧ p.1 ∉ X.fs ∧ ∀ v, p.2.data ≠ .cell v) : Inv X pins' σ H s :=
  ⟨I.ok, I.os, I.bare, I.base, I.loc, I.cell, I.free, I.freeC, fun p hp => (List.mem_append.mp hp).elim (fun z => I.pin p (List.mem_append_left _ z)) (h p), I.hok, I.len⟩

theorem nodup_ix {N : List Str} (hN : N.Nodup) {i j : Nat} {x : Str} (a : N[i]? = some x) (b : N[j]? = some x) : i = j := by
  obtain ⟨h1, e1⟩ := List.getElem?_eq_some_iff.mp a
  obtain ⟨h2, e2⟩ := List.getElem?_eq_some_iff.mp b
  exact (List.getElem_inj hN).mp (e1.trans e2.symm)

theorem store_ok2 {M : Model} {A : Around} {E : Value → Shared → Prop} {i : Nat} {x : Str} {v : V} {u : Value} {Q : Unit → Shared → Prop} (I : Inv X pins σ H s) (hN : X.N.Nodup) (hi : X.N[i]? = some x) (hx : Loc X.env.scope x) (r : RelV v u)
    (h : ∀ s', Inv X pins (σ.set i (some v)) H s' → (∃ a, Heap.SameBut a s.heap s'.heap ∧ (a = X.env.locals ∨ X.env.cells.lookup x = some a)) → Q () s') (hf : X.fn x = true ∨ X.env.scope.names.lookup x = some .local := by first | exact .inl rfl | exact .inr rfl | assumption) : wpAny M A (storeName X.env x u) Q E s := by
  obtain ⟨m, hn, hl⟩ := id I.loc
  have hcls : (X.env.scope.kind == .class || (X.env.scope.kind == .module && X.env.locals != X.env.globals)) = false := by rw [I.ok.kind]; rfl
  have hiσ : i < σ.length := by rw [I.len]; exact (List.getElem?_eq_some_iff.mp hi).1
  have cne := I.cne
  have tracked : ∀ {a : Addr} {h' : Heap}, (∃ o, s.heap.get? a = some o ∧ H a = none) → Heap.SameBut a s.heap h' → HOk X.prog X.w H h' := fun {a h'} ha hs b ob e => by
    obtain ⟨_, _, hfree⟩ := ha
    refine (I.hok b ob e).stay (fun c w' hc q => (hs.2 c ?_).trans q) (fun _ q => q) fun _ _ q => q
    rintro rfl
    rcases hc with rfl | hc
    · rw [hfree] at e; cases e
    · rw [hfree] at hc; cases hc
  rcases hx with hk | hk
  · refine wpAny_storeName_local hk hn (fun h' hn' hs => ?_) hcls
    obtain ⟨oL, _, _, hoL, _⟩ := id hn
    refine h _ ⟨I.ok, I.os, I.bare, ⟨fun b o e n hb hx => ?_, fun b o e n hb hx => ?_, I.base.free, fun b o e hx => ?_, I.base.tups, I.base.frzs, I.base.tbls⟩, ⟨_, hn', fun j y v' e1 e2 e3 => ?_⟩, fun y c e => ?_, I.free, I.freeC, fun p hp => ?_, tracked ⟨oL, hoL, I.free⟩ hs, by simpa using I.len⟩ ⟨_, hs, .inl rfl⟩
    · exact (hs.2 b (Nat.ne_of_lt (Nat.lt_of_lt_of_le (Heap.lt_size e) I.ok.above))).trans (I.base.keep b o e n hb hx)
    · obtain ⟨sl, e1⟩ := I.base.slot b o e n hb hx
      exact ⟨sl, (hs.2 b (Nat.ne_of_lt (Nat.lt_of_lt_of_le (Heap.lt_size e) I.ok.above))).trans e1⟩
    · obtain ⟨o', e1⟩ := I.base.there b o e hx
      exact ⟨o', (hs.2 b (Nat.ne_of_lt (Nat.lt_of_lt_of_le (Heap.lt_size e) I.ok.above))).trans e1⟩
    · by_cases hj : j = i
      · subst hj
        rw [hi] at e1; cases e1
        rw [List.getElem?_set_self hiσ] at e2
        cases e2
        exact ⟨u, r, .inl ⟨hk, by simp⟩⟩
      · rw [List.getElem?_set_ne (Ne.symm hj)] at e2
        obtain ⟨u', r', q⟩ := hl j y v' e1 e2 e3
        refine ⟨u', r', ?_⟩
        rcases q with ⟨k, e⟩ | ⟨k, c, e, z⟩
        · refine .inl ⟨k, ?_⟩
          have : y ≠ x := fun e => hj (nodup_ix hN e1 (e ▸ hi))
          simp [this, e]
        · exact .inr ⟨k, c, e, z.sameBut hs (cne y c e)⟩
    · obtain ⟨w', z⟩ := I.cell y c e
      exact ⟨w', z.sameBut hs (cne y c e)⟩
    · obtain ⟨e, n, ne, nf, d⟩ := I.pin p hp
      exact ⟨(hs.2 p.1 ne).trans e, n, ne, nf, d⟩
  · have hfn : X.fn x = true := by
      rcases hf with z | z
      · exact z
      · rw [z] at hk; cases hk
    obtain ⟨c, hc⟩ := I.ok.has x (.inl hk)
    obtain ⟨w', z⟩ := I.cell x c hc
    refine wpAny_storeName_cell I.ok.kind hk hc z (fun h' hc' hs => ?_)
    obtain ⟨oc, hoc, hocd⟩ := id z
    refine h { s with heap := h' } ⟨I.ok, I.os, I.bare, ⟨fun b o e n hb hx => ?_, fun b o e n hb hx => ?_, I.base.free, fun b o e hx => ?_, I.base.tups, I.base.frzs, I.base.tbls⟩, ⟨m, hn.sameBut hs (Ne.symm (cne x c hc)), fun j y v' e1 e2 e3 => ?_⟩, fun y c' e => ?_, I.free, I.freeC, fun p hp => ?_, tracked ⟨oc, hoc, I.freeC x c hc⟩ hs, by simpa using I.len⟩ ⟨c, hs, .inr hc⟩
    · exact (hs.2 b (Nat.ne_of_lt (Nat.lt_of_lt_of_le (Heap.lt_size e) (I.ok.cab x c hfn hc)))).trans (I.base.keep b o e n hb hx)
    · obtain ⟨sl, e1⟩ := I.base.slot b o e n hb hx
      exact ⟨sl, (hs.2 b (Nat.ne_of_lt (Nat.lt_of_lt_of_le (Heap.lt_size e) (I.ok.cab x c hfn hc)))).trans e1⟩
    · obtain ⟨o', e1⟩ := I.base.there b o e hx
      exact ⟨o', (hs.2 b (Nat.ne_of_lt (Nat.lt_of_lt_of_le (Heap.lt_size e) (I.ok.cab x c hfn hc)))).trans e1⟩
    · by_cases hj : j = i
      · subst hj
        rw [hi] at e1; cases e1
        rw [List.getElem?_set_self hiσ] at e2
        cases e2
        exact ⟨u, r, .inr ⟨.inl hk, c, hc, hc'⟩⟩
      · rw [List.getElem?_set_ne (Ne.symm hj)] at e2
        obtain ⟨u', r', q⟩ := hl j y v' e1 e2 e3
        refine ⟨u', r', ?_⟩
        rcases q with q | ⟨k, c', e, z'⟩
        · exact .inl q
        · refine .inr ⟨k, c', e, z'.sameBut hs ?_⟩
          rintro rfl
          exact hj (nodup_ix hN e1 (I.ok.inj _ _ _ e hc ▸ hi))
    · by_cases hcc : c' = c
      · subst hcc; exact ⟨_, hc'⟩
      · obtain ⟨w2, z2⟩ := I.cell y c' e
        exact ⟨w2, z2.sameBut hs hcc⟩
    · obtain ⟨e, n, ne, nf, d⟩ := I.pin p hp
      refine ⟨(hs.2 p.1 ?_).trans e, n, ne, nf, d⟩
      intro q
      rw [q, hoc] at e
      have q' : oc = p.2 := Option.some.inj e
      exact d w' (by rw [← q']; exact hocd)
theorem store_ok {M : Model} {A : Around} {E : Value → Shared → Prop} {i : Nat} {x : Str} {v : V} {u : Value} {Q : Unit → Shared → Prop} (I : Inv X pins σ H s) (hN : X.N.Nodup) (hi : X.N[i]? = some x) (hx : Loc X.env.scope x) (r : RelV v u)
    (h : ∀ s', Inv X pins (σ.set i (some v)) H s' → Q () s') (hf : X.fn x = true ∨ X.env.scope.names.lookup x = some .local := by first | exact .inl rfl | exact .inr rfl | assumption) : wpAny M A (storeName X.env x u) Q E s :=
  store_ok2 I hN hi hx r (fun s' I' _ => h s' I') hf
theorem Inv.call' {s' : Shared} {ch : List Addr} (I : Inv X pins σ H s) (ho : s'.os = s.os) (u : Un (frs X.stack) ch H H' s.heap s'.heap) (hok : HOk X.prog X.w H' s'.heap) (hg : AllBare s'.gens)
    (hch : ∀ b ∈ ch, (b ∈ X.ex ∨ X.s₀.heap.objs.size ≤ b) ∧ b ≠ X.env.locals ∧ (∀ x c, X.env.cells.lookup x = some c → c ≠ b) ∧ ∀ p ∈ X.pn ++ pins, p.1 ≠ b) : Inv X pins σ H' s' := by
  obtain ⟨h', g', d', t', o'⟩ := s'
  have e : o' = s.os := ho
  subst e
  exact I.call (g' := g') (t' := t') (d' := d') u hok hg hch
end

/-! ### the judgements -/
abbrev XK := Value → Option Addr → Hp → Prop
abbrev St := List (Option V)
abbrev VK := V → Hp → Prop
abbrev TE := St → Hp → VK → Prop
abbrev TT := St → Hp → (Bool → Hp → Prop) → Prop
abbrev TA := St → Hp → (List V → Hp → Prop) → Prop
structure Ends where
  nx : St → Hp → Prop
  rt : VK
  bk : St → Hp → Prop := fun _ _ => False
  ct : St → Hp → Prop := fun _ _ => False
abbrev TS := Ends → St → Hp → Prop

def EP (X : Cx) (pins : List (Addr × Obj)) (σ : St) (Q : VK) (u : Value) (s' : Shared) : Prop := ∃ v H', Inv X pins σ H' s' ∧ RelV v u ∧ Q v H'
def TP (X : Cx) (pins : List (Addr × Obj)) (σ : St) (Q : Bool → Hp → Prop) (b : Bool) (s' : Shared) : Prop := ∃ H', Inv X pins σ H' s' ∧ Q b H'
def AP (X : Cx) (pins : List (Addr × Obj)) (σ : St) (Q : List V → Hp → Prop) (us : List Value) (s' : Shared) : Prop := ∃ vs H', Inv X pins σ H' s' ∧ Vals vs us ∧ Q vs H'
def SP (X : Cx) (pins : List (Addr × Obj)) (D : Ends) (f : Flow) (s' : Shared) : Prop :=
  match f with
  | .next => ∃ σ' H', Inv X pins σ' H' s' ∧ D.nx σ' H'
  | .brk => ∃ σ' H', Inv X pins σ' H' s' ∧ D.bk σ' H'
  | .cont => ∃ σ' H', Inv X pins σ' H' s' ∧ D.ct σ' H'
  | .ret u => ∃ v σ' H', Inv X pins σ' H' s' ∧ RelV v u ∧ D.rt v H'

def PE (X : Cx) (e : Expr) (t : TE) : Prop :=
  ∀ (pins : List (Addr × Obj)) (s : Shared) (σ : St) (H : Hp) (Q : VK), Inv X pins σ H s → t σ H Q → wpAny (model X.prog X.w) X.A (eval e X.env) (EP X pins σ Q) X.xe s
def PT (X : Cx) (e : Expr) (t : TT) : Prop :=
  ∀ (pins : List (Addr × Obj)) (s : Shared) (σ : St) (H : Hp) (Q : Bool → Hp → Prop), Inv X pins σ H s → t σ H Q → wpAny (model X.prog X.w) X.A (isTrue e X.env (eval e X.env)) (TP X pins σ Q) X.xe s
def PW (X : Cx) (e : Expr) (t : TT) : Prop :=
  ∀ (whole : Sem Value) (pins : List (Addr × Obj)) (s : Shared) (σ : St) (H : Hp) (Q : Bool → Hp → Prop), Inv X pins σ H s → t σ H Q → wpAny (model X.prog X.w) X.A (isTrue e X.env whole) (TP X pins σ Q) X.xe s
theorem PW.pt {X : Cx} {e : Expr} {t : TT} (h : PW X e t) : PT X e t := h _
def PA (X : Cx) (es : List Expr) (t : TA) : Prop :=
  ∀ (pos : Pos) (pins : List (Addr × Obj)) (s : Shared) (σ : St) (H : Hp) (Q : List V → Hp → Prop), Inv X pins σ H s → t σ H Q → wpAny (model X.prog X.w) X.A (spliced (backTo pos (starEach es X.env))) (AP X pins σ Q) X.xe s
def PS (X : Cx) (st : Stmt) (t : TS) : Prop :=
  ∀ (pins : List (Addr × Obj)) (s : Shared) (σ : St) (H : Hp) (D : Ends), Inv X pins σ H s → t D σ H → wpAny (model X.prog X.w) X.A (exec st X.env) (SP X pins D) X.xe s
def PSs (X : Cx) (st : List Stmt) (t : TS) : Prop :=
  ∀ (pins : List (Addr × Obj)) (s : Shared) (σ : St) (H : Hp) (D : Ends), Inv X pins σ H s → t D σ H → wpAny (model X.prog X.w) X.A (execs st X.env) (SP X pins D) X.xe s
theorem thn {α : Type} {t : Sem α} {Q Q' : α → Shared → Prop} {M : Model} {A : Around} {E : Value → Shared → Prop} {s : Shared} (h : wpAny M A t Q E s) (hQ : ∀ a s, Q a s → Q' a s) : wpAny M A t Q' E s := wpAny_mono h hQ fun _ _ x => x
end L2

namespace L2
open PySem PySem.Spec PyProof.Rows
section
variable {X : Cx}

/-! ### names and constants -/
def tVar (i : Nat) : TE := fun σ H Q => ∃ v, σ[i]? = some (some v) ∧ Q v H
def tC (v : V) : TE := fun _ H Q => Q v H
theorem pe_var {i : Nat} {x : Str} {pos : Pos} (hN : X.N[i]? = some x) (hv : Vis X.env.scope x) (hd : (x == ("__debug__" : Str)) = false := by decide) (hcd : (x == ("__classdict__" : Str)) = false := by decide) : PE X (.Name x pos) (tVar i) := by
  intro pins s σ H Q I h
  obtain ⟨v, e, h⟩ := h
  obtain ⟨m, hn, hl⟩ := I.loc
  obtain ⟨u, r, l⟩ := hl i x v hN e hv
  have fin : EP X pins σ Q u s := ⟨v, H, I, r, h⟩
  rcases l with ⟨hk, hm⟩ | ⟨hk, c, hc, hcell⟩
  · exact wpAny_Name (wpAny_loadName_local I.ok.kind hk hn hm fin) hd
  · rcases hk with hk | hk
    · exact wpAny_Name (wpAny_loadName_cell I.ok.kind hk hc hcell fin) hd
    · exact wpAny_Name (wpAny_loadName_free I.ok.kind hk hc hcell fin hcd) hd
theorem pe_int {i j pos} : PE X (.Constant (.int i) j pos) (tC (.int i)) := fun _ _ _ H _ I h => wpAny_Constant_int ⟨.int i, H, I.tok _, ⟨_, rfl⟩, h⟩
theorem pe_bl {b j pos} : PE X (.Constant (.bool b) j pos) (tC (.bl b)) := fun _ _ _ H _ I h => Constant_bool ⟨.bl b, H, I, rfl, h⟩
theorem pe_non {j pos} : PE X (.Constant .none j pos) (tC .non) := fun _ _ _ H _ I h => Constant_none ⟨.non, H, I, rfl, h⟩
theorem pe_str {x j pos} : PE X (.Constant (.str x) j pos) (tC (.str x)) := fun _ _ _ H _ I h => Calls.Constant_str ⟨.str x, H, I.tok _, ⟨_, rfl⟩, h⟩

def Gl (X : Cx) (x : Str) : Prop := X.env.kindOf x = some .globalImplicit
theorem ld_glob {E : Value → Shared → Prop} {pins : List (Addr × Obj)} {s : Shared} {σ : St} {H : Hp} {x : Str} {u : Value} {pos : Pos} {Q : Value → Shared → Prop} (I : Inv X pins σ H s) (hg : Gl X x) (hm : X.mg x = some u) (h : Q u s)
    (hd : (x == ("__debug__" : Str)) = false := by decide) : wpAny (model X.prog X.w) X.A (eval (.Name x pos) X.env) Q E s :=
  Calls.Name_function_global I.ok.kind hg (Calls.loadGlobal_global (by rw [I.ok.glob]; exact I.mod.glob.keeps I.bk) hm h) hd
theorem ld_blt {E : Value → Shared → Prop} {pins : List (Addr × Obj)} {s : Shared} {σ : St} {H : Hp} {x : Str} {u : Value} {pos : Pos} {Q : Value → Shared → Prop} (I : Inv X pins σ H s) (hg : Gl X x) (hm : X.mg x = none) (hv : bootBuiltins x = some u) (h : Q u s)
    (hn : x ≠ "__name__" := by decide) (hd : (x == ("__debug__" : Str)) = false := by decide) : wpAny (model X.prog X.w) X.A (eval (.Name x pos) X.env) Q E s := by
  obtain ⟨mb, h1, h2⟩ := I.mod.blt
  exact Calls.Name_function_global I.ok.kind hg (Calls.loadGlobal_builtin (by rw [I.ok.glob]; exact I.mod.glob.keeps I.bk) hm (by rw [I.ok.blt]; exact h1.keeps I.bk) ((h2 x hn).trans hv) h) hd
theorem pe_glob {x : Str} {v : V} {u : Value} {pos : Pos} (hg : Gl X x) (hm : X.mg x = some u) (r : RelV v u) (hd : (x == ("__debug__" : Str)) = false := by decide) : PE X (.Name x pos) (tC v) :=
  fun _ _ _ H _ I h => ld_glob I hg hm ⟨v, H, I, r, h⟩ hd
theorem pe_bltn {x : Str} {v : V} {u : Value} {pos : Pos} (hg : Gl X x) (hm : X.mg x = none) (hv : bootBuiltins x = some u) (r : RelV v u) (hn : x ≠ "__name__" := by decide) (hd : (x == ("__debug__" : Str)) = false := by decide) : PE X (.Name x pos) (tC v) :=
  fun _ _ _ H _ I h => ld_blt I hg hm hv ⟨v, H, I, r, h⟩ hn hd

/-! ### arithmetic -/
variable {a b : Expr} {ta tb : TE} {pos : Pos}
/-! ### comparisons -/
def PC (X : Cx) (op : CmpOp) (a b : Expr) (t : TE) : Prop :=
  ∀ (pins : List (Addr × Obj)) (s : Shared) (σ : St) (H : Hp) (Q : VK), Inv X pins σ H s → t σ H Q →
    wpAny (model X.prog X.w) X.A (eval a X.env) (fun v s₁ => wpAny (model X.prog X.w) X.A (eval b X.env) (fun u s₂ => wpAny (model X.prog X.w) X.A (compareOp op v u) (EP X pins σ Q) X.xe s₂) X.xe s₁) X.xe s
theorem nobehind (b : Expr) {op : CmpOp} (h : op ≠ .In) (h2 : op ≠ .NotIn) : behindInMarks op b = false := by
  have e1 : (op == CmpOp.In) = false := by cases op <;> first | rfl | exact absurd rfl h
  have e2 : (op == CmpOp.NotIn) = false := by cases op <;> first | rfl | exact absurd rfl h2
  cases b <;> simp [behindInMarks, e1, e2]
def tB (t : TE) : TT := fun σ H Q => t σ H fun x H1 => ∃ c, x = .bl c ∧ Q c H1
theorem pe_cmp {op : CmpOp} {t : TE} (h : PC X op a b t) (h1 : behindInMarks op b = false := by first | exact nobehind _ (by decide) (by decide) | rfl) : PE X (.Compare a [op] [b] pos) t := fun pins s σ H Q I hw => wpAny_Compare1 (h pins s σ H Q I hw) h1
theorem pt_cmp {op : CmpOp} {t : TE} (h : PC X op a b t) (h1 : behindInMarks op b = false := by first | exact nobehind _ (by decide) (by decide) | rfl) : PT X (.Compare a [op] [b] pos) (tB t) := by
  intro pins s σ H Q I hw
  refine wpAny_isTrue_Compare1 (thn (h pins s σ H _ I hw) fun v s1 h1 => thn h1 fun u s2 h2 => thn h2 fun c s3 ⟨x, H1, I1, r1, q1⟩ => ?_) h1
  obtain ⟨d, rfl, q⟩ := q1
  cases r1
  exact wpAny_truthy_bool ⟨H1, I1, q⟩
theorem pt_val {e : Expr} {t : TE} (h : PE X e t) (he : ∀ whole, isTrue e X.env whole = (do let v ← whole; standAt e.pos; holding [v] (truthy v)) := by intro _; rfl) : PT X e (tB t) := by
  intro pins s σ H Q I hw
  refine isTrue_plain (thn (h pins s σ H _ I hw) fun v s1 ⟨x, H1, I1, r1, q1⟩ => ?_) (he _)
  obtain ⟨d, rfl, q⟩ := q1
  cases r1
  exact wpAny_truthy_bool ⟨H1, I1, q⟩

/-! ### and, or, not -/
variable {tA tB' : TT} {rest : List Expr}
def tAnd (t u : TT) : TT := fun σ H Q => t σ H fun c H1 => if c = true then u σ H1 Q else Q false H1
def tOr (t u : TT) : TT := fun σ H Q => t σ H fun c H1 => if c = true then Q true H1 else u σ H1 Q
def tNot (t : TT) : TT := fun σ H Q => t σ H fun c H1 => Q (!c) H1
theorem pw_and1 (ha : PT X a tA) : PW X (.BoolOp .And [a] pos) tA := by
  intro wh pins s σ H Q I h
  refine isTrue_and (thn (ha pins s σ H Q I h) fun c s1 e => ?_)
  cases c with
  | true => exact isTrue_and_nil e
  | false => exact e
theorem pw_or1 (ha : PT X a tA) : PW X (.BoolOp .Or [a] pos) tA := by
  intro wh pins s σ H Q I h
  refine isTrue_or (thn (ha pins s σ H Q I h) fun c s1 e => ?_)
  cases c with
  | false => exact isTrue_or_nil e
  | true => exact e
theorem pw_and (ha : PT X a tA) (hb : PW X (.BoolOp .And (b :: rest) pos) tB') : PW X (.BoolOp .And (a :: b :: rest) pos) (tAnd tA tB') := by
  intro wh pins s σ H Q I h
  refine isTrue_and (thn (ha pins s σ H _ I h) fun c s1 ⟨H1, I1, q1⟩ => ?_)
  cases c with
  | true => exact hb wh pins s1 σ H1 Q I1 q1
  | false => exact ⟨H1, I1, q1⟩
theorem pw_or (ha : PT X a tA) (hb : PW X (.BoolOp .Or (b :: rest) pos) tB') : PW X (.BoolOp .Or (a :: b :: rest) pos) (tOr tA tB') := by
  intro wh pins s σ H Q I h
  refine isTrue_or (thn (ha pins s σ H _ I h) fun c s1 ⟨H1, I1, q1⟩ => ?_)
  cases c with
  | true => exact ⟨H1, I1, q1⟩
  | false => exact hb wh pins s1 σ H1 Q I1 q1
theorem pt_not (ha : PT X a tA) : PT X (.UnaryOp .Not a pos) (tNot tA) := by
  intro pins s σ H Q I h
  exact isTrue_not (ha pins s σ H (fun c H1 => Q (!c) H1) I h)
def tAndV (ta tb : TE) : TE := fun σ H Q => ta σ H fun x H1 => ∃ c, x = .bl c ∧ if c = true then tb σ H1 Q else Q (.bl false) H1
def tNotV (ta : TE) : TE := fun σ H Q => ta σ H fun x H1 => ∃ c, x = .bl c ∧ Q (.bl (!c)) H1
theorem pe_one {op} {t : TE} (h : PE X a t) : PE X (.BoolOp op [a] pos) t := fun pins s σ H Q I hw => BoolOp_one (h pins s σ H Q I hw)
theorem pe_and (ha : PE X a ta) (hb : PE X (.BoolOp .And (b :: rest) pos) tb) : PE X (.BoolOp .And (a :: b :: rest) pos) (tAndV ta tb) := by
  intro pins s σ H Q I h
  refine BoolOp_and (thn (ha pins s σ H _ I h) fun v s1 ⟨x, H1, I1, r1, q1⟩ => ?_)
  obtain ⟨c, rfl, q1⟩ := q1
  cases r1
  refine wpAny_truthy_bool ?_
  cases c with
  | true => exact hb pins s1 σ H1 Q I1 q1
  | false => exact ⟨.bl false, H1, I1, rfl, q1⟩
theorem pe_not (ha : PE X a ta) : PE X (.UnaryOp .Not a pos) (tNotV ta) := by
  intro pins s σ H Q I h
  refine UnaryOp_ (thn (ha pins s σ H _ I h) fun v s1 ⟨x, H1, I1, r1, q1⟩ => ?_)
  obtain ⟨c, rfl, q1⟩ := q1
  cases r1
  exact not_of (wpAny_truthy_bool ⟨.bl (!c), H1, I1, rfl, q1⟩)
def tIf (t : TT) (ta tb : TE) : TE := fun σ H Q => t σ H fun c H1 => if c = true then ta σ H1 Q else tb σ H1 Q
theorem pe_ifExp {c : Expr} (hc : PT X c tA) (ha : PE X a ta) (hb : PE X b tb) : PE X (.IfExp c a b pos) (tIf tA ta tb) := by
  intro pins s σ H Q I h
  refine wpAny_IfExp (thn (hc pins s σ H _ I h) fun d s1 ⟨H1, I1, q1⟩ => ?_)
  cases d with
  | true => exact ha pins s1 σ H1 Q I1 q1
  | false => exact hb pins s1 σ H1 Q I1 q1
end
end L2

namespace L2
open PySem PySem.Spec PyProof.Rows

/-! ### a list, a tuple that is read: tracked, frozen, or an object of the module -/
def SqL (K : PySem.W.Frag) (H : Hp) (a : Addr) (xs : List V) : Prop :=
  Rd H a (.lst xs) ∨
    ∃ (o : Obj) (its : Array Value) (n : Nat), K.lookup a = some o ∧ o.cls = .type "list" ∧ o.dict = none ∧ o.data = .seq its n ∧ its.size ≤ sizeLine ∧ Vals xs its.toList
def SqT (K : PySem.W.Frag) (H : Hp) (a : Addr) (xs : List V) : Prop :=
  Rd H a (.tup xs) ∨
    ∃ (o : Obj) (its : Array Value) (n : Nat), K.lookup a = some o ∧ o.cls = .type "tuple" ∧ o.data = .seq its n ∧ its.size ≤ sizeLine ∧ Vals xs its.toList
def absV : Value → Option V
  | .none => some .non
  | .bool b => some (.bl b)
  | .int i _ => some (.int i)
  | .str x _ => some (.str x)
  | .bytes b _ => some (.byt b)
  | .float b _ => some (.flt b)
  | .ref a => some (.ref a)
  | .type n => some (.ty n)
  | _ => none
theorem RelV.abs {x : V} {u : Value} (r : RelV x u) : absV u = some x := by
  cases x with
  | non => cases r; rfl
  | bl _ => cases r; rfl
  | int _ => obtain ⟨t, rfl⟩ := r; rfl
  | str _ => obtain ⟨t, rfl⟩ := r; rfl
  | byt _ => obtain ⟨t, rfl⟩ := r; rfl
  | flt _ => obtain ⟨t, rfl⟩ := r; rfl
  | ref _ => cases r; rfl
  | ty _ => cases r; rfl
theorem RelV.inj {x y : V} {u : Value} (r : RelV x u) (q : RelV y u) : x = y := Option.some.inj (r.abs.symm.trans q.abs)
theorem Vals.inj : ∀ {xs ys : List V} {us : List Value}, Vals xs us → Vals ys us → xs = ys
  | _, _, _, .nil, .nil => rfl
  | _, _, _, .cons r t, .cons r' t' => by rw [r.inj r', Vals.inj t t']
section
variable {X : Cx} {pins : List (Addr × Obj)} {σ : St} {H : Hp} {s : Shared} {a : Addr} {xs ys : List V}
theorem SqL.of {K : PySem.W.Frag} (h : H a = some (.lst xs)) : SqL K H a xs := .inl (.inl h)
theorem SqT.of {K : PySem.W.Frag} (h : H a = some (.tup xs)) : SqT K H a xs := .inl (.inl h)
theorem Inv.list (I : Inv X pins σ H s) (h : SqL X.K H a xs) : ∃ its : List Value, Vals xs its ∧ PlainL s.heap a its.toArray ∧ xs.length ≤ sizeLine := by
  rcases h with h | ⟨o, its, n, hk, hc, hd, hs, hz, r⟩
  · obtain ⟨z, its, n, r, e⟩ := h.ok I.hok
    exact ⟨its, r, ⟨_, n, e, rfl, rfl, rfl⟩, z⟩
  · refine ⟨its.toList, r, ⟨o, n, I.kIn a o hk, hc, hd, by simpa using hs⟩, ?_⟩
    have e := r.length
    simp only [Array.length_toList] at e
    omega
theorem Inv.tuple (I : Inv X pins σ H s) (h : SqT X.K H a xs) : ∃ its : List Value, Vals xs its ∧ IsTup s.heap a its.toArray ∧ xs.length ≤ sizeLine := by
  rcases h with h | ⟨o, its, n, hk, hc, hs, hz, r⟩
  · obtain ⟨z, its, r, p⟩ := h.ok I.hok
    exact ⟨its, r, p, z⟩
  · refine ⟨its.toList, r, ⟨o, I.kIn a o hk, hc, n, by simpa using hs⟩, ?_⟩
    have e := r.length
    simp only [Array.length_toList] at e
    omega
theorem Inv.list_inj (I : Inv X pins σ H s) (h : SqL X.K H a xs) (h' : SqL X.K H a ys) : xs = ys := by
  obtain ⟨its, r, ⟨o, n, e, _, _, d⟩, _⟩ := I.list h
  obtain ⟨its', r', ⟨o', n', e', _, _, d'⟩, _⟩ := I.list h'
  rw [e] at e'; cases e'
  rw [d] at d'
  injection d' with d1 _
  have : its = its' := by simpa using congrArg Array.toList d1
  subst this
  exact r.inj r'
theorem Inv.tuple_inj (I : Inv X pins σ H s) (h : SqT X.K H a xs) (h' : SqT X.K H a ys) : xs = ys := by
  obtain ⟨its, r, ⟨o, e, _, n, d⟩, _⟩ := I.tuple h
  obtain ⟨its', r', ⟨o', e', _, n', d'⟩, _⟩ := I.tuple h'
  rw [e] at e'; cases e'
  rw [d] at d'
  injection d' with d1 _
  have : its = its' := by simpa using congrArg Array.toList d1
  subst this
  exact r.inj r'
end

/-! ### another wish about exceptions -/
abbrev Cx.wish (X : Cx) (E : Value → Shared → Prop) : Cx := { X with xe := E }
abbrev Cx.nox (X : Cx) : Cx := X.wish fun _ _ => False
theorem Cx.Ok.wish {X : Cx} (ok : X.Ok) (E : Value → Shared → Prop) : (X.wish E).Ok :=
  ⟨ok.mod, ok.kind, ok.glob, ok.blt, ok.above, ok.inj, ok.has, ok.cab, ok.hd, ok.frames, ok.stk, ok.exf, ok.bs, ok.bsz, ok.noex, ok.exfs, ok.funs, ok.frf⟩
theorem Cx.Ok.unwish {X : Cx} {E : Value → Shared → Prop} (ok : (X.wish E).Ok) : X.Ok :=
  ⟨ok.mod, ok.kind, ok.glob, ok.blt, ok.above, ok.inj, ok.has, ok.cab, ok.hd, ok.frames, ok.stk, ok.exf, ok.bs, ok.bsz, ok.noex, ok.exfs, ok.funs, ok.frf⟩
section
variable {X : Cx} {pins : List (Addr × Obj)} {σ : St} {H : Hp} {s : Shared} {E : Value → Shared → Prop}
theorem Inv.wish (I : Inv X pins σ H s) (E : Value → Shared → Prop) : Inv (X.wish E) pins σ H s := ⟨I.ok.wish E, I.os, I.bare, I.base, I.loc, I.cell, I.free, I.freeC, I.pin, I.hok, I.len⟩
theorem Inv.unwish (I : Inv (X.wish E) pins σ H s) : Inv X pins σ H s := ⟨I.ok.unwish, I.os, I.bare, I.base, I.loc, I.cell, I.free, I.freeC, I.pin, I.hok, I.len⟩
theorem SP.unwish {D : Ends} {f : Flow} {s' : Shared} (h : SP (X.wish E) pins D f s') : SP X pins D f s' := by
  cases f with
  | next => obtain ⟨σ', H', I, q⟩ := h; exact ⟨σ', H', I.unwish, q⟩
  | brk => obtain ⟨σ', H', I, q⟩ := h; exact ⟨σ', H', I.unwish, q⟩
  | cont => obtain ⟨σ', H', I, q⟩ := h; exact ⟨σ', H', I.unwish, q⟩
  | ret u => obtain ⟨v, σ', H', I, r, q⟩ := h; exact ⟨v, σ', H', I.unwish, r, q⟩
theorem PE.nox {e : Expr} {t : TE} (h : PE X.nox e t) : PE X e t := fun pins s σ H Q I hw =>
  wpAny_mono (h pins s σ H Q (I.wish _) hw) (fun _ _ ⟨v, H', I', r, q⟩ => ⟨v, H', I'.unwish, r, q⟩) fun _ _ z => False.elim z
theorem PT.nox {e : Expr} {t : TT} (h : PT X.nox e t) : PT X e t := fun pins s σ H Q I hw =>
  wpAny_mono (h pins s σ H Q (I.wish _) hw) (fun _ _ ⟨H', I', q⟩ => ⟨H', I'.unwish, q⟩) fun _ _ z => False.elim z
theorem PSs.nox {st : List Stmt} {t : TS} (h : PSs X.nox st t) : PSs X st t := fun pins s σ H D I hw =>
  wpAny_mono (h pins s σ H D (I.wish _) hw) (fun _ _ q => q.unwish) fun _ _ z => False.elim z
end

/-! ### blocks and small statements -/
section
variable {X : Cx} {st : Stmt} {rest : List Stmt} {t u : TS} {e : Expr} {te : TE} {pos : Pos}
def tNext : TS := fun D σ H => D.nx σ H
def tSeq (t u : TS) : TS := fun D σ H => t { D with nx := u D } σ H
theorem pss_nil : PSs X [] tNext := fun _ _ σ H _ I h => wpAny_execs_nil ⟨σ, H, I, h⟩
theorem pss_cons (h1 : PS X st t) (h2 : PSs X rest u) : PSs X (st :: rest) (tSeq t u) := by
  intro pins s σ H D I h
  refine wpAny_execs_cons (thn (h1 pins s σ H { D with nx := u D } I h) fun f s1 q => ?_)
  cases f with
  | next =>
    obtain ⟨σ', H', I', q⟩ := q
    exact h2 pins s1 σ' H' D I' q
  | ret v => exact q
  | brk => exact q
  | cont => exact q
theorem pss_one (h1 : PS X st t) : PSs X [st] t := by
  intro pins s σ H D I h
  refine wpAny_execs_cons (thn (h1 pins s σ H D I h) fun f s1 q => ?_)
  cases f with
  | next => exact wpAny_execs_nil q
  | ret v => exact q
  | brk => exact q
  | cont => exact q
theorem Inv.quiet {pins : List (Addr × Obj)} {σ : St} {H : Hp} {s : Shared} (I : Inv X pins σ H s) : interactive X.env = false := by simp [interactive, I.ok.kind]
def tDrop (te : TE) : TS := fun D σ H => te σ H fun _ H1 => D.nx σ H1
theorem ps_expr (he : PE X e te) (hs : swapsWith e none pos.line X.env = pure false := by rfl) : PS X (.Expr e pos) (tDrop te) := by
  intro pins s σ H D I h
  exact wpAny_Expr_any (thn (he pins s σ H _ I h) fun v s1 ⟨x, H1, I1, r1, q1⟩ => ⟨σ, H1, I1, q1⟩) I.quiet hs
def tRet (te : TE) : TS := fun D σ H => te σ H D.rt
theorem ps_ret (he : PE X e te) : PS X (.Return (some e) pos) (tRet te) := by
  intro pins s σ H D I h
  exact wpAny_Return_some (thn (he pins s σ H _ I h) fun v s1 ⟨x, H1, I1, r1, q1⟩ => ⟨x, σ, H1, I1, r1, q1⟩)
def tIfS (c : TT) (t u : TS) : TS := fun D σ H => c σ H fun b H1 => if b = true then t D σ H1 else u D σ H1
theorem ps_if {c : Expr} {a b : List Stmt} {tc : TT} (hc : PT X c tc) (ha : PSs X a t) (hb : PSs X b u) : PS X (.If c a b pos) (tIfS tc t u) := by
  intro pins s σ H D I h
  refine wpAny_If (thn (hc pins s σ H _ I h) fun d s1 ⟨H1, I1, q1⟩ => ?_)
  cases d with
  | true => exact ha pins s1 σ H1 D I1 q1
  | false => exact hb pins s1 σ H1 D I1 q1
end

/-! ### targets -/
abbrev TG := V → St → Hp → (St → Hp → Prop) → Prop
abbrev TGs := List V → St → Hp → (St → Hp → Prop) → Prop
def PG (X : Cx) (target : Expr) (t : TG) : Prop :=
  ∀ (pins : List (Addr × Obj)) (s : Shared) (σ : St) (H : Hp) (v : V) (u : Value) (Q : St → Hp → Prop), Inv X pins σ H s → RelV v u → t v σ H Q →
    wpAny (model X.prog X.w) X.A (assign target X.env u) (fun _ s' => ∃ σ' H', Inv X pins σ' H' s' ∧ Q σ' H') X.xe s
def PGs (X : Cx) (ts : List Expr) (t : TGs) : Prop :=
  ∀ (pins : List (Addr × Obj)) (s : Shared) (σ : St) (H : Hp) (vs : List V) (us : List Value) (Q : St → Hp → Prop), Inv X pins σ H s → Vals vs us → t vs σ H Q →
    wpAny (model X.prog X.w) X.A (assignInOrder ((assignEach ts X.env).map (·.2)) us) (fun _ s' => ∃ σ' H', Inv X pins σ' H' s' ∧ Q σ' H') X.xe s
abbrev TSet := V → V → V → Hp → (Hp → Prop) → Prop
def PSet (X : Cx) (t : TSet) : Prop :=
  ∀ (pins : List (Addr × Obj)) (s : Shared) (σ : St) (H : Hp) (o i v : V) (ov iv u : Value) (Q : Hp → Prop), Inv X pins σ H s → RelV o ov → RelV i iv → RelV v u → t o i v H Q →
    wpAny (model X.prog X.w) X.A (setItem ov iv u) (fun _ s' => ∃ H', Inv X pins σ H' s' ∧ Q H') X.xe s
section
variable {X : Cx} {pos : Pos}
def gName (i : Nat) : TG := fun v σ H Q => Q (σ.set i (some v)) H
theorem pg_name {i : Nat} {x : Str} (hN : X.N.Nodup) (hi : X.N[i]? = some x) (hx : Loc X.env.scope x) (hf : X.fn x = true ∨ X.env.scope.names.lookup x = some .local := by first | exact .inl rfl | exact .inr rfl | assumption) : PG X (.Name x pos) (gName i) := by
  intro pins s σ H v u Q I r h
  exact wpAny_assign_Name (store_ok I hN hi hx r (fun s' I' => ⟨_, H, I', h⟩) hf)
def gNil : TGs := fun vs σ H Q => vs = [] ∧ Q σ H
def gCons (t : TG) (u : TGs) : TGs := fun vs σ H Q => ∃ v r, vs = v :: r ∧ t v σ H fun σ' H' => u r σ' H' Q
theorem pgs_nil : PGs X [] gNil := by
  intro pins s σ H vs us Q I r h
  obtain ⟨e, h⟩ := h
  subst e
  cases r
  exact assignInOrder_nil ⟨σ, H, I, h⟩
theorem pgs_cons {e : Expr} {es : List Expr} {t : TG} {u : TGs} (h1 : PG X e t) (h2 : PGs X es u)
    (hs : (assignEach (e :: es) X.env).map (·.2) = assign e X.env :: (assignEach es X.env).map (·.2) := by rfl) : PGs X (e :: es) (gCons t u) := by
  intro pins s σ H vs us Q I r h
  obtain ⟨v, vr, e1, h⟩ := h
  subst e1
  cases r with
  | cons r rr =>
    rw [hs]
    refine assignInOrder_cons (thn (h1 pins s σ H _ _ _ I r h) fun _ s1 ⟨σ1, H1, I1, q1⟩ => ?_)
    exact h2 pins s1 σ1 H1 _ _ Q I1 rr q1
def gTup (K : PySem.W.Frag) (n : Nat) (t : TGs) : TG := fun v σ H Q => ∃ a xs, v = .ref a ∧ SqT K H a xs ∧ xs.length = n ∧ t xs σ H Q
theorem pg_tup {es : List Expr} {k : Nat} {t : TGs} {n : Nat} (hc : X.calm = true) (h : PGs X es t)
    (hn : (assignEach es X.env).length = n := by rfl) (hst : (assignEach es X.env).findIdx? (·.1) = none := by rfl) : PG X (.Tuple es k pos) (gTup X.K n t) := by
  intro pins s σ H v u Q I r hw
  obtain ⟨a, xs, e1, hq, hl, hw⟩ := hw
  subst e1
  cases r
  obtain ⟨its, rv, ht, hz⟩ := I.tuple hq
  refine assign_Tuple_tuple (I.ok.hd hc) ht (by simp [hn, ← hl, rv.length]) hst fun h' hx => ?_
  have I1 : Inv X pins σ H { s with heap := h' } := I.kept (t' := s.toks) fun b o e => hx b o (Nat.ne_of_lt (Heap.lt_size e)) e
  exact h pins _ σ H xs _ Q I1 (by simpa using rv) hw
def gSub (to ti : TE) (t : TSet) : TG := fun v σ H Q => to σ H fun o H1 => ti σ H1 fun i H2 => t o i v H2 fun H3 => Q σ H3
theorem pg_sub {o i : Expr} {to ti : TE} {t : TSet} (ho : PE X o to) (hi : PE X i ti) (hs : PSet X t)
    (ha : ∀ v, assign (.Subscript o i pos) X.env v = (do
      let ov ← holding [v] (eval o X.env)
      let iv ← holding [v, ov] (eval i X.env)
      standAt pos
      holding [v, ov, iv] (setItem ov iv v)
      release [v, ov, iv] []) := by intro _; rfl) : PG X (.Subscript o i pos) (gSub to ti t) := by
  intro pins s σ H v u Q I r h
  rw [ha]
  refine wpAny_bind (wpAny_holding (thn (ho pins s σ H _ I h) fun ov s1 ⟨x, H1, I1, r1, q1⟩ => ?_))
  refine wpAny_bind (wpAny_holding (thn (hi pins s1 σ H1 _ I1 q1) fun iv s2 ⟨y, H2, I2, r2, q2⟩ => ?_))
  refine wpAny_bind (wpAny_standAt (wpAny_bind (wpAny_holding (thn (hs pins s2 σ H2 x y v ov iv u _ I2 r1 r2 r q2) fun _ s3 ⟨H3, I3, q3⟩ => ?_))))
  exact wpAny_release ⟨σ, H3, I3, q3⟩
def tAsg (te : TE) (g : TG) : TS := fun D σ H => te σ H fun x H1 => g x σ H1 D.nx
theorem ps_asg {tg e : Expr} {te : TE} {g : TG} (he : PE X e te) (hg : PG X tg g) (hs : swapsWithSole [tg] e pos.line X.env = pure false := by rfl) (hw : swappedStores [tg] e X.env = pure none := by rfl)
    (h1 : (assignEach [tg] X.env).map (·.2) = [assign tg X.env] := by rfl) : PS X (.Assign [tg] e pos) (tAsg te g) := by
  intro pins s σ H D I h
  refine wpAny_Assign_stores (thn (he pins s σ H _ I h) fun v s1 ⟨x, H1, I1, r1, q1⟩ => ?_) hs hw
  rw [h1]
  exact thn (hg pins s1 σ H1 x v _ I1 r1 q1) fun _ s2 q => q
theorem ps_set {i : Nat} {x : Str} {e : Expr} {te : TE} {pos' : Pos} (hN : X.N.Nodup) (hi : X.N[i]? = some x) (hx : Loc X.env.scope x) (he : PE X e te) (hs : swapsWith e (some (.Name x pos')) pos.line X.env = pure false := by rfl) (hf : X.fn x = true ∨ X.env.scope.names.lookup x = some .local := by first | exact .inl rfl | exact .inr rfl | assumption) :
    PS X (.Assign [.Name x pos'] e pos) (tAsg te (gName i)) := by
  intro pins s σ H D I h
  refine wpAny_Assign_Name (thn (he pins s σ H _ I h) fun v s1 ⟨y, H1, I1, r1, q1⟩ => ?_) hs
  exact store_ok I1 hN hi hx r1 (fun s2 I2 => ⟨_, H1, I2, q1⟩) hf
def tPar (i j : Nat) (ta : TA) : TS := fun D σ H => ta σ H fun vs H1 => ∃ v w, vs = [v, w] ∧ D.nx ((σ.set i (some v)).set j (some w)) H1
theorem ps_par {i j : Nat} {x y : Str} {a b : Expr} {ta : TA} {px py pt : Pos} {kt k2 pt2} (hc : X.calm = true) (hN : X.N.Nodup) (hi : X.N[i]? = some x) (hj : X.N[j]? = some y) (hij : i ≠ j)
    (hx : X.env.scope.names.lookup x = some .local) (hy : X.env.scope.names.lookup y = some .local) (ha : PA X [a, b] ta)
    (hw : swappedStores [.Tuple [.Name x px, .Name y py] kt pt] (.Tuple [a, b] k2 pt2) X.env = pure (some [x, y]))
    (hs : swapsWithSole [.Tuple [.Name x px, .Name y py] kt pt] (.Tuple [a, b] k2 pt2) pos.line X.env = pure false := by rfl) :
    PS X (.Assign [.Tuple [.Name x px, .Name y py] kt pt] (.Tuple [a, b] k2 pt2) pos) (tPar i j ta) := by
  intro pins s σ H D I h
  rw [exec_Assign_arm]
  refine wpAny_bind (wpAny_standAt ?_)
  rw [hs]
  refine wpAny_bind (wpAny_pure ?_)
  rw [if_neg (by decide)]
  refine wpAny_bind (Tuple_ (thn (ha _ pins s σ H _ I h) fun us s1 ⟨vs, H1, I1, r1, q1⟩ => ?_))
  obtain ⟨v, w, e1, q1⟩ := q1
  subst e1
  obtain ⟨u1, u2, rfl, rv, rw'⟩ : ∃ u1 u2, us = [u1, u2] ∧ RelV v u1 ∧ RelV w u2 := by
    cases r1 with
    | cons p q =>
      cases q with
      | cons p' q' =>
        cases q'
        exact ⟨_, _, rfl, p, p'⟩
  refine wpAny_newObj_type ?_ (by show 2 ≤ sizeLine; decide)
  have I2 : Inv X pins σ H1 { s1 with heap := s1.heap.push { cls := .type "tuple", data := .seq [u1, u2].toArray } } := I1.kept (t' := s1.toks) fun b o e => Heap.get?_push_of_some _ e
  rw [hw]
  refine wpAny_bind (wpAny_pure ?_)
  show wpAny (model X.prog X.w) X.A (do rule "assign.swapped-stores"; let items ← unpackItems (.ref s1.heap.objs.size) 2 none; assignInOrder [fun v => bindName X.env y v, fun v => bindName X.env x v] items.reverse; pure Flow.next) _ _ _
  refine wpAny_bind (wpAny_rule (wpAny_bind (unpackItems_tuple (items := #[u1, u2]) (I.ok.hd hc) (IsTup.new s1.heap _) fun h' hx' => ?_)))
  have I3 := I2.kept (h' := h') (t' := s1.toks) fun b o e => hx' b o (Nat.ne_of_lt (Heap.lt_size e)) e
  show wpAny _ _ (assignInOrder [fun v => bindName X.env y v, fun v => bindName X.env x v] [u2, u1] >>= fun _ => pure Flow.next) _ _ _
  refine wpAny_bind (assignInOrder_cons (wpAny_bindName (store_ok I3 hN hj (.inl hy) rw' (fun s2 I4 => ?_) (.inr hy))))
  refine assignInOrder_cons (wpAny_bindName (store_ok I4 hN hi (.inl hx) rv (fun s3 I5 => assignInOrder_nil (wpAny_pure ?_)) (.inr hx)))
  rw [List.set_comm _ _ (Ne.symm hij)] at I5
  exact ⟨_, H1, I5, q1⟩
end

/-! ### while -/
section
variable {X : Cx} {pos : Pos}
end

/-! ### what a loop or a comprehension walks -/
structure It where
  go : Nat → Hp → Prop
  yld : Nat → Hp → V → Hp → Prop
  stop : Nat → Hp → Prop
def FpOk (X : Cx) (pins : List (Addr × Obj)) (H : Hp) (b : Addr) : Prop :=
  H b = none ∧ b ≠ X.env.locals ∧ b ∉ X.fs ∧ (b ∈ X.ex ∨ X.s₀.heap.objs.size ≤ b) ∧ (∀ x c, X.env.cells.lookup x = some c → c ≠ b) ∧ ∀ p ∈ X.pn ++ pins, p.1 ≠ b
theorem Inv.fpOk {X : Cx} {pins : List (Addr × Obj)} {σ : St} {H H' : Hp} {s : Shared} {b : Addr} (I : Inv X pins σ H s) (hb : s.heap.objs.size ≤ b) (hn : H' b = none) : FpOk X pins H' b := by
  refine ⟨hn, Nat.ne_of_gt (Nat.lt_of_lt_of_le I.lt hb), I.nofs hb, .inr (Nat.le_trans I.sz hb), fun x c e z => ?_, fun p hp z => ?_⟩
  · obtain ⟨v, q⟩ := I.cell x c e
    exact absurd (Nat.lt_of_lt_of_le q.lt (by rw [z]; exact hb)) (Nat.lt_irrefl _)
  · exact absurd (Nat.lt_of_lt_of_le (Heap.lt_size (I.pin p hp).1) (by rw [z]; exact hb)) (Nat.lt_irrefl _)
structure Turn (P : Program) (w : World) (K : PySem.W.Frag) (tg : Expr) (J : It) (fp : List Addr) (it : Addr) (tn : Nat → Heap → Prop) : Prop where
  mem : it ∈ fp
  obj : ∀ i h, tn i h → ∀ b ∈ fp, ∃ o, h.get? b = some o ∧ ∀ v, o.data ≠ .cell v
  keep : ∀ i h h', tn i h → (∀ b ∈ fp, ∀ o, h.get? b = some o → h'.get? b = some o) → tn i h'
  item : ∀ (X : Cx), X.prog = P → X.w = w → X.K = K → X.calm = true → ∀ (i : Nat) (pins : List (Addr × Obj)) (s : Shared) (σ : St) (H : Hp) (E : Value → Shared → Prop), Inv X pins σ H s → (∀ b ∈ fp, FpOk X pins H b) → tn i s.heap → J.go i H →
    wpAny (model P w) X.A (pyNext (.ref it)) (fun r s1 => ∃ u, r = some u ∧
      wpAny (model P w) X.A (letOwnedTupleGo tg (.ref it) u) (fun _ s2 => ∃ x H', Inv X pins σ H' s2 ∧ RelV x u ∧ J.yld i H x H' ∧ tn (i + 1) s2.heap ∧ ∀ b ∈ fp, H' b = none) E s1) E s
  done : ∀ (X : Cx), X.prog = P → X.w = w → X.K = K → X.calm = true → ∀ (i : Nat) (pins : List (Addr × Obj)) (s : Shared) (σ : St) (H : Hp) (E : Value → Shared → Prop), Inv X pins σ H s → (∀ b ∈ fp, FpOk X pins H b) → tn i s.heap → J.stop i H →
    wpAny (model P w) X.A (pyNext (.ref it)) (fun r s1 => r = none ∧ Inv X pins σ H s1) E s
  self : ∀ (A : Around) (i : Nat) (s : Shared) (Q : Value → Shared → Prop) (E : Value → Shared → Prop), tn i s.heap → Q (.ref it) s → wpAny (model P w) A (pyIter (.ref it)) Q E s
abbrev TI := St → Hp → (It → Hp → Prop) → Prop
def PIE (X : Cx) (pins : List (Addr × Obj)) (σ : St) (tg : Expr) (R : It → Hp → Prop) (itv : Value) (s2 : Shared) : Prop :=
  ∃ (it : Addr) (fp : List Addr) (tn : Nat → Heap → Prop) (J : It) (H' : Hp), itv = .ref it ∧ Inv X pins σ H' s2 ∧ Turn X.prog X.w X.K tg J fp it tn ∧ tn 0 s2.heap ∧ (∀ b ∈ fp, FpOk X pins H' b) ∧ R J H'
def PI (X : Cx) (tg iter : Expr) (wi : TI) : Prop :=
  ∀ (pins : List (Addr × Obj)) (s : Shared) (σ : St) (H : Hp) (R : It → Hp → Prop), Inv X pins σ H s → wi σ H R →
    wpAny (model X.prog X.w) X.A (eval iter X.env) (fun v s1 => wpAny (model X.prog X.w) X.A (pyIter v) (PIE X pins σ tg R) X.xe s1) X.xe s

theorem go_of {M : Model} {A : Around} {E : Value → Shared → Prop} {s : Shared} {tg : Expr} {it : Addr} {u : Value} {o : Obj} {n : String} {vs : Array Value} {Q : Unit → Shared → Prop} (ho : s.heap.get? it = some o) (hc : o.cls = .type n) (hd : o.data = .fields vs)
    (hn : ["enumerate", "zip", "dict_itemiterator", "dict_reverseitemiterator", "odict_iterator", "itertools.zip_longest", "itertools.pairwise"].contains n = false) (hQ : Q () s) : wpAny M A (letOwnedTupleGo tg (.ref it) u) Q E s := by
  unfold letOwnedTupleGo
  cases tg <;> first
    | exact wpAny_pure hQ
    | (cases u <;> first
        | exact wpAny_pure hQ
        | (refine wpAny_bind (wpAny_load ho ?_)
           rw [hc, hd]
           show wpAny M A (if (["enumerate", "zip", "dict_itemiterator", "dict_reverseitemiterator", "odict_iterator", "itertools.zip_longest", "itertools.pairwise"].contains n && vs[0]? == some (rawInt _)) = true then _ else _) Q E s
           rw [if_neg (by intro h; rw [hn, Bool.false_and] at h; cases h)]
           exact wpAny_pure hQ))

def Itl (K : PySem.W.Frag) (a : Addr) : It :=
  ⟨fun i H => ∃ xs x, SqL K H a xs ∧ xs[i]? = some x, fun i H x H' => H' = H ∧ ∀ xs, SqL K H a xs → xs[i]? = some x, fun i H => ∃ xs, SqL K H a xs ∧ xs.length ≤ i⟩
def Itt (K : PySem.W.Frag) (a : Addr) : It :=
  ⟨fun i H => ∃ xs x, SqT K H a xs ∧ xs[i]? = some x, fun i H x H' => H' = H ∧ ∀ xs, SqT K H a xs → xs[i]? = some x, fun i H => ∃ xs, SqT K H a xs ∧ xs.length ≤ i⟩
def Itr (lo : Int) (n : Nat) : It := ⟨fun i _ => i < n, fun i H x H' => H' = H ∧ x = .int (lo + i), fun i _ => n ≤ i⟩
theorem turn_list {P : Program} {w : World} {K : PySem.W.Frag} {tg : Expr} (a it : Addr) : Turn P w K tg (Itl K a) [it] it (fun i h => h.IsListIter it a i) where
  mem := by simp
  obj := fun i h st b hb => by
    have e : b = it := by simpa using hb
    subst e
    obtain ⟨o, e, c, d⟩ := st
    exact ⟨o, e, fun v z => by rw [d] at z; cases z⟩
  keep := fun i h h' st k => st.at fun o e => k it (by simp) o e
  item := by
    intro X hP hw hK hc i pins s σ H E I hf st hg
    subst hP hw hK
    obtain ⟨xs, x, hq, hx⟩ := hg
    obtain ⟨its, rv, p, hz⟩ := I.list hq
    obtain ⟨u, hu, ru⟩ := rv.get hx
    obtain ⟨f0, f1, f2, f3, f4, f5⟩ := hf it (by simp)
    refine wpAny_pyNext_list_item st p.isList (x := u) (by simpa using hu) fun h' st' sb => ?_
    have I1 : Inv X pins σ H { s with heap := h' } := I.turned (t' := s.toks) (fun b o hb e => (sb.2 b hb).trans e) f0 f1 f3 f4 f5
    obtain ⟨o, e, c, d⟩ := id st'
    exact ⟨u, rfl, go_of (s := { s with heap := h' }) e c d (by decide) ⟨x, H, I1, ru, ⟨rfl, fun ys hy => by rw [I.list_inj hy hq]; exact hx⟩, st', fun b hb => (hf b hb).1⟩⟩
  done := by
    intro X hP hw hK hc i pins s σ H E I hf st hg
    subst hP hw hK
    obtain ⟨xs, hq, hx⟩ := hg
    obtain ⟨its, rv, p, hz⟩ := I.list hq
    obtain ⟨f0, f1, f2, f3, f4, f5⟩ := hf it (by simp)
    have hl := rv.length
    exact wpAny_pyNext_list_end (I.ok.hd hc) st p.isList (by simp; omega) fun h' eb => ⟨rfl, I.turned (t' := s.toks) (fun b o hb e => eb b o hb e) f0 f1 f3 f4 f5⟩
  self := fun _ _ _ _ _ st h => wpAny_pyIter_listiter st h
theorem turn_tuple {P : Program} {w : World} {K : PySem.W.Frag} {tg : Expr} (a it : Addr) : Turn P w K tg (Itt K a) [it] it (fun i h => h.IsTupleIter it a i) where
  mem := by simp
  obj := fun i h st b hb => by
    have e : b = it := by simpa using hb
    subst e
    obtain ⟨o, e, c, d⟩ := st
    exact ⟨o, e, fun v z => by rw [d] at z; cases z⟩
  keep := fun i h h' st k => st.at fun o e => k it (by simp) o e
  item := by
    intro X hP hw hK hc i pins s σ H E I hf st hg
    subst hP hw hK
    obtain ⟨xs, x, hq, hx⟩ := hg
    obtain ⟨its, rv, p, hz⟩ := I.tuple hq
    obtain ⟨u, hu, ru⟩ := rv.get hx
    obtain ⟨f0, f1, f2, f3, f4, f5⟩ := hf it (by simp)
    refine wpAny_pyNext_tuple_item st (show s.heap.IsTuple a its.toArray from p) (x := u) (by simpa using hu) fun h' st' sb => ?_
    have I1 : Inv X pins σ H { s with heap := h' } := I.turned (t' := s.toks) (fun b o hb e => (sb.2 b hb).trans e) f0 f1 f3 f4 f5
    obtain ⟨o, e, c, d⟩ := id st'
    exact ⟨u, rfl, go_of (s := { s with heap := h' }) e c d (by decide) ⟨x, H, I1, ru, ⟨rfl, fun ys hy => by rw [I.tuple_inj hy hq]; exact hx⟩, st', fun b hb => (hf b hb).1⟩⟩
  done := by
    intro X hP hw hK hc i pins s σ H E I hf st hg
    subst hP hw hK
    obtain ⟨xs, hq, hx⟩ := hg
    obtain ⟨its, rv, p, hz⟩ := I.tuple hq
    obtain ⟨f0, f1, f2, f3, f4, f5⟩ := hf it (by simp)
    have hl := rv.length
    exact wpAny_pyNext_tuple_end (I.ok.hd hc) st (show s.heap.IsTuple a its.toArray from p) (by simp; omega) fun h' eb => ⟨rfl, I.turned (t' := s.toks) (fun b o hb e => eb b o hb e) f0 f1 f3 f4 f5⟩
  self := fun _ _ _ _ _ st h => wpAny_pyIter_tupleiter st h
theorem turn_range {P : Program} {w : World} {K : PySem.W.Frag} {tg : Expr} (it : Addr) (lo : Int) (n : Nat) : Turn P w K tg (Itr lo n) [it] it (fun i h => IsRangeIter h it (lo + (i : Nat) * 1) ((n : Int) - (i : Nat)) 1) where
  mem := by simp
  obj := fun i h st b hb => by
    have e : b = it := by simpa using hb
    subst e
    exact ⟨_, st, fun v z => by
      have z' : Data.fields _ = Data.cell v := z
      cases z'⟩
  keep := fun i h h' st k => k it (by simp) _ st
  item := by
    intro X hP hw hK hc i pins s σ H E I hf st hg
    subst hP hw hK
    obtain ⟨f0, f1, f2, f3, f4, f5⟩ := hf it (by simp)
    have W := Walks.range (prog := X.prog) (w := X.w) (I.ok.hd hc) it lo 1 n
    refine W.item i s _ _ hg st fun v h' tk hv st' kk => ?_
    obtain ⟨t, rfl⟩ := hv
    have I1 : Inv X pins σ H { s with heap := h', toks := tk } := I.turned (fun b o hb e => kk b o (by simpa using hb) e) f0 f1 f3 f4 f5
    refine ⟨_, rfl, go_of (s := { s with heap := h', toks := tk }) (n := "range_iterator") st' rfl rfl (by decide) ⟨.int (lo + i), H, I1, ⟨t, ?_⟩, ⟨rfl, rfl⟩, st', fun b hb => (hf b hb).1⟩⟩
    rw [Int.mul_one]
  done := by
    intro X hP hw hK hc i pins s σ H E I hf st hg
    subst hP hw hK
    obtain ⟨f0, f1, f2, f3, f4, f5⟩ := hf it (by simp)
    exact wpAny_pyNext_range_end (I.ok.hd hc) st (by have : n ≤ i := hg; omega) fun h' eb => ⟨rfl, I.turned (t' := s.toks) (fun b o hb e => eb b o hb e) f0 f1 f3 f4 f5⟩
  self := fun _ _ _ _ _ st h => wpAny_pyIter_rangeiter st h
end L2

namespace L2
open PySem PySem.Spec PyProof.Rows
section
variable {X : Cx} {tg : Expr}
def iList (K : PySem.W.Frag) (tl : TE) : TI := fun σ H R => tl σ H fun x H1 => ∃ a, x = .ref a ∧ (∃ xs, SqL K H1 a xs) ∧ R (Itl K a) H1
def iTup (K : PySem.W.Frag) (tl : TE) : TI := fun σ H R => tl σ H fun x H1 => ∃ a, x = .ref a ∧ (∃ xs, SqT K H1 a xs) ∧ R (Itt K a) H1
theorem pi_list {l : Expr} {tl : TE} (hl : PE X l tl) : PI X tg l (iList X.K tl) := by
  intro pins s σ H R I h
  refine thn (hl pins s σ H _ I h) fun v s1 ⟨x, H1, I1, r1, q1⟩ => ?_
  obtain ⟨a, e, ⟨xs, hq⟩, q⟩ := q1
  subst e
  cases r1
  obtain ⟨its, rv, p, hz⟩ := I1.list hq
  refine wpAny_pyIter_list p.isList ?_
  refine ⟨s1.heap.objs.size, [s1.heap.objs.size], _, _, H1, rfl, I1.kept (t' := s1.toks) fun b o e => Heap.get?_push_of_some _ e, turn_list a _, ⟨_, Heap.get?_push_size _ rfl, rfl, rfl⟩, fun b hb => ?_, q⟩
  have e : b = s1.heap.objs.size := by simpa using hb
  subst e
  exact I1.fpOk (Nat.le_refl _) (I1.hok.fresh (Nat.le_refl _))
theorem pi_tup {l : Expr} {tl : TE} (hl : PE X l tl) : PI X tg l (iTup X.K tl) := by
  intro pins s σ H R I h
  refine thn (hl pins s σ H _ I h) fun v s1 ⟨x, H1, I1, r1, q1⟩ => ?_
  obtain ⟨a, e, ⟨xs, hq⟩, q⟩ := q1
  subst e
  cases r1
  obtain ⟨its, rv, p, hz⟩ := I1.tuple hq
  refine wpAny_pyIter_tuple (show s1.heap.IsTuple a its.toArray from p) ?_
  refine ⟨s1.heap.objs.size, [s1.heap.objs.size], _, _, H1, rfl, I1.kept (t' := s1.toks) fun b o e => Heap.get?_push_of_some _ e, turn_tuple a _, ⟨_, Heap.get?_push_size _ rfl, rfl, rfl⟩, fun b hb => ?_, q⟩
  have e : b = s1.heap.objs.size := by simpa using hb
  subst e
  exact I1.fpOk (Nat.le_refl _) (I1.hok.fresh (Nat.le_refl _))
theorem range_it {pins : List (Addr × Obj)} {σ : St} {H : Hp} {s : Shared} {R : It → Hp → Prop} {E : Value → Shared → Prop} {lo hi : Int} {t u v : Tok} {tk : Nat} (I : Inv X pins σ H s) (h1 : -(2 ^ 62) ≤ lo) (h2 : lo < 2 ^ 62) (h3 : -(2 ^ 62) ≤ hi) (h4 : hi < 2 ^ 62)
    (q : R (Itr lo (hi - lo).toNat) H) : wpAny (model X.prog X.w) X.A (pyIter (.ref s.heap.objs.size)) (PIE X pins σ tg R) E { s with heap := s.heap.push { cls := .type "range", data := .fields #[.int lo t, .int hi u, .int 1 v] }, toks := tk } := by
  refine wpAny_pyIter_range (IsRange.new ..) (small_one h1 h2 h3 h4) ?_
  have I1 : Inv X pins σ H { s with heap := s.heap.push { cls := .type "range", data := .fields #[.int lo t, .int hi u, .int 1 v] }, toks := tk } := I.kept fun b o e => Heap.get?_push_of_some _ e
  refine ⟨(s.heap.push { cls := .type "range", data := .fields #[.int lo t, .int hi u, .int 1 v] }).objs.size, [(s.heap.push { cls := .type "range", data := .fields #[.int lo t, .int hi u, .int 1 v] }).objs.size], _, _, H, rfl,
    I1.kept (t' := tk) fun b o e => Heap.get?_push_of_some _ e, turn_range _ lo (hi - lo).toNat, ?_, fun b hb => ?_, q⟩
  · have e1 : lo + ((0 : Nat) : Int) * 1 = lo := by simp
    have e2 : (((hi - lo).toNat : Nat) : Int) - ((0 : Nat) : Int) = Builtin.Range.rangeSize lo hi 1 := by rw [rangeSize_one]; split <;> omega
    show IsRangeIter _ _ (lo + ((0 : Nat) : Int) * 1) ((((hi - lo).toNat : Nat) : Int) - ((0 : Nat) : Int)) 1
    rw [e1, e2]
    exact Heap.get?_push_size _ rfl
  · have e : b = (s.heap.push { cls := .type "range", data := .fields #[.int lo t, .int hi u, .int 1 v] }).objs.size := by simpa using hb
    subst e
    exact I1.fpOk (Nat.le_refl _) (I1.hok.fresh (Nat.le_refl _))
def iRng1 (ta : TA) : TI := fun σ H R => ta σ H fun vs H1 => ∃ j : Int, vs = [.int j] ∧ -(2 ^ 62) ≤ j ∧ j < 2 ^ 62 ∧ R (Itr 0 j.toNat) H1
theorem pi_range1 {a : Expr} {ta : TA} {p pos : Pos} (hg : Gl X "range") (hm : X.mg "range" = none) (ha : PA X [a] ta) (hs : starEach [a] X.env = [(false, eval a X.env)] := by rfl) : PI X tg (.Call (.Name "range" p) [a] [] pos) (iRng1 ta) := by
  intro pins s σ H R I h
  refine Call_ (ld_blt I hg hm boot_range (PyProof.Rows.callWith_type1 (thn (ha pos pins s σ H _ I h) fun us s1 ⟨vs, H1, I1, r1, q1⟩ => ?_) hs rfl))
  obtain ⟨j, e, q1, q2, q⟩ := q1
  subst e
  cases r1 with
  | cons r rr =>
    cases rr
    obtain ⟨t, rfl⟩ := r
    exact call_range_1 (range_it I1 (by omega) (by omega) q1 q2 (by simpa using q))
/-! ### for -/
def tFor (wi : TI) (g : TG) (tb : TS) : TS := fun D σ H => wi σ H fun J H1 => ∃ W : Nat → Nat → St → Hp → Prop, (∃ m, W 0 m σ H1) ∧ ∀ i m σ H, W i m σ H →
  (J.stop i H ∧ D.nx σ H) ∨ (J.go i H ∧ ∃ N : St → Hp → Prop, (∀ σ' H', N σ' H' → ∃ m', m' < m ∧ W (i + 1) m' σ' H') ∧ ∀ x H', J.yld i H x H' → g x σ H' fun σ2 H2 => tb { D with nx := N, ct := N, bk := D.nx } σ2 H2)
def pinsAt (fp : List Addr) (h : Heap) : List (Addr × Obj) := fp.filterMap fun b => (h.get? b).map fun o => (b, o)
theorem mem_pinsAt {fp : List Addr} {h : Heap} {b : Addr} {o : Obj} (hb : b ∈ fp) (e : h.get? b = some o) : (b, o) ∈ pinsAt fp h := List.mem_filterMap.mpr ⟨b, hb, by rw [e]; rfl⟩
theorem of_pinsAt {fp : List Addr} {h : Heap} {p : Addr × Obj} (hp : p ∈ pinsAt fp h) : p.1 ∈ fp ∧ h.get? p.1 = some p.2 := by
  obtain ⟨b, hb, e⟩ := List.mem_filterMap.mp hp
  cases q : h.get? b with
  | none => rw [q] at e; cases e
  | some o =>
    rw [q] at e
    have e' : (b, o) = p := Option.some.inj e
    subst e'
    exact ⟨hb, q⟩
theorem Inv.pinned {pins : List (Addr × Obj)} {σ : St} {H : Hp} {s : Shared} {fp : List Addr} (I : Inv X pins σ H s) (hf : ∀ b ∈ fp, FpOk X pins H b) (ho : ∀ b ∈ fp, ∃ o, s.heap.get? b = some o ∧ ∀ v, o.data ≠ .cell v) : Inv X (pins ++ pinsAt fp s.heap) σ H s :=
  I.pins_of fun p hp => (List.mem_append.mp hp).elim (fun z => I.pin p (List.mem_append_right _ z)) fun z => by
    obtain ⟨hb, e⟩ := of_pinsAt z
    obtain ⟨f0, f1, f2, _⟩ := hf p.1 hb
    obtain ⟨o, e', d⟩ := ho p.1 hb
    rw [e] at e'; cases e'
    exact ⟨e, f0, f1, f2, d⟩
theorem Inv.unpinned {pins pl : List (Addr × Obj)} {σ : St} {H : Hp} {s : Shared} (I : Inv X (pins ++ pl) σ H s) : Inv X pins σ H s := I.pins_of fun p hp => I.pin p (List.mem_append_right _ (List.mem_append_left _ hp))
theorem ps_for {iter : Expr} {body : List Stmt} {wi : TI} {g : TG} {tb : TS} {pos : Pos} (hp : PassesOwn (model X.prog X.w) X.A X.env X.xe) (hc : X.calm = true) (hi : PI X tg iter wi) (hg : PG X tg g) (hb : PSs X body tb)
    (hs : ∀ x, foldedSetIterable iter X.env x = pure x := by intro _; rfl) : PS X (.For tg iter body [] pos) (tFor wi g tb) := by
  intro pins s σ H D I h
  refine wpAny_For (thn (hi pins s σ H _ I h) fun v s1 h1 => thn h1 fun itv s2 h2 => ?_) hs
  obtain ⟨it, fp, tn, J, H2, e, I2, T, st2, f2, W, ⟨m0, w0⟩, turn⟩ := h2
  subst e
  -- what stays true of the iterator's objects through the loop
  have stat : ∀ {H' : Hp}, (∀ b ∈ fp, H' b = none) → ∀ b ∈ fp, FpOk X pins H' b := fun hn b hb => ⟨hn b hb, (f2 b hb).2⟩
  refine codeAny_forLoop_any (fun n s' => ∃ i σ' H', Inv X pins σ' H' s' ∧ tn i s'.heap ∧ (∀ b ∈ fp, H' b = none) ∧ W i n σ' H') ?_ m0 ⟨0, σ, H2, I2, st2, fun b hb => (f2 b hb).1, w0⟩
  rintro n s3 ⟨i, σ3, H3, I3, st3, fr3, w3⟩
  rcases turn i n σ3 H3 w3 with ⟨stop, qn⟩ | ⟨go, N, hN, step⟩
  · refine wpAny_passesOwn hp (thn (T.done X rfl rfl rfl hc i pins s3 σ3 H3 X.xe I3 (stat fr3) st3 stop) fun r s4 ⟨hr, I4⟩ => ?_)
    subst hr
    exact wpAny_execs_nil ⟨σ3, H3, I4, qn⟩
  · refine wpAny_passesOwn hp (thn (T.item X rfl rfl rfl hc i pins s3 σ3 H3 X.xe I3 (stat fr3) st3 go) fun r s4 ⟨u, hr, h4⟩ => ?_)
    subst hr
    refine wpAny_passesOwn hp (thn h4 fun _ s5 ⟨x, H5, I5, r5, y5, st5, fr5⟩ => ?_)
    have I5' := I5.pinned (stat fr5) (T.obj _ _ st5)
    refine wpAny_passesOwn hp (thn (hg _ s5 σ3 H5 x u _ I5' r5 (step x H5 y5)) fun _ s6 ⟨σ6, H6, I6, q6⟩ => ?_)
    refine wpAny_passesOwn hp (thn (hb _ s6 σ6 H6 _ I6 q6) fun f s7 q7 => ?_)
    have again : ∀ {σ7 : St} {H7 : Hp}, Inv X (pins ++ pinsAt fp s5.heap) σ7 H7 s7 → N σ7 H7 → ∃ m, m < n ∧ ∃ i σ' H', Inv X pins σ' H' s7 ∧ tn i s7.heap ∧ (∀ b ∈ fp, H' b = none) ∧ W i m σ' H' := fun {σ7 H7} I7 n7 => by
      obtain ⟨m', hm, w7⟩ := hN σ7 H7 n7
      refine ⟨m', hm, i + 1, σ7, H7, I7.unpinned, T.keep _ _ _ st5 fun b hb o e => (I7.pin (b, o) (List.mem_append_right _ (List.mem_append_right _ (mem_pinsAt hb e)))).1, fun b hb => ?_, w7⟩
      obtain ⟨o, e, d⟩ := T.obj _ _ st5 b hb
      exact (I7.pin (b, o) (List.mem_append_right _ (List.mem_append_right _ (mem_pinsAt hb e)))).2.1
    cases f with
    | next => obtain ⟨σ7, H7, I7, n7⟩ := q7; exact again I7 n7
    | cont => obtain ⟨σ7, H7, I7, n7⟩ := q7; exact again I7 n7
    | brk => obtain ⟨σ7, H7, I7, q7⟩ := q7; exact ⟨σ7, H7, I7.unpinned, q7⟩
    | ret v => obtain ⟨x7, σ7, H7, I7, r7, q7⟩ := q7; exact ⟨x7, σ7, H7, I7.unpinned, r7, q7⟩
end

/-! ### the forms one uses -/
theorem for_list {K : PySem.W.Frag} {a : Addr} {xs : List V} {g : TG} {tb : TS} {D : Ends} {σ : St} {H : Hp} (Pv : Nat → St → Hp → Prop) (h0 : Pv 0 σ H) (hl : ∀ i σ H, i ≤ xs.length → Pv i σ H → SqL K H a xs)
    (hs : ∀ i x σ H, xs[i]? = some x → Pv i σ H → g x σ H fun σ2 H2 => tb { D with nx := Pv (i + 1), ct := Pv (i + 1), bk := D.nx } σ2 H2) (hd : ∀ σ H, Pv xs.length σ H → D.nx σ H) :
    ∃ W : Nat → Nat → St → Hp → Prop, (∃ m, W 0 m σ H) ∧ ∀ i m σ H, W i m σ H →
      ((Itl K a).stop i H ∧ D.nx σ H) ∨ ((Itl K a).go i H ∧ ∃ N : St → Hp → Prop, (∀ σ' H', N σ' H' → ∃ m', m' < m ∧ W (i + 1) m' σ' H') ∧ ∀ x H', (Itl K a).yld i H x H' → g x σ H' fun σ2 H2 => tb { D with nx := N, ct := N, bk := D.nx } σ2 H2) := by
  refine ⟨fun i m σ H => m = xs.length - i ∧ i ≤ xs.length ∧ Pv i σ H, ⟨xs.length, by simp, Nat.zero_le _, h0⟩, ?_⟩
  rintro i m σ H ⟨rfl, hi, p⟩
  have q := hl i σ H hi p
  by_cases hlt : i < xs.length
  · refine .inr ⟨⟨xs, xs[i], q, by simp [hlt]⟩, Pv (i + 1), fun σ' H' p' => ⟨xs.length - (i + 1), by omega, rfl, hlt, p'⟩, fun x H' y => ?_⟩
    obtain ⟨e, y⟩ := y
    subst e
    exact hs i x σ _ (y xs q) p
  · have e : i = xs.length := by omega
    subst e
    exact .inl ⟨⟨xs, q, Nat.le_refl _⟩, hd σ H p⟩
theorem for_tup {K : PySem.W.Frag} {a : Addr} {xs : List V} {g : TG} {tb : TS} {D : Ends} {σ : St} {H : Hp} (Pv : Nat → St → Hp → Prop) (h0 : Pv 0 σ H) (hl : ∀ i σ H, i ≤ xs.length → Pv i σ H → SqT K H a xs)
    (hs : ∀ i x σ H, xs[i]? = some x → Pv i σ H → g x σ H fun σ2 H2 => tb { D with nx := Pv (i + 1), ct := Pv (i + 1), bk := D.nx } σ2 H2) (hd : ∀ σ H, Pv xs.length σ H → D.nx σ H) :
    ∃ W : Nat → Nat → St → Hp → Prop, (∃ m, W 0 m σ H) ∧ ∀ i m σ H, W i m σ H →
      ((Itt K a).stop i H ∧ D.nx σ H) ∨ ((Itt K a).go i H ∧ ∃ N : St → Hp → Prop, (∀ σ' H', N σ' H' → ∃ m', m' < m ∧ W (i + 1) m' σ' H') ∧ ∀ x H', (Itt K a).yld i H x H' → g x σ H' fun σ2 H2 => tb { D with nx := N, ct := N, bk := D.nx } σ2 H2) := by
  refine ⟨fun i m σ H => m = xs.length - i ∧ i ≤ xs.length ∧ Pv i σ H, ⟨xs.length, by simp, Nat.zero_le _, h0⟩, ?_⟩
  rintro i m σ H ⟨rfl, hi, p⟩
  have q := hl i σ H hi p
  by_cases hlt : i < xs.length
  · refine .inr ⟨⟨xs, xs[i], q, by simp [hlt]⟩, Pv (i + 1), fun σ' H' p' => ⟨xs.length - (i + 1), by omega, rfl, hlt, p'⟩, fun x H' y => ?_⟩
    obtain ⟨e, y⟩ := y
    subst e
    exact hs i x σ _ (y xs q) p
  · have e : i = xs.length := by omega
    subst e
    exact .inl ⟨⟨xs, q, Nat.le_refl _⟩, hd σ H p⟩
theorem for_range {lo : Int} {n : Nat} {g : TG} {tb : TS} {D : Ends} {σ : St} {H : Hp} (Pv : Nat → St → Hp → Prop) (h0 : Pv 0 σ H)
    (hs : ∀ i σ H, i < n → Pv i σ H → g (.int (lo + i)) σ H fun σ2 H2 => tb { D with nx := Pv (i + 1), ct := Pv (i + 1), bk := D.nx } σ2 H2) (hd : ∀ σ H, Pv n σ H → D.nx σ H) :
    ∃ W : Nat → Nat → St → Hp → Prop, (∃ m, W 0 m σ H) ∧ ∀ i m σ H, W i m σ H →
      ((Itr lo n).stop i H ∧ D.nx σ H) ∨ ((Itr lo n).go i H ∧ ∃ N : St → Hp → Prop, (∀ σ' H', N σ' H' → ∃ m', m' < m ∧ W (i + 1) m' σ' H') ∧ ∀ x H', (Itr lo n).yld i H x H' → g x σ H' fun σ2 H2 => tb { D with nx := N, ct := N, bk := D.nx } σ2 H2) := by
  refine ⟨fun i m σ H => m = n - i ∧ i ≤ n ∧ Pv i σ H, ⟨n, by simp, Nat.zero_le _, h0⟩, ?_⟩
  rintro i m σ H ⟨rfl, hi, p⟩
  by_cases hlt : i < n
  · refine .inr ⟨hlt, Pv (i + 1), fun σ' H' p' => ⟨n - (i + 1), by omega, rfl, hlt, p'⟩, fun x H' y => ?_⟩
    obtain ⟨e, y⟩ := y
    subst e y
    exact hs i σ _ hlt p
  · have e : i = n := by omega
    subst e
    exact .inl ⟨Nat.le_refl _, hd σ H p⟩
end L2

namespace L2
open PySem PySem.Spec PyProof.Rows

abbrev R2 := V → V → Hp → VK → Prop
def OpR (X : Cx) (f : Value → Value → Sem Value) (r : R2) : Prop :=
  ∀ (pins : List (Addr × Obj)) (s : Shared) (σ : St) (H : Hp) (x y : V) (v u : Value) (Q : VK), Inv X pins σ H s → RelV x v → RelV y u → r x y H Q →
    wpAny (model X.prog X.w) X.A (f v u) (EP X pins σ Q) X.xe s
def UnR (X : Cx) (f : Value → Sem Value) (r : V → Hp → VK → Prop) : Prop :=
  ∀ (pins : List (Addr × Obj)) (s : Shared) (σ : St) (H : Hp) (x : V) (v : Value) (Q : VK), Inv X pins σ H s → RelV x v → r x H Q →
    wpAny (model X.prog X.w) X.A (f v) (EP X pins σ Q) X.xe s
def CallR (X : Cx) (f : Value) (r : List V → Hp → VK → Prop) : Prop :=
  ∀ (pins : List (Addr × Obj)) (s : Shared) (σ : St) (H : Hp) (xs : List V) (us : List Value) (Q : VK), Inv X pins σ H s → Vals xs us → r xs H Q →
    wpAny (model X.prog X.w) X.A (call f us) (EP X pins σ Q) X.xe s
def tOp (r : R2) (ta tb : TE) : TE := fun σ H Q => ta σ H fun x H1 => tb σ H1 fun y H2 => r x y H2 Q
def tUn (r : V → Hp → VK → Prop) (ta : TE) : TE := fun σ H Q => ta σ H fun x H1 => r x H1 Q
def rI (C : Int → Int → Prop) (g : Int → Int → V) : R2 := fun x y H Q => ∃ i j, x = .int i ∧ y = .int j ∧ C i j ∧ Q (g i j) H
def rI0 (g : Int → Int → V) : R2 := fun x y H Q => ∃ i j, x = .int i ∧ y = .int j ∧ Q (g i j) H
def rU (g : Int → V) : V → Hp → VK → Prop := fun x H Q => ∃ i, x = .int i ∧ Q (g i) H

section
variable {X : Cx} {a b c : Expr} {ta tb tc : TE} {pos : Pos}

theorem binT (ha : PE X a ta) (hb : PE X b tb) {pins : List (Addr × Obj)} {s : Shared} {σ : St} {H : Hp} {R : V → V → Hp → Prop} (I : Inv X pins σ H s)
    (h : ta σ H fun x H1 => tb σ H1 fun y H2 => R x y H2) {Q : Value → Shared → Prop} {f : Value → Value → Sem Value}
    (hf : ∀ v u s2 x y H2, Inv X pins σ H2 s2 → RelV x v → RelV y u → R x y H2 → wpAny (model X.prog X.w) X.A (f v u) Q X.xe s2) :
    wpAny (model X.prog X.w) X.A (eval a X.env) (fun v s₁ => wpAny (model X.prog X.w) X.A (eval b X.env) (fun u s₂ => wpAny (model X.prog X.w) X.A (f v u) Q X.xe s₂) X.xe s₁) X.xe s := by
  refine thn (ha pins s σ H _ I h) fun v s1 ⟨x, H1, I1, r1, q1⟩ => ?_
  refine thn (hb pins s1 σ H1 _ I1 q1) fun u s2 ⟨y, H2, I2, r2, q2⟩ => ?_
  exact hf v u s2 x y H2 I2 r1 r2 q2

theorem pe_op {op : Operator} {r : R2} (ho : OpR X (binaryOp op) r) (ha : PE X a ta) (hb : PE X b tb) : PE X (.BinOp a op b pos) (tOp r ta tb) := by
  intro pins s σ H Q I h
  exact wpAny_BinOp (binT ha hb I h fun v u s2 x y H2 I2 rx ry q => ho pins s2 σ H2 x y v u Q I2 rx ry q)
theorem pe_un {op : UnaryOp} {r : V → Hp → VK → Prop} (ho : UnR X (unaryOp op) r) (ha : PE X a ta) : PE X (.UnaryOp op a pos) (tUn r ta) := by
  intro pins s σ H Q I h
  exact UnaryOp_ (thn (ha pins s σ H _ I h) fun v s1 ⟨x, H1, I1, r1, q1⟩ => ho pins s1 σ H1 x v Q I1 r1 q1)
/-! ### ints -/
theorem opI {f : Value → Value → Sem Value} {C : Int → Int → Prop} {g : Int → Int → Int}
    (rule : ∀ (i j : Int) (t u : Tok) (s : Shared) (Q : Value → Shared → Prop) (E : Value → Shared → Prop), C i j → Q (.int (g i j) s.toks) { s with toks := s.toks + 1 } → wpAny (model X.prog X.w) X.A (f (.int i t) (.int j u)) Q E s) :
    OpR X f (rI C fun i j => .int (g i j)) := by
  intro pins s σ H x y v u Q I rx ry h
  obtain ⟨i, j, rfl, rfl, hc, q⟩ := h
  obtain ⟨t, rfl⟩ := rx
  obtain ⟨t', rfl⟩ := ry
  exact rule i j t t' s _ _ hc ⟨.int (g i j), H, I.tok _, ⟨_, rfl⟩, q⟩
theorem opI0 {f : Value → Value → Sem Value} {g : Int → Int → Int}
    (rule : ∀ (i j : Int) (t u : Tok) (s : Shared) (Q : Value → Shared → Prop) (E : Value → Shared → Prop), Q (.int (g i j) s.toks) { s with toks := s.toks + 1 } → wpAny (model X.prog X.w) X.A (f (.int i t) (.int j u)) Q E s) :
    OpR X f (rI0 fun i j => .int (g i j)) := by
  intro pins s σ H x y v u Q I rx ry h
  obtain ⟨i, j, rfl, rfl, q⟩ := h
  obtain ⟨t, rfl⟩ := rx
  obtain ⟨t', rfl⟩ := ry
  exact rule i j t t' s _ _ ⟨.int (g i j), H, I.tok _, ⟨_, rfl⟩, q⟩
theorem opB0 {f : Value → Value → Sem Value} {g : Int → Int → Bool}
    (rule : ∀ (i j : Int) (t u : Tok) (s : Shared) (Q : Value → Shared → Prop) (E : Value → Shared → Prop), Q (.bool (g i j)) s → wpAny (model X.prog X.w) X.A (f (.int i t) (.int j u)) Q E s) :
    OpR X f (rI0 fun i j => .bl (g i j)) := by
  intro pins s σ H x y v u Q I rx ry h
  obtain ⟨i, j, rfl, rfl, q⟩ := h
  obtain ⟨t, rfl⟩ := rx
  obtain ⟨t', rfl⟩ := ry
  exact rule i j t t' s _ _ ⟨.bl (g i j), H, I, rfl, q⟩

def CDiv (i j : Int) : Prop := 0 < j ∧ j < 1073741824
def CPow (i j : Int) : Prop := 0 ≤ j ∧ j ≤ 1000000 ∧ i.natAbs < 2 ^ 64
def CMul (i j : Int) : Prop := (-(2 ^ 64) < i ∧ i < 2 ^ 64) ∨ (-(2 ^ 64) < j ∧ j < 2 ^ 64)
theorem CMul.ok {i j : Int} (h : CMul i j) : IntMulOk i j := by
  rcases h with ⟨h1, h2⟩ | ⟨h1, h2⟩
  · exact .of_left (intBits_le_64 h1 h2)
  · exact .of_right (intBits_le_64 h1 h2)
theorem op_add : OpR X (binaryOp .Add) (rI0 fun i j => .int (i + j)) := opI0 fun _ _ _ _ _ _ _ q => add_int q
theorem op_sub : OpR X (binaryOp .Sub) (rI0 fun i j => .int (i - j)) := opI0 fun _ _ _ _ _ _ _ q => sub_int q
theorem op_mul : OpR X (binaryOp .Mult) (rI CMul fun i j => .int (i * j)) := opI fun _ _ _ _ _ _ _ hc q => mul_int q hc.ok
theorem op_fdiv : OpR X (binaryOp .FloorDiv) (rI CDiv fun i j => .int (i / j)) := opI fun i j _ _ _ _ _ hc q => by
  have h1 : (0 : Int) < j := hc.1
  have h2 : j < 1073741824 := hc.2
  exact floordiv_int (by omega) (by rw [Int.fdiv_eq_ediv_of_nonneg i (by omega)]; exact q) (.inl (PyProof.noPylong_small (by omega)))
theorem op_mod : OpR X (binaryOp .Mod) (rI (fun _ j => 0 < j) fun i j => .int (i % j)) := opI fun i j _ _ _ _ _ hc q => by
  have h1 : (0 : Int) < j := hc
  exact mod_int' (by omega) (by rw [Int.fmod_eq_emod_of_nonneg i (by omega)]; exact q)
theorem op_pow : OpR X (binaryOp .Pow) (rI CPow fun i j => .int (i ^ j.toNat)) := opI fun _ _ _ _ _ _ _ hc q => pow_int_small hc.1 hc.2.1 hc.2.2 q
theorem unI {f : Value → Sem Value} {g : Int → Int}
    (rule : ∀ (i : Int) (t : Tok) (s : Shared) (Q : Value → Shared → Prop) (E : Value → Shared → Prop), Q (.int (g i) s.toks) { s with toks := s.toks + 1 } → wpAny (model X.prog X.w) X.A (f (.int i t)) Q E s) :
    UnR X f (rU fun i => .int (g i)) := by
  intro pins s σ H x v Q I rx h
  obtain ⟨i, rfl, q⟩ := h
  obtain ⟨t, rfl⟩ := rx
  exact rule i t s _ _ ⟨.int (g i), H, I.tok _, ⟨_, rfl⟩, q⟩
theorem un_neg : UnR X (unaryOp .USub) (rU fun i => .int (-i)) := unI fun _ _ _ _ _ q => neg_int q
/-! ### bools among ints: n += (a < b) -/
end

/-! ### comparisons -/
def scal : V → V → Bool
  | .non, .non => true | .non, .int _ => true | .int _, .non => true | .non, .bl _ => true | .bl _, .non => true | .non, .str _ => true | .str _, .non => true
  | .int _, .int _ => true | .bl _, .bl _ => true | .str _, .str _ => true | .byt _, .byt _ => true
  | .int _, .str _ => true | .str _, .int _ => true | .bl _, .str _ => true | .str _, .bl _ => true
  | _, _ => false
def rEq : R2 := fun x y H Q => scal x y = true ∧ Q (.bl (decide (x = y))) H
def rNe : R2 := fun x y H Q => scal x y = true ∧ Q (.bl (!decide (x = y))) H

theorem dec_int {i j : Int} : decide (V.int i = V.int j) = (i == j) := by
  rw [Bool.eq_iff_iff]
  simp
theorem dec_bl {i j : Bool} : decide (V.bl i = V.bl j) = (i == j) := by
  rw [Bool.eq_iff_iff]
  simp
theorem dec_str {i j : Str} : decide (V.str i = V.str j) = (i == j) := by
  rw [Bool.eq_iff_iff]
  simp
theorem dec_byt {i j : Array UInt8} : decide (V.byt i = V.byt j) = (i.toList == j.toList) := by
  rw [Bool.eq_iff_iff]
  cases i
  cases j
  simp

section
variable {X : Cx} {a b c : Expr} {ta tb tc : TE} {pos : Pos}
theorem fin_bl {pins : List (Addr × Obj)} {σ : St} {H : Hp} {s : Shared} {Q : VK} {k k' : Bool} (I : Inv X pins σ H s) (q : Q (.bl k) H) (e : k = k') : EP X pins σ Q (.bool k') s := by
  subst e
  exact ⟨.bl k, H, I, rfl, q⟩
theorem op_eq : OpR X (compareOp .Eq) rEq := by
  intro pins s σ H x y v u Q I rx ry h
  obtain ⟨hs, q⟩ := h
  cases x with
  | non =>
    cases rx
    cases y with
    | non => cases ry; exact PySem.EqNone.eq_none_none (fin_bl I q (by simp))
    | bl j => cases ry; exact PySem.EqNone.eq_none_bool (fin_bl I q (by simp))
    | int j => obtain ⟨t', rfl⟩ := ry; exact PySem.EqNone.eq_none_int (fin_bl I q (by simp))
    | str j => obtain ⟨t', rfl⟩ := ry; exact PySem.EqNone.eq_none_str (fin_bl I q (by simp))
    | _ => exact absurd (show false = true from hs) Bool.false_ne_true
  | bl i =>
    cases rx
    cases y with
    | non => cases ry; exact PySem.EqNone.eq_bool_none (fin_bl I q (by simp))
    | bl j => cases ry; exact eq_bool (fin_bl I q dec_bl)
    | str j => obtain ⟨t', rfl⟩ := ry; exact PySem.EqMixed.eq_bool_str (fin_bl I q (by simp))
    | _ => exact absurd (show false = true from hs) Bool.false_ne_true
  | int i =>
    obtain ⟨t, rfl⟩ := rx
    cases y with
    | non => cases ry; exact PySem.EqNone.eq_int_none (fin_bl I q (by simp))
    | int j => obtain ⟨t', rfl⟩ := ry; exact eq_int (fin_bl I q dec_int)
    | str j => obtain ⟨t', rfl⟩ := ry; exact PySem.EqMixed.eq_int_str (fin_bl I q (by simp))
    | _ => exact absurd (show false = true from hs) Bool.false_ne_true
  | str i =>
    obtain ⟨t, rfl⟩ := rx
    cases y with
    | non => cases ry; exact PySem.EqNone.eq_str_none (fin_bl I q (by simp))
    | bl j => cases ry; exact PySem.EqMixed.eq_str_bool (fin_bl I q (by simp))
    | int j => obtain ⟨t', rfl⟩ := ry; exact PySem.EqMixed.eq_str_int (fin_bl I q (by simp))
    | str j => obtain ⟨t', rfl⟩ := ry; exact eq_str (fin_bl I q dec_str)
    | _ => exact absurd (show false = true from hs) Bool.false_ne_true
  | byt i =>
    obtain ⟨t, rfl⟩ := rx
    cases y with
    | byt j => obtain ⟨t', rfl⟩ := ry; exact PySem.W.eq_bytes (fin_bl I q dec_byt)
    | _ => exact absurd (show false = true from hs) Bool.false_ne_true
  | _ => cases y <;> exact absurd (show false = true from hs) Bool.false_ne_true
theorem op_ne : OpR X (compareOp .NotEq) rNe := by
  intro pins s σ H x y v u Q I rx ry h
  obtain ⟨hs, q⟩ := h
  cases x with
  | non =>
    cases rx
    cases y with
    | non => cases ry; exact PySem.EqNone.ne_none_none (fin_bl I q (by simp))
    | bl j => cases ry; exact PySem.EqNone.ne_none_bool (fin_bl I q (by simp))
    | int j => obtain ⟨t', rfl⟩ := ry; exact PySem.EqNone.ne_none_int (fin_bl I q (by simp))
    | str j => obtain ⟨t', rfl⟩ := ry; exact PySem.EqNone.ne_none_str (fin_bl I q (by simp))
    | _ => exact absurd (show false = true from hs) Bool.false_ne_true
  | bl i =>
    cases rx
    cases y with
    | non => cases ry; exact PySem.EqNone.ne_bool_none (fin_bl I q (by simp))
    | bl j => cases ry; exact ne_bool (fin_bl I q (congrArg not dec_bl))
    | str j => obtain ⟨t', rfl⟩ := ry; exact PySem.EqMixed.ne_bool_str (fin_bl I q (by simp))
    | _ => exact absurd (show false = true from hs) Bool.false_ne_true
  | int i =>
    obtain ⟨t, rfl⟩ := rx
    cases y with
    | non => cases ry; exact PySem.EqNone.ne_int_none (fin_bl I q (by simp))
    | int j => obtain ⟨t', rfl⟩ := ry; exact ne_int (fin_bl I q (congrArg not dec_int))
    | str j => obtain ⟨t', rfl⟩ := ry; exact PySem.EqMixed.ne_int_str (fin_bl I q (by simp))
    | _ => exact absurd (show false = true from hs) Bool.false_ne_true
  | str i =>
    obtain ⟨t, rfl⟩ := rx
    cases y with
    | non => cases ry; exact PySem.EqNone.ne_str_none (fin_bl I q (by simp))
    | bl j => cases ry; exact PySem.EqMixed.ne_str_bool (fin_bl I q (by simp))
    | int j => obtain ⟨t', rfl⟩ := ry; exact PySem.EqMixed.ne_str_int (fin_bl I q (by simp))
    | str j => obtain ⟨t', rfl⟩ := ry; exact ne_str (fin_bl I q (congrArg not dec_str))
    | _ => exact absurd (show false = true from hs) Bool.false_ne_true
  | byt i =>
    obtain ⟨t, rfl⟩ := rx
    cases y with
    | byt j => obtain ⟨t', rfl⟩ := ry; exact PySem.W.ne_bytes (fin_bl I q (congrArg not dec_byt))
    | _ => exact absurd (show false = true from hs) Bool.false_ne_true
  | _ => cases y <;> exact absurd (show false = true from hs) Bool.false_ne_true

theorem op_lt : OpR X (compareOp .Lt) (rI0 fun i j => .bl (decide (i < j))) := opB0 fun _ _ _ _ _ _ _ q => lt_int q
theorem op_le : OpR X (compareOp .LtE) (rI0 fun i j => .bl (decide (i ≤ j))) := opB0 fun _ _ _ _ _ _ _ q => le_int q
theorem op_gt : OpR X (compareOp .Gt) (rI0 fun i j => .bl (decide (j < i))) := opB0 fun _ _ _ _ _ _ _ q => gt_int q
theorem op_ge : OpR X (compareOp .GtE) (rI0 fun i j => .bl (decide (j ≤ i))) := opB0 fun _ _ _ _ _ _ _ q => ge_int q
theorem op_isN : OpR X (compareOp .Is) (fun x y H Q => y = .non ∧ Q (.bl (decide (x = .non))) H) := by
  intro pins s σ H x y v u Q I rx ry h
  obtain ⟨rfl, q⟩ := h
  cases ry
  refine is_none_gen (fin_bl I q ?_)
  cases x <;> first
    | (cases rx; rfl)
    | (obtain ⟨t, rfl⟩ := rx; rfl)
theorem OpR.or {f : Value → Value → Sem Value} {r r' : R2} (h : OpR X f r) (h' : OpR X f r') : OpR X f (fun x y H Q => r x y H Q ∨ r' x y H Q) := by
  intro pins s σ H x y v u Q I rx ry q
  rcases q with q | q
  · exact h pins s σ H x y v u Q I rx ry q
  · exact h' pins s σ H x y v u Q I rx ry q

theorem nomark (b : Expr) {op : CmpOp} (h : op ≠ .In := by decide) (h2 : op ≠ .NotIn := by decide) : behindInMarks op b = false := by
  have e1 : (op == CmpOp.In) = false := by cases op <;> first | rfl | exact absurd rfl h
  have e2 : (op == CmpOp.NotIn) = false := by cases op <;> first | rfl | exact absurd rfl h2
  cases b <;> simp [behindInMarks, e1, e2]
theorem pe_cmpR {op : CmpOp} {r : R2} (ho : OpR X (compareOp op) r) (ha : PE X a ta) (hb : PE X b tb) (hm : behindInMarks op b = false) : PE X (.Compare a [op] [b] pos) (tOp r ta tb) := by
  intro pins s σ H Q I h
  exact wpAny_Compare1 (binT ha hb I h fun v u s2 x y H2 I2 rx ry q => ho pins s2 σ H2 x y v u Q I2 rx ry q) hm
def tTest (t : TE) : TT := fun σ H Q => t σ H fun x H' => ∃ k, x = .bl k ∧ Q k H'
theorem pt_cmpR {op : CmpOp} {r : R2} (ho : OpR X (compareOp op) r) (ha : PE X a ta) (hb : PE X b tb) (hm : behindInMarks op b = false) : PT X (.Compare a [op] [b] pos) (tTest (tOp r ta tb)) := by
  intro pins s σ H Q I h
  refine wpAny_isTrue_Compare1 (thn (ha pins s σ H _ I h) fun v s1 ⟨x, H1, I1, r1, q1⟩ => thn (hb pins s1 σ H1 _ I1 q1) fun u s2 ⟨y, H2, I2, r2, q2⟩ =>
    thn (ho pins s2 σ H2 x y v u _ I2 r1 r2 q2) fun c s3 ⟨z, H3, I3, r3, k, e, q3⟩ => ?_) hm
  subst e
  cases r3
  exact wpAny_truthy_bool ⟨H3, I3, q3⟩
/-! ### truth -/
theorem line63 : (sizeLine : Nat) < 2 ^ 63 := by rw [sizeLine_eq]; decide
/-! ### strs and bytes -/
/-! ### scalar builtins, by CallR -/
theorem vals1 {x : V} {us : List Value} (r : Vals [x] us) : ∃ u, us = [u] ∧ RelV x u := by
  cases r with
  | cons r1 r2 => cases r2; exact ⟨_, rfl, r1⟩
theorem vals2 {x y : V} {us : List Value} (r : Vals [x, y] us) : ∃ u w', us = [u, w'] ∧ RelV x u ∧ RelV y w' := by
  cases r with
  | cons r1 r2 =>
    cases r2 with
    | cons r3 r4 => cases r4; exact ⟨_, _, rfl, r1, r3⟩
theorem call_abs : CallR X (.builtin "abs") (fun xs H Q => ∃ i, xs = [.int i] ∧ Q (.int (if i < 0 then -i else i)) H) := by
  intro pins s σ H xs us Q I r h
  obtain ⟨i, rfl, q⟩ := h
  obtain ⟨u, rfl, t, rfl⟩ := vals1 r
  exact call_abs_int fun u tk => ⟨.int (if i < 0 then -i else i), H, I.tok _, ⟨_, rfl⟩, q⟩
theorem call_max2 (hc : X.calm = true) : CallR X (.builtin "max") (fun xs H Q => ∃ i j, xs = [.int i, .int j] ∧ Q (.int (if j > i then j else i)) H) := by
  intro pins s σ H xs us Q I r h
  obtain ⟨i, j, rfl, q⟩ := h
  obtain ⟨u, w', rfl, ⟨t, rfl⟩, ⟨t', rfl⟩⟩ := vals2 r
  refine max_two_ints (I.ok.hd hc) fun h' tk k => ⟨_, H, I.kept k, ?_, q⟩
  by_cases hj : j > i
  · rw [if_pos hj, if_pos hj]; exact ⟨_, rfl⟩
  · rw [if_neg hj, if_neg hj]; exact ⟨_, rfl⟩
theorem call_int1 : CallR X (.type "int") (fun xs H Q => (∃ i, xs = [.int i] ∧ Q (.int i) H) ∨ ∃ k, xs = [.bl k] ∧ Q (.int (if k then 1 else 0)) H) := by
  intro pins s σ H xs us Q I r h
  rcases h with ⟨i, rfl, q⟩ | ⟨k, rfl, q⟩
  · obtain ⟨u, rfl, t, rfl⟩ := vals1 r
    exact call_int_int ⟨.int i, H, I, ⟨_, rfl⟩, q⟩
  · obtain ⟨u, rfl, r1⟩ := vals1 r
    cases r1
    exact call_int_bool ⟨.int (if k then 1 else 0), H, I.tok _, ⟨_, rfl⟩, q⟩
theorem call_str_int : CallR X (.type "str") (fun xs H Q => ∃ i, xs = [.int i] ∧ i.natAbs.log2 < 1920 ∧ Q (.str (toString i)) H) := by
  intro pins s σ H xs us Q I r h
  obtain ⟨i, rfl, hz, q⟩ := h
  obtain ⟨u, rfl, t, rfl⟩ := vals1 r
  exact PySem.P.str_of_int hz ⟨.str _, H, I.tok _, ⟨_, rfl⟩, q⟩
theorem call_divmod : CallR X (.builtin "divmod") (fun xs H Q => ∃ i j, xs = [.int i, .int j] ∧ CDiv i j ∧ ∀ p, H p = none → Q (.ref p) (upd H p (.tup [.int (i / j), .int (i % j)]))) := by
  intro pins s σ H xs us Q I r h
  obtain ⟨i, j, rfl, ⟨h1, h2⟩, q⟩ := h
  obtain ⟨u, w', rfl, ⟨t, rfl⟩, ⟨t', rfl⟩⟩ := vals2 r
  refine divmod_int (by omega) ?_ (.inl (PyProof.noPylong_small (by omega)))
  rw [Int.fdiv_eq_ediv_of_nonneg i (by omega), Int.fmod_eq_emod_of_nonneg i (by omega)]
  have hn : H s.heap.objs.size = none := I.hok.fresh (Nat.le_refl _)
  refine ⟨.ref s.heap.objs.size, _, ?_, rfl, q _ hn⟩
  refine I.laid (fun b o e => Heap.get?_push_of_some _ e) (Nat.le_refl _) ⟨by simp only [List.length_cons, List.length_nil]; rw [sizeLine_eq]; decide, [.int (i / j) s.toks, .int (i % j) (s.toks + 1)], .cons ⟨_, rfl⟩ (.cons ⟨_, rfl⟩ .nil), ?_⟩
  exact ⟨_, Heap.get?_push_size s.heap rfl, rfl, 0, rfl⟩
end
end L2

namespace L2
open PySem PySem.Spec PyProof.Rows

/-! ### an instance, its attributes a map -/
structure ObjM (h : Heap) (x dx C : Addr) (mA : Str → Option Value) : Prop where
  obj : h.get? x = some (PySem.W.instObj C dx)
  ns : h.Ns1 dx mA
  ne : dx ≠ x

section
variable {prog : Program} {w : World} {A : Around} {E : Value → Shared → Prop} {s : Shared} {K : PySem.W.Frag} {x dx C f : Addr} {mA : Str → Option Value} {name : Str} {v : Value}

end

/-! ### the attributes as a list of pairs -/
section
variable {P : Program} {w : World} {H H' : Hp} {h h' : Heap} {a C dx : Addr} {fs fs' : List (Str × V)}
end

/-! ### what of the text a class must have -/
structure Cls (K : PySem.W.Frag) (C : Addr) : Prop where
  pg : PySem.W.plainGet K C Str.empty = true
  hd : PySem.W.hasDictIn K C = true
  po : PySem.W.plainOver K C = true
  sa : PySem.W.findIn K (.ref C) "__setattr__" = some (some (.builtin "object.__setattr__"))
theorem Cls.get {K : PySem.W.Frag} {C : Addr} (c : Cls K C) (f : Str) : PySem.W.plainGet K C f = true := c.pg
structure Con (K : PySem.W.Frag) (C : Addr) (f : Str) (v : V) (u : Value) : Prop where
  at_ : PySem.W.findIn K (.ref C) f = some (some u)
  rel : RelV v u
  get : PySem.W.specialIn K u "__get__" = some none
  cp : PySem.W.copiedNames.contains f = false
structure Meth (K : PySem.W.Frag) (C : Addr) (m : Str) (f : Addr) : Prop where
  at_ : PySem.W.findIn K (.ref C) m = some (some (.ref f))
  fn : PySem.W.isFn K (.ref f) = true
  kp : PySem.W.keepIn K (.ref f) = true

section
variable {X : Cx} {pins : List (Addr × Obj)} {σ : St} {H : Hp} {s : Shared} {a C dx : Addr} {fs : List (Str × V)} {f : Str} {v : V} {A : Around} {E : Value → Shared → Prop}

theorem Inv.made (I : Inv X pins σ H s) : Inv X pins σ (upd (upd H s.heap.objs.size (.own (s.heap.objs.size + 1))) (s.heap.objs.size + 1) (.ins C s.heap.objs.size []))
    { s with heap := (s.heap.push PySem.W.emptyDict).push (PySem.W.instObj C s.heap.objs.size) } := by
  have e1 : (s.heap.push PySem.W.emptyDict).get? s.heap.objs.size = some PySem.W.emptyDict := Heap.get?_push_size s.heap rfl
  have e2 : ((s.heap.push PySem.W.emptyDict).push (PySem.W.instObj C s.heap.objs.size)).get? (s.heap.objs.size + 1) = some (PySem.W.instObj C s.heap.objs.size) := by
    have := Heap.get?_push_size (s.heap.push PySem.W.emptyDict) (o := PySem.W.instObj C s.heap.objs.size) rfl
    rwa [Heap.size_push] at this
  have e3 : (s.heap.push PySem.W.emptyDict).Ns s.heap.objs.size (fun _ => none) := ⟨PySem.W.emptyDict, #[], _, e1, rfl, (fun e he => absurd he (by simp)), fun _ => rfl⟩
  have I1 := I.laid (a := s.heap.objs.size) (o := .own (s.heap.objs.size + 1)) (h' := s.heap.push PySem.W.emptyDict) (t' := s.toks) (fun b u q => Heap.get?_push_of_some _ q) (Nat.le_refl _) ⟨_, e1⟩
  refine I1.laid (a := s.heap.objs.size + 1) (o := .ins C s.heap.objs.size []) (t' := s.toks) (fun b u q => Heap.get?_push_of_some _ q) (Nat.le_of_eq (Heap.size_push _ _)) ?_
  have ne : s.heap.objs.size ≠ s.heap.objs.size + 1 := Nat.ne_of_lt (Nat.lt_succ_self _)
  refine ⟨by rw [upd_ne ne, upd_same], Nat.zero_le _, ne, e2, fun _ => none, (Heap.Ns1.of_empty e3).at fun o q => Heap.get?_push_of_some _ q, fun _ => True.intro, fun y hy => absurd rfl hy⟩

end

/-! ### readings and rules -/
section
variable {X : Cx} {o e value : Expr} {f : Str} {pos pos' tpos : Pos} {ta tv : TE}
end

/-! ### isinstance -/
section
variable {X : Cx} {pins : List (Addr × Obj)} {σ : St} {H : Hp} {s : Shared} {A : Around} {E : Value → Shared → Prop} {Q : Value → Shared → Prop} {c : Value} {b : Bool}
inductive TyOf (K : PySem.W.Frag) (H : Hp) : V → Value → Prop where
  | non : TyOf K H .non (.type "NoneType")
  | bl (x : Bool) : TyOf K H (.bl x) (.type "bool")
  | int (i : Int) : TyOf K H (.int i) (.type "int")
  | str (x : Str) : TyOf K H (.str x) (.type "str")
  | flt (x : UInt64) : TyOf K H (.flt x) (.type "float")
  | lst {a : Addr} {xs : List V} (e : H a = some (.lst xs)) : TyOf K H (.ref a) (.type "list")
  | frz {a : Addr} {o : Obj} {xs : List V} (e : H a = some (.frz o (.lst xs))) : TyOf K H (.ref a) (.type "list")
  | tup {a : Addr} {xs : List V} (e : H a = some (.tup xs)) : TyOf K H (.ref a) (.type "tuple")
  | dK {a : Addr} {kvs : List (Key × V)} (e : H a = some (.dK kvs)) : TyOf K H (.ref a) (.type "dict")
  | dT {a : Addr} {kvs : List (List Key × V)} (e : H a = some (.dT kvs)) : TyOf K H (.ref a) (.type "dict")
  | ins {a C dx : Addr} {fs : List (Str × V)} (e : H a = some (.ins C dx fs)) (cl : Cls K C) (ha : PySem.W.findIn K (.ref C) "__class__" = some (some (.builtin "object.__class__")))
      (hn : PySem.W.specialIn K (.builtin "object.__class__") "__get__" = some (some (.builtin "getset_descriptor.__get__"))) (htk : PySem.W.takesIn K (.builtin "object.__class__") = some true)
      (hm : PySem.W.mroIn K C (.type "object") = some true) : TyOf K H (.ref a) (.ref C)
end
end L2

namespace L2
open PySem PySem.Spec PyProof.Rows

/-! ### room -/
structure Room (k : Nat) (A : Around) : Prop where
  hd : A.handled = none
  dp : A.depth + 3 * k + 5 < recursionLimit
  un : A.units + 16 * k + 200 < cLine
  gd : A.guards = some []
theorem Room.mono {j k : Nat} {A : Around} (r : Room k A) (h : j ≤ k) : Room j A := ⟨r.hd, by have := r.dp; omega, by have := r.un; omega, r.gd⟩
theorem Room.deeper {k : Nat} {A : Around} (r : Room (k + 1) A) (env : Env) : Room k (A.deeper env) :=
  ⟨r.hd, by have := r.dp; show A.depth + 1 + 3 * k + 5 < _; omega, by have := r.un; show A.units + 3 + 16 * k + 200 < _; omega, r.gd⟩
theorem Room.in1 {k : Nat} {A : Around} (r : Room (k + 1) A) : Room k A.in1 :=
  ⟨r.hd, by have := r.dp; show A.depth + 3 * k + 5 < _; omega, by have := r.un; show A.units + 1 + 16 * k + 200 < _; omega, r.gd⟩
theorem Room.depth {k : Nat} {A : Around} (r : Room k A) : A.depth < recursionLimit := by have := r.dp; omega
theorem Room.units {k : Nat} {A : Around} (r : Room k A) : A.units + 64 < cLine := by have := r.un; omega
theorem Room.units0 {k : Nat} {A : Around} (r : Room k A) : A.units < cLine := by have := r.un; omega

/-! ### argument lists and displays -/
def tNil : TA := fun _ H Q => Q [] H
def tCons (ta : TE) (tr : TA) : TA := fun σ H Q => ta σ H fun x H1 => tr σ H1 fun xs H2 => Q (x :: xs) H2
section
variable {X : Cx} {e : Expr} {es : List Expr} {te : TE} {t : TA} {pos : Pos}
theorem pa_nil : PA X [] tNil := fun _ _ _ _ H Q I h => Calls.spliced_nil ⟨[], H, I, .nil, h⟩
theorem pa_cons (ha : PE X e te) (hr : PA X es t) (hs : starEach (e :: es) X.env = (false, eval e X.env) :: starEach es X.env := by rfl) : PA X (e :: es) (tCons te t) := by
  intro pos pins s σ H Q I h
  rw [hs]
  show wpAny _ _ (spliced ((false, eval e X.env) :: backTo pos (starEach es X.env))) _ _ s
  refine Calls.spliced_cons (thn (ha pins s σ H _ I h) fun u s1 ⟨x, H1, I1, r1, q1⟩ => ?_)
  exact thn (hr pos pins s1 σ H1 _ I1 q1) fun us s2 ⟨xs, H2, I2, r2, q2⟩ => ⟨x :: xs, H2, I2, .cons r1 r2, q2⟩

def tTup (t : TA) : TE := fun σ H Q => t σ H fun xs H1 => xs.length ≤ sizeLine ∧ ∀ p, H1 p = none → Q (.ref p) (upd H1 p (.tup xs))
def tLst (t : TA) : TE := fun σ H Q => t σ H fun xs H1 => xs.length ≤ sizeLine ∧ ∀ p, H1 p = none → Q (.ref p) (upd H1 p (.lst xs))
theorem pe_tup {x1} (h : PA X es t) : PE X (.Tuple es x1 pos) (tTup t) := by
  intro pins s σ H Q I hq
  refine wpAny_Tuple_spliced (thn (h pos pins s σ H _ I hq) fun us s1 ⟨xs, H1, I1, r, z, q⟩ => ⟨by rw [← r.length]; exact z, ?_⟩)
  have hf : H1 s1.heap.objs.size = none := I1.hok.fresh (Nat.le_refl _)
  refine ⟨.ref s1.heap.objs.size, upd H1 s1.heap.objs.size (.tup xs), I1.laid (t' := s1.toks) (fun b u e => Heap.get?_push_of_some _ e) (Nat.le_refl _) ?_, rfl, q _ hf⟩
  exact ⟨z, us, r, ⟨_, Heap.get?_push_size _ rfl, rfl, _, rfl⟩⟩
theorem pe_lst (h : PA X es t) : PE X (.List es pos) (tLst t) := by
  intro pins s σ H Q I hq
  refine wpAny_List_spliced (thn (h pos pins s σ H _ I hq) fun us s1 ⟨xs, H1, I1, r, z, q⟩ => ⟨by rw [← r.length]; exact z, ?_⟩)
  have hf : H1 s1.heap.objs.size = none := I1.hok.fresh (Nat.le_refl _)
  refine ⟨.ref s1.heap.objs.size, upd H1 s1.heap.objs.size (.lst xs), I1.laid (t' := s1.toks) (fun b u e => Heap.get?_push_of_some _ e) (Nat.le_refl _) ?_, rfl, q _ hf⟩
  exact ⟨z, us, 0, r, Heap.get?_push_size _ rfl⟩
end

/-! ### what a def promises -/
abbrev Sp := List V → Hp → VK → XK → Prop
abbrev CXT := List Env → Hp → Shared → XK → Value → Shared → Prop

structure Env0 (P : Program) (w : World) (K : PySem.W.Frag) (mg : Str → Option Value) (base : Heap) (A : Around) (outer : List Env) (s : Shared) (H : Hp) : Prop where
  frames : A.frames = some outer
  mod : Mod K mg base
  bs : ∀ b o, base.get? b = some o → s.heap.get? b = some o ∧ H b = none
  bsz : base.objs.size ≤ s.heap.objs.size
  funs : s.heap.FunFrames base outer
  frf : ∀ b ∈ frs outer, H b = none
  hok : HOk P w H s.heap
  bare : AllBare s.gens
def CE (outer : List Env) (P : Program) (w : World) (H : Hp) (s : Shared) (Q : VK) (u : Value) (s' : Shared) : Prop :=
  ∃ v H', s'.os = s.os ∧ AllBare s'.gens ∧ Un (frs outer) [] H H' s.heap s'.heap ∧ HOk P w H' s'.heap ∧ RelV v u ∧ Q v H'
def CR (CX : CXT) (outer : List Env) (P : Program) (w : World) (H : Hp) (s : Shared) (Q : VK) (E : XK) (r : Result) (s' : Shared) : Prop :=
  match r with
  | .ok (.ret u) => CE outer P w H s Q u s'
  | .ok _ => False
  | .error e => CX outer H s E e s'
structure FnOk (P : Program) (w : World) (K : PySem.W.Frag) (mg : Str → Option Value) (base : Heap) (CX : CXT) (k : Nat) (f : Addr) (fd : FuncData) (ps : List Str) (sp : Sp) : Prop where
  len : ∀ vs H Q E, sp vs H Q E → vs.length = ps.length
  run : ∀ (A : Around) (outer : List Env) (s : Shared) (H : Hp) (args : Args) (us : List Value) (vs : List V) (Q : VK) (E : XK), Room k A → Env0 P w K mg base A outer s H → BindsTo s fd args (ps.zip us) → Vals vs us → sp vs H Q E →
    codeAny (model P w) A (.call (.ref f) args) (CR CX outer P w H s Q E) s
theorem FnOk.mono {P : Program} {w : World} {K : PySem.W.Frag} {mg : Str → Option Value} {base : Heap} {CX : CXT} {j k : Nat} {f : Addr} {fd : FuncData} {ps : List Str} {sp : Sp} (F : FnOk P w K mg base CX j f fd ps sp) (h : j ≤ k) :
    FnOk P w K mg base CX k f fd ps sp := ⟨F.len, fun A outer s H args us vs Q E hr => F.run A outer s H args us vs Q E (hr.mono h)⟩
theorem Env0.in1 {P : Program} {w : World} {K : PySem.W.Frag} {mg : Str → Option Value} {base : Heap} {A : Around} {outer : List Env} {s : Shared} {H : Hp} (e : Env0 P w K mg base A outer s H) :
    Env0 P w K mg base A.in1 outer s H := ⟨e.frames, e.mod, e.bs, e.bsz, e.funs, e.frf, e.hok, e.bare⟩

section
variable {X : Cx} {pins : List (Addr × Obj)} {σ : St} {H : Hp} {s s' : Shared}
theorem Inv.env0 (I : Inv X pins σ H s) : Env0 X.prog X.w X.K X.mg X.base X.A X.stack s H :=
  ⟨I.ok.frames, I.ok.mod, I.bs, Nat.le_trans I.ok.bsz I.sz, I.stack, I.stkFree, I.hok, I.bare⟩
theorem Inv.after {Q : VK} {u : Value} (I : Inv X pins σ H s) (h : CE X.stack X.prog X.w H s Q u s') : EP X pins σ Q u s' := by
  obtain ⟨v, H', os, bare, un, hok, r, q⟩ := h
  obtain ⟨hh, g, d, t, os'⟩ := s'
  obtain rfl : os' = s.os := os
  exact ⟨v, H', I.call (h' := hh) (g' := g) (d' := d) (t' := t) (ch := []) un hok bare (fun b z => absurd z (by simp)), r, q⟩
end

/-! ### calls -/
def tCall (sp : Sp) (dvs : List V) (E : XK) (t : TA) : TE := fun σ H Q => t σ H fun vs H1 => sp (vs ++ dvs) H1 Q E
def Binds (K : PySem.W.Frag) (fd : FuncData) (ps : List Str) (ds : List Value) : Prop :=
  ∀ (s : Shared) (us : List Value), K.In s.heap → (us ++ ds).length = ps.length → BindsTo s fd ⟨us, []⟩ (ps.zip (us ++ ds))
theorem Binds.all {K : PySem.W.Frag} {fd : FuncData} {ps : List Str} (h : ∀ us : List Value, us.length = ps.length → bindArgs fd ⟨us, []⟩ = pure (ps.zip us)) : Binds K fd ps [] := fun s us _ hl => by
  rw [List.append_nil] at hl ⊢
  exact .of_eq (h us hl)

def Passes (CX : CXT) (X : Cx) (E : XK) : Prop := ∀ (pins : List (Addr × Obj)) (σ : St) (H : Hp) (s : Shared) (e : Value) (s' : Shared), Inv X pins σ H s → CX X.stack H s E e s' → X.xe e s'

section
variable {X : Cx} {CX : CXT} {k : Nat} {f C : Addr} {fd : FuncData} {ps : List Str} {sp : Sp} {dvs : List V} {ds : List Value} {E : XK} {x m : Str} {p pos apos : Pos} {e o : Expr} {es : List Expr} {ta : TE} {t : TA}

theorem run_fn {pins : List (Addr × Obj)} {σ : St} {H : Hp} {s : Shared} {Q : VK} {us : List Value} {vs : List V} (F : FnOk X.prog X.w X.K X.mg X.base CX k f fd ps sp) (hr : Room k X.A) (hb : Binds X.K fd ps ds) (hd : Vals dvs ds) (hx : Passes CX X E)
    (I : Inv X pins σ H s) (r : Vals vs us) (h : sp (vs ++ dvs) H Q E) : wpAny (model X.prog X.w) X.A (call (.ref f) us) (EP X pins σ Q) X.xe s := by
  have r2 : Vals (vs ++ dvs) (us ++ ds) := r.append hd
  have hl : (us ++ ds).length = ps.length := by rw [← r2.length]; exact F.len _ _ _ _ h
  refine wpAny_call (codeAny_mono (F.run X.A X.stack s H ⟨us, []⟩ (us ++ ds) (vs ++ dvs) Q E hr I.env0 (hb s us I.kIn hl) r2 h) fun r s' hq => ?_)
  cases r with
  | error e => exact hx pins σ H s e s' I hq
  | ok fl =>
    cases fl with
    | ret u => exact I.after hq
    | next => exact False.elim hq
    | brk => exact False.elim hq
    | cont => exact False.elim hq

theorem pe_call (F : FnOk X.prog X.w X.K X.mg X.base CX k f fd ps sp) (hr : Room k X.A) (hg : Gl X x) (hm : X.mg x = some (.ref f)) (hk : PySem.W.keepIn X.K (.ref f) = true) (hb : Binds X.K fd ps ds) (hd : Vals dvs ds) (hx : Passes CX X E)
    (ha : PA X (e :: es) t) (hdb : (x == ("__debug__" : Str)) = false := by decide) (he : starEach (e :: es) X.env = (false, eval e X.env) :: starEach es X.env := by rfl) (hpl : (backTo pos (starEach es X.env)).any (·.1) = false := by rfl) :
    PE X (.Call (.Name x p) (e :: es) [] pos) (tCall sp dvs E t) := by
  intro pins s σ H Q I h
  refine wpAny_Call_Name_kw (ld_glob I hg hm ?_ hdb)
  refine PySem.W.callWith_K (h₀ := X.base) I.ok.mod.kin hk (thn (ha pos pins s σ H _ I h) fun us s1 ⟨vs, H1, I1, r, q⟩ => ⟨I1.kIn, ?_⟩) he hpl
  exact run_fn F hr hb hd hx I1 r q
structure Mk (K : PySem.W.Frag) (C f : Addr) : Prop where
  makes : PySem.W.makesIn K C = true
  init : PySem.W.findIn K (.ref C) "__init__" = some (some (.ref f))
  fn : PySem.W.isFn K (.ref f) = true
  kp : PySem.W.keepIn K (.ref C) = true

end

/-! ### keywords -/
section
variable {X : Cx} {CX : CXT} {k : Nat} {f C : Addr} {fd : FuncData} {ps ks : List Str} {sp : Sp} {E : XK} {x m : Str} {p pos apos kpos : Pos} {e o : Expr} {es : List Expr} {kws : List Keyword} {te ta : TE} {t tk : TA} {nm : Option Str}
structure KBinds (K : PySem.W.Frag) (fd : FuncData) (ps ks : List Str) (g : List Value → List Value → List Value) (gV : List V → List V → List V) : Prop where
  to : ∀ (s : Shared) (us ws : List Value), K.In s.heap → (g us ws).length = ps.length → BindsTo s fd ⟨us, ks.zip ws⟩ (ps.zip (g us ws))
  rel : ∀ {vs : List V} {us : List Value} {zs : List V} {ws : List Value}, Vals vs us → Vals zs ws → Vals (gV vs zs) (g us ws)
variable {g : List Value → List Value → List Value} {gV : List V → List V → List V}
end

/-! ### a def's body keeps its promise -/
structure FnScope (N P : List Str) (sc : Scope) : Prop where
  kind : sc.kind = .function
  co : sc.isCoroutine = false
  gen : sc.isGenerator = false
  nd : N.Nodup
  pre : N.take P.length = P
  par : ∀ x ∈ P, sc.names.lookup x = some .local ∨ sc.names.lookup x = some .cell
  nofree : ∀ y ∈ sc.names, y.2 ≠ .free

theorem bindL_out {kindOf : Str → Option NameKind} {x : Str} : ∀ {binds : List (Str × Value)} {m : Str → Option Value}, (∀ v, (x, v) ∉ binds) → bindL kindOf binds m x = m x
  | [], _, _ => rfl
  | (n, v) :: r, m, h => by
    unfold bindL
    rw [bindL_out fun w hw => h w (List.mem_cons_of_mem _ hw)]
    split
    · have : x ≠ n := by rintro rfl; exact h v List.mem_cons_self
      simp [this]
    · rfl
theorem bindC_out {kindOf : Str → Option NameKind} {x : Str} : ∀ {binds : List (Str × Value)} {m : Str → Option Value}, (∀ v, (x, v) ∉ binds) → bindC kindOf binds m x = m x
  | [], _, _ => rfl
  | (n, v) :: r, m, h => by
    unfold bindC
    rw [bindC_out fun w hw => h w (List.mem_cons_of_mem _ hw)]
    split
    · rfl
    · have : x ≠ n := by rintro rfl; exact h v List.mem_cons_self
      simp [this]
theorem bindL_get {kindOf : Str → Option NameKind} {x : Str} {v : Value} : ∀ {P : List Str} {vs : List Value} {i : Nat} {m : Str → Option Value}, P.Nodup → P[i]? = some x → vs[i]? = some v → kindOf x = some .local →
    bindL kindOf (P.zip vs) m x = some v
  | [], _, _, _, _, h, _, _ => by simp at h
  | _ :: _, [], _, _, _, _, h, _ => by simp at h
  | p :: P, w :: vs, 0, m, nd, h1, h2, hk => by
    simp at h1 h2; subst h1; subst h2
    show bindL kindOf ((p, w) :: P.zip vs) m p = _
    unfold bindL
    rw [bindL_out fun v hv => (List.nodup_cons.mp nd).1 (List.of_mem_zip hv).1, if_pos hk]
    simp
  | p :: P, w :: vs, i + 1, m, nd, h1, h2, hk => by
    show bindL kindOf ((p, w) :: P.zip vs) m x = _
    unfold bindL
    exact bindL_get (i := i) (List.nodup_cons.mp nd).2 (by simpa using h1) (by simpa using h2) hk
theorem bindC_get {kindOf : Str → Option NameKind} {x : Str} {v : Value} : ∀ {P : List Str} {vs : List Value} {i : Nat} {m : Str → Option Value}, P.Nodup → P[i]? = some x → vs[i]? = some v → kindOf x ≠ some .local →
    bindC kindOf (P.zip vs) m x = some v
  | [], _, _, _, _, h, _, _ => by simp at h
  | _ :: _, [], _, _, _, _, h, _ => by simp at h
  | p :: P, w :: vs, 0, m, nd, h1, h2, hk => by
    simp at h1 h2; subst h1; subst h2
    show bindC kindOf ((p, w) :: P.zip vs) m p = _
    unfold bindC
    rw [bindC_out fun v hv => (List.nodup_cons.mp nd).1 (List.of_mem_zip hv).1, if_neg hk]
    simp
  | p :: P, w :: vs, i + 1, m, nd, h1, h2, hk => by
    show bindC kindOf ((p, w) :: P.zip vs) m x = _
    unfold bindC
    exact bindC_get (i := i) (List.nodup_cons.mp nd).2 (by simpa using h1) (by simpa using h2) hk

def start (N : List Str) (vs : List V) : St := vs.map some ++ List.replicate (N.length - vs.length) none

def cxOf (CX : CXT) (P : Program) (w : World) (K : PySem.W.Frag) (mg : Str → Option Value) (base : Heap) (N : List Str) (qual : Str) (scope : Scope) (f : Addr) (cd : Value) (A : Around) (outer : List Env) (s : Shared) (H : Hp) (E : XK) : Cx where
  prog := P
  w := w
  K := K
  mg := mg
  base := base
  A := A.deeper (envOfC qual scope s.heap.objs.size f cd)
  N := N
  s₀ := s
  H₀ := H
  env := envOfC qual scope s.heap.objs.size f cd
  outer := outer
  stack := envOfC qual scope s.heap.objs.size f cd :: outer
  ex := []
  calm := true
  fn := fun _ => true
  pn := []
  xe := fun e s' => wpAny (model P w) (A.deeper (envOfC qual scope s.heap.objs.size f cd)) (leaving (envOfC qual scope s.heap.objs.size f cd) e) (fun _ s'' => CX outer H s E e s'') (fun e' s'' => CX outer H s E e' s'') s'

theorem cell_has {sc : Scope} {n : Nat} {x : Str} (h : sc.names.lookup x = some .cell) : ∃ c, (cellsFrom n sc.names []).lookup x = some c := by
  have q := PySem.W.cellsFrom_some sc.names n [] (.inl h)
  exact Option.isSome_iff_exists.mp q

theorem inv_start {CX : CXT} {P : Program} {w : World} {K : PySem.W.Frag} {mg : Str → Option Value} {base : Heap} {N ps : List Str} {qual : Str} {scope : Scope} {f : Addr} {cd : Value} {A : Around} {outer : List Env} {s s1 : Shared} {H : Hp} {E : XK} {us : List Value} {vs : List V}
    (S : FnScope N ps scope) (hd : A.handled = none) (e0 : Env0 P w K mg base A outer s H) (hl : vs.length = ps.length) (r : Vals vs us)
    (x : InCallC s s.heap.objs.size (bindL (envOfC qual scope s.heap.objs.size f cd).kindOf (ps.zip us) fun _ => none) (cellsFrom (s.heap.objs.size + 1) scope.names []) (bindC (envOfC qual scope s.heap.objs.size f cd).kindOf (ps.zip us) fun _ => none) s1) :
    Inv (cxOf CX P w K mg base N qual scope f cd A outer s H E) [] (start N vs) H s1 := by
  have hpl : ps.length ≤ N.length := by have := congrArg List.length S.pre; rw [List.length_take] at this; omega
  obtain ⟨h1, tk, rfl, hk⟩ := x.done
  have noA : ∀ b : Addr, b ∉ (cxOf CX P w K mg base N qual scope f cd A outer s H E).ex := fun b z => absurd (show b ∈ ([] : List Addr) from z) (by simp)
  refine ⟨⟨e0.mod, S.kind, rfl, rfl, Nat.le_refl _, fun y z c h1 h2 => ?_, fun y hy => ?_, fun y c _ h => ?_, fun _ => hd, Around.frames_deeper e0.frames, .inr ⟨rfl, rfl⟩, fun b z => absurd z (noA b), e0.bs, e0.bsz, fun b _ _ => noA b, fun b z => absurd z (noA b), e0.funs, e0.frf⟩,
    rfl, e0.bare, Un.kept hk, ⟨_, x.toInCall.ns, fun i y v h1 h2 h3 => ?_⟩, fun y c h => ⟨_, x.cell y c h⟩, e0.hok.fresh (Nat.le_refl _), fun y c h => ?_, fun p hp => absurd (show p ∈ ([] : List (Addr × Obj)) from hp) (by simp), e0.hok.kept hk, ?_⟩
  · exact name_of_addr x.apart (PySem.mem_of_lookup h1) (PySem.mem_of_lookup h2)
  · have hy : scope.names.lookup y = some .cell ∨ scope.names.lookup y = some .free := hy
    rcases hy with hy | hy
    · exact cell_has hy
    · exact absurd rfl (S.nofree _ (PySem.mem_of_lookup hy))
  · exact Nat.le_of_lt (x.above y c (PySem.mem_of_lookup h))
  · have hi : i < vs.length := by
      unfold start at h2
      by_cases hi : i < vs.length
      · exact hi
      · rw [List.getElem?_append_right (by simpa using hi)] at h2
        rw [List.getElem?_replicate] at h2
        split at h2 <;> cases h2
    have ha : vs[i]? = some v := by
      unfold start at h2
      rw [List.getElem?_append_left (by simpa using hi), List.getElem?_map] at h2
      cases e : vs[i]? with
      | none => rw [e] at h2; cases h2
      | some a => rw [e] at h2; cases h2; rfl
    obtain ⟨u, hu, rv⟩ := r.get ha
    have hp : ps[i]? = some y := by
      rw [← S.pre, List.getElem?_take_of_lt (by omega)]; exact h1
    have ndP : ps.Nodup := by rw [← S.pre]; exact S.nd.sublist (List.take_sublist _ _)
    refine ⟨u, rv, ?_⟩
    rcases S.par y (List.mem_of_getElem? hp) with k | k
    · exact .inl ⟨k, bindL_get ndP hp hu k⟩
    · obtain ⟨c, e⟩ := cell_has (n := s.heap.objs.size + 1) k
      refine .inr ⟨.inl k, c, e, ?_⟩
      have q := x.cell y c e
      rw [bindC_get ndP hp hu (by show scope.names.lookup y ≠ _; rw [k]; decide)] at q
      exact q
  · exact e0.hok.fresh (Nat.le_of_lt (x.above y c (PySem.mem_of_lookup h)))
  · unfold start
    show _ = N.length
    rw [List.length_append, List.length_map, List.length_replicate]
    omega

theorem fn_of {CX : CXT} {P : Program} {w : World} {K : PySem.W.Frag} {mg : Str → Option Value} {base : Heap} {k : Nat} {f : Addr} {name qual : Str} {params : Arguments} {body : List Stmt} {scope : Scope} {dV kV doc pm cdv ct oc : Value} {an od : Option Addr}
    {osl : Array (Option Value)} {N ps : List Str} {sp : Sp} (lk : K.lookup f = some ⟨oc, od, .func (PySem.W.fnOf name qual params body scope dV kV doc pm an cdv ct), osl⟩) (hcd : PySem.W.codeIn K cdv qual = true) (S : FnScope N ps scope)
    (len : ∀ vs H Q E, sp vs H Q E → vs.length = ps.length)
    (hbody : ∀ (A : Around) (outer : List Env) (s : Shared) (H : Hp) (vs : List V) (Q : VK) (E : XK), Room k (A.deeper (envOfC qual scope s.heap.objs.size f cdv)) → sp vs H Q E →
      ∃ t, PSs (cxOf CX P w K mg base N qual scope f cdv A outer s H E) body t ∧ t { nx := fun _ H' => Q .non H', rt := Q } (start N vs) H) :
    FnOk P w K mg base CX (k + 1) f (PySem.W.fnOf name qual params body scope dV kV doc pm an cdv ct) ps sp := by
  refine ⟨len, fun A outer s H args us vs Q E hr e0 hb r hsp => ?_⟩
  have hl := len _ _ _ _ hsp
  have KX : K.In s.heap := e0.mod.kin.keeps fun b o e => (e0.bs b o e).1
  have lim : s.heap.NoLimit := e0.mod.nolimit.keeps fun b o e => (e0.bs b o e).1
  have hkind : ∀ y ∈ ps.zip us, scope.names.lookup y.1 = some .local ∨ (scope.names.lookup y.1 = some .cell ∧ ((cellsFrom (s.heap.objs.size + 1) scope.names []).lookup y.1).isSome = true) := fun ⟨n, v⟩ hy => by
    rcases S.par n (List.of_mem_zip hy).1 with q | q
    · exact .inl q
    · exact .inr ⟨q, PySem.W.cellsFrom_some _ _ _ (.inl q)⟩
  refine codeAny_call_function hr.depth (KX _ _ lk) rfl S.co S.gen rfl (PySem.W.codeRec_of KX hcd) (hb _ _ _ _ ?_)
  refine wpAny_newFunctionEnv_cells S.kind hkind fun env he s1 x => ?_
  subst he
  refine ⟨lim.keeps x.toInCall.keep, codeAny_func ?_⟩
  obtain ⟨t, ht, hq⟩ := hbody A outer s H vs Q E (hr.deeper _) hsp
  have I : Inv (cxOf CX P w K mg base N qual scope f cdv A outer s H E) [] (start N vs) H s1 := inv_start S hr.hd e0 hl r x
  refine wpAny_mono (ht [] s1 (start N vs) H _ I hq) (fun fl s' hs => ?_) fun e s' hs => hs
  have fin : ∀ {σ' : St} {H' : Hp} {v : V} {u : Value}, Inv (cxOf CX P w K mg base N qual scope f cdv A outer s H E) [] σ' H' s' → RelV v u → Q v H' → CE outer P w H s Q u s' :=
    fun {σ' H' v u} J rv q => ⟨v, H', J.os, J.bare, J.base, J.hok, rv, q⟩
  cases fl with
  | ret u =>
    obtain ⟨v, σ', H', J, rv, q⟩ := hs
    exact fin J rv q
  | next =>
    obtain ⟨σ', H', J, q⟩ := hs
    exact fin (v := V.non) (u := Value.none) J rfl q
  | brk =>
    obtain ⟨_, _, _, q⟩ := hs
    exact False.elim q
  | cont =>
    obtain ⟨_, _, _, q⟩ := hs
    exact False.elim q
end L2

namespace L2
open PySem PySem.Spec PyProof.Rows
section
variable {X : Cx} {x : Str} {p pos : Pos} {e : Expr} {es : List Expr} {t : TA} {id T : String} {r : List V → Hp → VK → Prop}

def tCB (r : List V → Hp → VK → Prop) (t : TA) : TE := fun σ H Q => t σ H fun vs H1 => r vs H1 Q
theorem pe_callB (hc : CallR X (.builtin id) r) (hg : Gl X x) (hm : X.mg x = none) (hv : bootBuiltins x = some (.builtin id)) (ha : PA X (e :: es) t) (hn : x ≠ "__name__" := by decide) (hdb : (x == ("__debug__" : Str)) = false := by decide)
    (he : starEach (e :: es) X.env = (false, eval e X.env) :: starEach es X.env := by rfl) (hpl : (backTo pos (starEach es X.env)).any (·.1) = false := by rfl) : PE X (.Call (.Name x p) (e :: es) [] pos) (tCB r t) := by
  intro pins s σ H Q I h
  refine wpAny_Call_Name_kw (ld_blt I hg hm hv ?_ hn hdb)
  exact PyProof.Rows.callWith_builtin1 (thn (ha pos pins s σ H _ I h) fun us s1 ⟨vs, H1, I1, r1, q1⟩ => hc pins s1 σ H1 vs us Q I1 r1 q1) he hpl
theorem pe_callTy (hc : CallR X (.type T) r) (hg : Gl X x) (hm : X.mg x = none) (hv : bootBuiltins x = some (.type T)) (ha : PA X (e :: es) t) (hn : x ≠ "__name__" := by decide) (hdb : (x == ("__debug__" : Str)) = false := by decide)
    (he : starEach (e :: es) X.env = (false, eval e X.env) :: starEach es X.env := by rfl) (hpl : (backTo pos (starEach es X.env)).any (·.1) = false := by rfl) : PE X (.Call (.Name x p) (e :: es) [] pos) (tCB r t) := by
  intro pins s σ H Q I h
  refine wpAny_Call_Name_kw (ld_blt I hg hm hv ?_ hn hdb)
  exact PyProof.Rows.callWith_type1 (thn (ha pos pins s σ H _ I h) fun us s1 ⟨vs, H1, I1, r1, q1⟩ => hc pins s1 σ H1 vs us Q I1 r1 q1) he hpl
end
end L2

namespace HT
open PySem PyProof.Rows

section
open PySem.SeqAt
open PySem.AutoSeq1 (wpAny_loadPart')
open PySem.MeetsSeq PySem.MeetsSeq2 PySem.MeetsSeq3

end

section
variable {prog : Program} {w : World} {A : Around} {E : Value → Shared → Prop} {s : Shared}

/-! ### t[a:b], not the whole -/
def sIx (n d : Nat) : Option Int → Nat
  | none => d
  | some v => if v < 0 then (v + (n : Int)).toNat else min v.toNat n
theorem sIx_none (n d : Nat) : sIx n d none = d := rfl
theorem sIx_nat (n d k : Nat) : sIx n d (some (k : Int)) = min k n := by
  show (if (k : Int) < 0 then ((k : Int) + (n : Int)).toNat else min (k : Int).toNat n) = min k n
  rw [if_neg (by omega), Int.toNat_natCast]
theorem sIx_le (n d : Nat) (hd : d ≤ n) (o : Option Int) : sIx n d o ≤ n := by
  cases o with
  | none => exact hd
  | some v =>
    show (if v < 0 then (v + (n : Int)).toNat else min v.toNat n) ≤ n
    by_cases hv : v < 0
    · rw [if_pos hv]; omega
    · rw [if_neg hv]; exact Nat.min_le_right _ _
theorem clip_eq (v : Int) (n d : Nat) : (if v < 0 then max (v + (n : Int)) 0 else min v (n : Int)) = ((sIx n d (some v) : Nat) : Int) := by
  show (if v < 0 then max (v + (n : Int)) 0 else min v (n : Int)) = (((if v < 0 then (v + (n : Int)).toNat else min v.toNat n) : Nat) : Int)
  by_cases hv : v < 0
  · simp only [if_pos hv]; omega
  · simp only [if_neg hv]; omega
theorem adjust_gen (lo hi : Option Int) (n : Nat) : Builtin.Slice.sliceAdjust lo hi 1 (n : Int) = (((sIx n 0 lo : Nat) : Int), ((sIx n n hi : Nat) : Int)) := by
  have h1 : ¬ ((1 : Int) < 0) := by omega
  unfold Builtin.Slice.sliceAdjust
  simp only [h1, if_false]
  refine Prod.ext ?_ ?_
  · cases lo with
    | none => rfl
    | some v => exact clip_eq v n 0
  · cases hi with
    | none => rfl
    | some v => exact clip_eq v n n
theorem places_gen (i j : Nat) : Builtin.Slice.slicePlaces (i : Int) (j : Int) 1 = j - i := by
  unfold Builtin.Slice.slicePlaces
  have h1 : (1 : Int) > 0 := by omega
  simp only [h1, if_true, Int.ediv_one]
  split <;> omega
theorem slicePart_ {v : Value} {o : Option Int} {Q : Option Int → Shared → Prop} (p : IsPart v o) (h : Q o s) : wpAny (model prog w) A (Builtin.Slice.slicePartIndex v) Q E s := by
  cases p with
  | none => exact slicePart_none h
  | int i t => exact slicePart_int h
theorem sliceApplied_gen {sl : Addr} {vl vu : Value} {lo hi : Option Int} {n : Nat} {Q : Int × Int × Nat → Shared → Prop} (hs : s.heap.IsSliceOf sl vl vu .none) (pl : IsPart vl lo) (pu : IsPart vu hi)
    (h : Q (((sIx n 0 lo : Nat) : Int), 1, sIx n n hi - sIx n 0 lo) s) : wpAny (model prog w) A (Builtin.Slice.sliceApplied (.ref sl) (pure (n : Int))) Q E s := by
  obtain ⟨os, hos, hcs, hds⟩ := id hs
  unfold Builtin.Slice.sliceApplied Builtin.Slice.sliceFields
  refine wpAny_bind (wpAny_bind (wpAny_field hos hds (x := vl) rfl (wpAny_bind (wpAny_field hos hds (x := vu) rfl (wpAny_bind (wpAny_field hos hds (x := .none) rfl (wpAny_pure ?_)))))))
  refine wpAny_bind (slicePart_none ?_)
  show wpAny _ _ (if ((1 : Int) == 0) = true then _ else _) _ _ s
  rw [if_neg (by decide)]
  refine wpAny_bind (slicePart_ pl (wpAny_bind (slicePart_ pu (wpAny_bind (wpAny_pure ?_)))))
  show wpAny _ _ (match Builtin.Slice.sliceAdjust lo hi 1 (n : Int) with | (lo, hi) => pure (lo, (1 : Int), Builtin.Slice.slicePlaces lo hi 1)) _ _ s
  rw [adjust_gen lo hi n]
  show wpAny _ _ (pure (((sIx n 0 lo : Nat) : Int), (1 : Int), Builtin.Slice.slicePlaces ((sIx n 0 lo : Nat) : Int) ((sIx n n hi : Nat) : Int) 1)) _ _ s
  rw [places_gen]
  exact wpAny_pure h
theorem pick_gen (xs : Array Value) (i k : Nat) : ((List.range k).filterMap fun (m : Nat) => xs[((i : Int) + (m : Int) * 1).toNat]?).toArray = ((xs.toList.drop i).take k).toArray := by
  have e : (fun (m : Nat) => xs[((i : Int) + (m : Int) * 1).toNat]?) = fun m => xs[i + m]? := by
    funext m
    have : ((i : Int) + (m : Int) * 1).toNat = i + m := by omega
    rw [this]
  rw [e]
  have := pick_run xs i k
  rw [List.filterMap_map] at this
  have e2 : ((fun x => xs[x]?) ∘ fun x => i + x) = fun m => xs[i + m]? := rfl
  rw [e2] at this
  rw [this]

theorem getItem_tuple_cut {t sl : Addr} {items : Array Value} {vl vu : Value} {lo hi : Option Int} {Q : Value → Shared → Prop} (ht : IsTup s.heap t items) (hs : s.heap.IsSliceOf sl vl vu .none) (pl : IsPart vl lo) (pu : IsPart vu hi)
    (hw : ¬ (sIx items.size 0 lo = 0 ∧ sIx items.size items.size hi = items.size))
    (h : Q (.ref s.heap.objs.size) { s with heap := s.heap.push { cls := .type "tuple", data := .seq ((items.toList.drop (sIx items.size 0 lo)).take (sIx items.size items.size hi - sIx items.size 0 lo)).toArray } })
    (hsz : items.size ≤ sizeLine) : wpAny (model prog w) A (getItem (.ref t) (.ref sl)) Q E s := by
  have htake : sizeOk (.seq ((items.toList.drop (sIx items.size 0 lo)).take (sIx items.size items.size hi - sIx items.size 0 lo)).toArray) := by
    show ((items.toList.drop (sIx items.size 0 lo)).take (sIx items.size items.size hi - sIx items.size 0 lo)).toArray.size ≤ sizeLine
    rw [List.size_toArray, List.length_take, List.length_drop, Array.length_toList]
    omega
  have hj : sIx items.size items.size hi ≤ items.size := sIx_le _ _ (Nat.le_refl _) hi
  obtain ⟨os, hos, hcs, hds⟩ := id hs
  have hTs : s.TypeIs (.ref sl) "slice" := ⟨os, hos, hcs⟩
  unfold getItem
  try with_reducible refine wpAny_holding ?_
  first | refine wpAny_bind (wpAny_pure ?_) | skip
  refine wpAny_bind (wpAny_sequenceKey ht.typeIs (by decide) ?_)
  refine wpAny_bind (wpAny_callSpecial?_slot (name := Str.ofString "__getitem__") ht.typeIs PyProof.Rows.slot_tuple_getitem
    (wpAny_call_entry PyProof.Rows.slot_tuple_getitem ht.typeIs entry_tuple_getitem ?_ (args_tuple_getitem _ _)))
  show wpAny _ _ (Builtin.Tuple.tupleItemsOf (.ref t) >>= _) _ _ s
  refine wpAny_bind (tupleItemsOf_ ht ?_)
  refine wpAny_bind (wpAny_typeOf hTs ?_)
  rw [if_pos (by decide)]
  refine wpAny_bind (sliceApplied_gen hs pl pu ?_)
  have hno : ¬ ((((sIx items.size 0 lo : Nat) : Int) == 0 && (1 : Int) == 1 && (sIx items.size items.size hi - sIx items.size 0 lo) == items.size) = true) := by
    intro q
    rw [Bool.and_eq_true, Bool.and_eq_true] at q
    have q1 : ((sIx items.size 0 lo : Nat) : Int) = 0 := eq_of_beq q.1.1
    have q2 : sIx items.size items.size hi - sIx items.size 0 lo = items.size := eq_of_beq q.2
    exact hw ⟨by omega, by omega⟩
  show wpAny _ _ (if (((sIx items.size 0 lo : Nat) : Int) == 0 && (1 : Int) == 1 && (sIx items.size items.size hi - sIx items.size 0 lo) == items.size) = true then _ else _) _ _ s
  rw [if_neg hno, pick_gen]
  first
    | exact wpAny_bind (m := Builtin.Tuple.tupleExact _) (wpAny_newObj_type (wpAny_pure ⟨_, rfl, wpAny_pure h⟩) htake)
    | exact wpAny_bind (m := Builtin.Tuple.tupleExact _) (wpAny_newObj_type (wpAny_bind (wpAny_pure (wpAny_pure ⟨_, rfl, wpAny_pure h⟩))) htake)
    | exact wpAny_bind (wpAny_bind (m := Builtin.Tuple.tupleExact _) (wpAny_newObj_type (wpAny_pure (wpAny_pure ⟨_, rfl, wpAny_pure h⟩)) htake))
    | exact wpAny_bind (wpAny_bind (m := Builtin.Tuple.tupleExact _) (wpAny_newObj_type (wpAny_pure ⟨_, rfl, wpAny_pure h⟩) htake))
end
end HT

namespace L2
open PySem PySem.Spec PyProof.Rows

/-! ### the parts of a slice -/
abbrev TO := St → Hp → (Option Int → Hp → Prop) → Prop
def PO (X : Cx) (e : Option Expr) (t : TO) : Prop :=
  ∀ (pins : List (Addr × Obj)) (s : Shared) (σ : St) (H : Hp) (Q : Option Int → Hp → Prop), Inv X pins σ H s → t σ H Q →
    wpAny (model X.prog X.w) X.A (evalPart e X.env) (fun u s' => ∃ o H', Inv X pins σ H' s' ∧ IsPart u o ∧ Q o H') X.xe s
def tNoPart : TO := fun _ H Q => Q none H
def tPart (t : TE) : TO := fun σ H Q => t σ H fun x H1 => ∃ i, x = .int i ∧ Q (some i) H1

section
variable {X : Cx} {e : Expr} {te : TE} {lo hi : Option Expr} {tl th : TO} {pos p2 : Pos}

theorem po_none : PO X none tNoPart := by
  intro pins s σ H Q I h
  rw [evalPart_none]
  exact wpAny_pure ⟨none, H, I, .none, h⟩
theorem po_some (h : PE X e te) : PO X (some e) (tPart te) := by
  intro pins s σ H Q I hw
  rw [evalPart_some]
  refine thn (h pins s σ H _ I hw) fun u s1 ⟨x, H1, I1, r1, q1⟩ => ?_
  obtain ⟨i, rfl, q⟩ := q1
  obtain ⟨t, rfl⟩ := r1
  exact ⟨some i, H1, I1, .int i t, q⟩

def SlR (X : Cx) (r : V → Option Int → Option Int → Hp → VK → Prop) : Prop :=
  ∀ (pins : List (Addr × Obj)) (s : Shared) (σ : St) (H : Hp) (x : V) (v vl vu : Value) (lo hi : Option Int) (sl : Addr) (Q : VK), Inv X pins σ H s → RelV x v → s.heap.IsSliceOf sl vl vu .none → IsPart vl lo → IsPart vu hi → r x lo hi H Q →
    ∃ T id, typeLookup (.type T) "__getitem__" = pure (some (.builtin id)) ∧ s.TypeIs v T ∧ wpAny (model X.prog X.w) X.A (getItem v (.ref sl)) (EP X pins σ Q) X.xe s
theorem SlR.or {r r' : V → Option Int → Option Int → Hp → VK → Prop} (h : SlR X r) (h' : SlR X r') : SlR X (fun x lo hi H Q => r x lo hi H Q ∨ r' x lo hi H Q) := by
  intro pins s σ H x v vl vu lo hi sl Q I rx hs pl pu q
  rcases q with q | q
  · exact h pins s σ H x v vl vu lo hi sl Q I rx hs pl pu q
  · exact h' pins s σ H x v vl vu lo hi sl Q I rx hs pl pu q
def tSl (r : V → Option Int → Option Int → Hp → VK → Prop) (te : TE) (tl th : TO) : TE := fun σ H Q => te σ H fun x H1 => tl σ H1 fun l H2 => th σ H2 fun u H3 => r x l u H3 Q
theorem pe_slice {r : V → Option Int → Option Int → Hp → VK → Prop} (hr : SlR X r) (he : PE X e te) (hl : PO X lo tl) (hu : PO X hi th) : PE X (.Subscript e (.Slice lo hi none p2) pos) (tSl r te tl th) := by
  intro pins s σ H Q I h
  refine Subscript_ (thn (he pins s σ H _ I h) fun v s1 ⟨x, H1, I1, r1, q1⟩ => ?_)
  refine wpAny_Slice (thn (hl pins s1 σ H1 _ I1 q1) fun vl s2 ⟨l, H2, I2, pl, q2⟩ => thn (hu pins s2 σ H2 _ I2 q2) fun vu s3 ⟨u, H3, I3, pu, q3⟩ => ?_)
  rw [evalPart_none]
  refine wpAny_pure ?_
  have I4 : Inv X pins σ H3 { s3 with heap := s3.heap.push { cls := .type "slice", data := .fields #[vl, vu, .none] } } := I3.kept (t' := s3.toks) fun b ob q => Heap.get?_push_of_some _ q
  obtain ⟨T, id, hT, ht, hg⟩ := hr pins { s3 with heap := s3.heap.push { cls := .type "slice", data := .fields #[vl, vu, .none] } } σ H3 x v vl vu l u s3.heap.objs.size Q I4 r1 (Heap.IsSliceOf.new ..) pl pu q3
  show wpAny (model X.prog X.w) X.A (subscriptTail e (.Slice lo hi none p2) v (.ref s3.heap.objs.size)) (EP X pins σ Q) X.xe { s3 with heap := s3.heap.push { cls := .type "slice", data := .fields #[vl, vu, .none] } }
  exact tail_any (ops := [.ref s3.heap.objs.size, v]) ht hT hg (by with_unfolding_all rfl)

def cutV (xs : List V) (lo hi : Option Int) : List V := (xs.drop (HT.sIx xs.length 0 lo)).take (HT.sIx xs.length xs.length hi - HT.sIx xs.length 0 lo)
theorem cutV_length (xs : List V) (lo hi : Option Int) : (cutV xs lo hi).length ≤ xs.length := by
  unfold cutV
  rw [List.length_take, List.length_drop]
  omega
def rSlT (K : PySem.W.Frag) : V → Option Int → Option Int → Hp → VK → Prop := fun x lo hi H Q => ∃ a xs, x = .ref a ∧ SqT K H a xs ∧
  ¬ (HT.sIx xs.length 0 lo = 0 ∧ HT.sIx xs.length xs.length hi = xs.length) ∧ ∀ p, H p = none → Q (.ref p) (upd H p (.tup (cutV xs lo hi)))
theorem sl_tup : SlR X (rSlT X.K) := by
  intro pins s σ H x v vl vu lo hi sl Q I rx hs pl pu h
  obtain ⟨a, xs, rfl, hx, hw, q⟩ := h
  cases rx
  obtain ⟨its, r, ht, hz⟩ := I.tuple hx
  have hlen : its.toArray.size = xs.length := by rw [List.size_toArray]; exact r.length.symm
  refine ⟨"tuple", _, PyProof.Rows.slot_tuple_getitem.lookup, ht.typeIs, ?_⟩
  refine HT.getItem_tuple_cut ht hs pl pu (by rw [hlen]; exact hw) ?_ (by rw [hlen]; exact hz)
  rw [hlen]
  refine ⟨.ref s.heap.objs.size, _, I.laid (t' := s.toks) (o := .tup (cutV xs lo hi)) (fun b ob q => Heap.get?_push_of_some _ q) (Nat.le_refl _) ?_, rfl, q _ (I.hok.fresh (Nat.le_refl _))⟩
  exact ⟨Nat.le_trans (cutV_length xs lo hi) hz, _, (r.drop (HT.sIx xs.length 0 lo)).take (HT.sIx xs.length xs.length hi - HT.sIx xs.length 0 lo), IsTup.new _ _⟩

/-! ### t < u, t + u -/
end
end L2

namespace L2
open PySem PySem.Spec PyProof.Rows

/-! ### places -/
def ixN (n : Nat) (i : Int) : Option Nat := if 0 ≤ i then (if i < n then some i.toNat else none) else if -(n : Int) ≤ i then some (i + n).toNat else none
def atI {α : Type} (xs : List α) (i : Int) : Option α := (ixN xs.length i).bind fun j => xs[j]?
theorem ixN_seq {n : Nat} {i : Int} {j : Nat} (h : ixN n i = some j) : seqIndex? i n = some j ∧ j < n ∧ -(n : Int) ≤ i ∧ i < n := by
  unfold ixN at h
  by_cases h0 : 0 ≤ i
  · rw [if_pos h0] at h
    by_cases h1 : i < n
    · rw [if_pos h1] at h
      have e : i.toNat = j := Option.some.inj h
      exact ⟨by rw [seqIndex_of h0 h1, e], by omega, by omega, h1⟩
    · rw [if_neg h1] at h; cases h
  · rw [if_neg h0] at h
    by_cases h1 : -(n : Int) ≤ i
    · rw [if_pos h1] at h
      have e : (i + n).toNat = j := Option.some.inj h
      exact ⟨by rw [seqIndex_neg (by omega) h1, e], by omega, h1, by omega⟩
    · rw [if_neg h1] at h; cases h
theorem atI_get {α : Type} {xs : List α} {i : Int} {v : α} (h : atI xs i = some v) : ∃ j, seqIndex? i xs.length = some j ∧ xs[j]? = some v ∧ j < xs.length ∧ -(xs.length : Int) ≤ i ∧ i < xs.length := by
  unfold atI at h
  cases e : ixN xs.length i with
  | none => rw [e] at h; cases h
  | some j =>
    rw [e] at h
    obtain ⟨h1, h2, h3, h4⟩ := ixN_seq e
    exact ⟨j, h1, h, h2, h3, h4⟩
theorem atI_nat {α : Type} {xs : List α} {j : Nat} {v : α} (h : xs[j]? = some v) : atI xs (j : Int) = some v := by
  have hj : j < xs.length := (List.getElem?_eq_some_iff.mp h).1
  have e : ixN xs.length (j : Int) = some j := by
    unfold ixN
    rw [if_pos (by omega), if_pos (by omega)]; simp
  unfold atI; rw [e]; exact h
theorem atI_last {α : Type} (xs : List α) (v : α) : atI (xs ++ [v]) (-1) = some v := by
  have hl : (xs ++ [v]).length = xs.length + 1 := by simp
  have e : ixN (xs ++ [v]).length (-1) = some xs.length := by
    unfold ixN
    rw [hl, if_neg (by decide), if_pos (by omega)]
    congr 1
    omega
  unfold atI
  rw [e]
  show (xs ++ [v])[xs.length]? = some v
  simp

/-! ### what may be subscripted -/
def PlainIx (b : Expr) : Prop := ∀ o i, subscripted b false o i = operate [o, i] (getItem o i)
def IxR (X : Cx) (r : R2) : Prop :=
  ∀ (value slice : Expr) (pins : List (Addr × Obj)) (s : Shared) (σ : St) (H : Hp) (x y : V) (v u : Value) (Q : VK), Inv X pins σ H s → RelV x v → RelV y u → r x y H Q →
    subscripted slice false v u = operate [v, u] (getItem v u) → wpAny (model X.prog X.w) X.A (subscriptTail value slice v u) (EP X pins σ Q) X.xe s
def MtR (X : Cx) (id : String) (r : V → List V → Hp → VK → Prop) : Prop :=
  ∀ (pins : List (Addr × Obj)) (s : Shared) (σ : St) (H : Hp) (x : V) (xs : List V) (v : Value) (us : List Value) (Q : VK), Inv X pins σ H s → RelV x v → Vals xs us → r x xs H Q →
    wpAny (model X.prog X.w) X.A (call (.builtin id) (v :: us)) (EP X pins σ Q) X.xe s
section
variable {X : Cx} {a b : Expr} {ta tb : TE} {pos : Pos}
theorem IxR.or {r r' : R2} (h : IxR X r) (h' : IxR X r') : IxR X (fun x y H Q => r x y H Q ∨ r' x y H Q) := by
  intro value slice pins s σ H x y v u Q I rx ry q hs
  rcases q with q | q
  · exact h value slice pins s σ H x y v u Q I rx ry q hs
  · exact h' value slice pins s σ H x y v u Q I rx ry q hs
theorem MtR.or {id : String} {r r' : V → List V → Hp → VK → Prop} (h : MtR X id r) (h' : MtR X id r') : MtR X id (fun x xs H Q => r x xs H Q ∨ r' x xs H Q) := by
  intro pins s σ H x xs v us Q I rx rs q
  rcases q with q | q
  · exact h pins s σ H x xs v us Q I rx rs q
  · exact h' pins s σ H x xs v us Q I rx rs q
theorem pe_ix {r : R2} (hr : IxR X r) (ha : PE X a ta) (hb : PE X b tb) (hs : PlainIx b) : PE X (.Subscript a b pos) (tOp r ta tb) := by
  intro pins s σ H Q I h
  exact Subscript_ (binT ha hb I h fun v u s2 x y H2 I2 rx ry q => hr a b pins s2 σ H2 x y v u Q I2 rx ry q (hs _ _))

def rIxL (K : PySem.W.Frag) : R2 := fun x y H Q => ∃ p xs i v, x = .ref p ∧ y = .int i ∧ SqL K H p xs ∧ atI xs i = some v ∧ Q v H
def rIxT (K : PySem.W.Frag) : R2 := fun x y H Q => ∃ p xs i v, x = .ref p ∧ y = .int i ∧ SqT K H p xs ∧ atI xs i = some v ∧ Q v H
def rIxS : R2 := fun x y H Q => ∃ z i c, x = .str z ∧ y = .int i ∧ z.length ≤ sizeLine ∧ atI z.cps.toList i = some c ∧ Q (.str ⟨#[c]⟩) H
theorem ix_list : IxR X (rIxL X.K) := by
  intro value slice pins s σ H x y v u Q I rx ry h hs
  obtain ⟨p, xs, i, z, rfl, rfl, hq, he, q⟩ := h
  cases rx
  obtain ⟨t, rfl⟩ := ry
  obtain ⟨its, r, pl, hz⟩ := I.list hq
  obtain ⟨j, h1, h2, h3, h4, h5⟩ := atI_get he
  obtain ⟨w, ew, rw'⟩ := r.get h2
  have hl := r.length
  have hn := line63
  have fin : EP X pins σ Q w s := ⟨z, H, I, rw', q⟩
  by_cases h0 : 0 ≤ i
  · have hj : i.toNat = j := by
      rw [seqIndex_of h0 h5] at h1
      exact Option.some.inj h1
    exact item_listR pl.isList h0 (by omega) (by rw [hj]; simpa using ew) fin hs
  · have hj : (i + (its.toArray.size : Int)).toNat = j := by
      rw [seqIndex_neg (by omega) h4] at h1
      rw [List.size_toArray, ← hl]
      exact Option.some.inj h1
    exact subscriptTail_builtinR (x := w) pl.isList.typeIs slot_list_getitem.lookup
      (wpAny_getItem_list_neg (Q := fun r s' => r = w ∧ EP X pins σ Q r s') pl.isList (by omega) (by rw [List.size_toArray] <;> omega) (by omega) (by rw [hj]; simpa using ew) ⟨rfl, fin⟩) hs
theorem ix_tup : IxR X (rIxT X.K) := by
  intro value slice pins s σ H x y v u Q I rx ry h hs
  obtain ⟨p, xs, i, z, rfl, rfl, hq, he, q⟩ := h
  cases rx
  obtain ⟨t, rfl⟩ := ry
  obtain ⟨its, r, pl, hz⟩ := I.tuple hq
  obtain ⟨j, h1, h2, h3, h4, h5⟩ := atI_get he
  obtain ⟨w, ew, rw'⟩ := r.get h2
  have hl := r.length
  have hn := line63
  have fin : EP X pins σ Q w s := ⟨z, H, I, rw', q⟩
  exact subscriptTail_builtinR (x := w) pl.typeIs slot_tuple_getitem.lookup
    (getItem_tuple (j := j) (Q := fun r s' => r = w ∧ EP X pins σ Q r s') pl (by omega) (by omega) (by rw [List.size_toArray, ← hl]; exact h1) (by simpa using ew) ⟨rfl, fin⟩) hs
theorem ix_str : IxR X rIxS := by
  intro value slice pins s σ H x y v u Q I rx ry h hs
  obtain ⟨z, i, c, rfl, rfl, hz, he, q⟩ := h
  obtain ⟨t, rfl⟩ := rx
  obtain ⟨t', rfl⟩ := ry
  obtain ⟨j, h1, h2, h3, h4, h5⟩ := atI_get he
  have hl : z.cps.toList.length = z.length := by simp [Str.length]
  rw [hl] at h1 h4 h5
  have hn := line63
  exact tail_any (typeIs_str s z t) slot_str_getitem.lookup (getItem_str (c := c) (by
    have e1 : decide (i < -(2 ^ 63 : Int)) = false := decide_eq_false (by omega)
    have e2 : decide (i ≥ 2 ^ 63) = false := decide_eq_false (by omega)
    rw [e1, e2, Bool.or_false]) (by rw [h1]; simpa using h2) ⟨.str ⟨#[c]⟩, H, I.tok _, ⟨_, rfl⟩, q⟩) hs
def rIx (K : PySem.W.Frag) : R2 := fun x y H Q => rIxL K x y H Q ∨ rIxT K x y H Q ∨ rIxS x y H Q
theorem ix_seq : IxR X (rIx X.K) := ix_list.or (ix_tup.or ix_str)

/-! ### xs[i] = v, any sign -/
theorem mapSeq_set (its : List Value) (n j : Nat) (u : Value) : Obj.mapSeq (·.setIfInBounds j u) { cls := .type "list", data := .seq its.toArray n } = { cls := .type "list", data := .seq (its.set j u).toArray n } := by
  simp [Obj.mapSeq]
theorem Inv.lst {pins : List (Addr × Obj)} {σ : St} {H : Hp} {s : Shared} {p : Addr} {xs : List V} (I : Inv X pins σ H s) (h : H p = some (.lst xs)) :
    ∃ (its : List Value) (n : Nat), Vals xs its ∧ s.heap.get? p = some { cls := .type "list", data := .seq its.toArray n } ∧ xs.length ≤ sizeLine := by
  obtain ⟨z, its, n, r, e⟩ := I.hok p _ h
  exact ⟨its, n, r, e, z⟩
theorem Inv.lstUpd {pins : List (Addr × Obj)} {σ : St} {H : Hp} {s : Shared} {p : Addr} {xs ys : List V} {its its' : List Value} {n n' : Nat} {f : Obj → Obj} (I : Inv X pins σ H s) (h : H p = some (.lst xs))
    (ho : s.heap.get? p = some { cls := .type "list", data := .seq its.toArray n }) (hf : f { cls := .type "list", data := .seq its.toArray n } = { cls := .type "list", data := .seq its'.toArray n' }) (r : Vals ys its') (hz : ys.length ≤ sizeLine) (t : Nat) :
    Inv X pins σ (upd H p (.lst ys)) { s with heap := s.heap.update p f, toks := t } := by
  have e : (s.heap.update p f).get? p = some { cls := .type "list", data := .seq its'.toArray n' } := by
    rw [Heap.get?_update_self f ho (by rw [hf] <;> rfl), hf]
  refine I.write (x := p) (e := p) (by rw [h]; trivial) (.inl rfl) (fun b u hb q => (Heap.get?_update_other _ _ (Ne.symm hb)).trans q) ⟨_, e⟩ ?_
  exact ⟨hz, its', n', r, e⟩
def rSetL : V → V → V → Hp → (Hp → Prop) → Prop := fun o i v H Q => ∃ p xs k j, o = .ref p ∧ i = .int k ∧ H p = some (.lst xs) ∧ ixN xs.length k = some j ∧ Q (upd H p (.lst (xs.set j v)))
theorem set_list : PSet X rSetL := by
  intro pins s σ H o i v ov iv u Q I ro ri rv h
  obtain ⟨p, xs, k, j, rfl, rfl, hp, hj, q⟩ := h
  cases ro
  obtain ⟨t, rfl⟩ := ri
  obtain ⟨its, n, r, ho, hz⟩ := I.lst hp
  obtain ⟨h1, h2, h3, h4⟩ := ixN_seq hj
  have hl := r.length
  have hn := line63
  have I' : Inv X pins σ (upd H p (.lst (xs.set j v))) { s with heap := s.heap.update p (Obj.mapSeq (·.setIfInBounds j u)) } :=
    I.lstUpd hp ho (mapSeq_set its n j u) (r.set rv j) (by rw [List.length_set]; exact hz) s.toks
  by_cases h0 : 0 ≤ k
  · have hk : k.toNat = j := by
      rw [seqIndex_of h0 h4] at h1
      exact Option.some.inj h1
    exact PySem.W.ki_setAt ho h0 (by omega) (by rw [List.size_toArray, ← hl]; exact h4) (by rw [hk]; exact ⟨_, I', q⟩)
  · have hk : (k + (its.toArray.size : Int)).toNat = j := by
      rw [seqIndex_neg (by omega) h3] at h1
      rw [List.size_toArray, ← hl]
      exact Option.some.inj h1
    exact PySem.W.ki_setBack ho (by omega) (by rw [List.size_toArray, ← hl]; exact h3) (by omega) (by rw [hk]; exact ⟨_, I', q⟩)

/-! ### slices -/
theorem slice_bounds (lo hi : Option Int) (n : Nat) : (sliceBounds lo hi none n).1 = ((HT.sIx n 0 lo : Nat) : Int) ∧ (sliceBounds lo hi none n).2.1 = ((HT.sIx n n hi : Nat) : Int) ∧ (sliceBounds lo hi none n).2.2 = 1 := by
  refine ⟨?_, ?_, rfl⟩
  · cases lo with
    | none => simp [sliceBounds, HT.sIx]
    | some i =>
      simp only [sliceBounds, HT.sIx, Option.getD_none, show (1 : Int) > 0 by decide, if_true]
      by_cases h : i < 0
      · simp only [h, if_true] <;> omega
      · simp only [h, if_false] <;> omega
  · cases hi with
    | none => simp [sliceBounds, HT.sIx]
    | some i =>
      simp only [sliceBounds, HT.sIx, Option.getD_none, show (1 : Int) > 0 by decide, if_true]
      by_cases h : i < 0
      · simp only [h, if_true] <;> omega
      · simp only [h, if_false] <;> omega
theorem slicePick_cut (its : List Value) (lo hi : Option Int) : slicePick its.toArray lo hi none = ((its.drop (HT.sIx its.length 0 lo)).take (HT.sIx its.length its.length hi - HT.sIx its.length 0 lo)).toArray := by
  obtain ⟨h1, h2, h3⟩ := slice_bounds lo hi its.toArray.size
  unfold slicePick
  rw [h1, h2, h3]
  simp only [sliceRange_one, pick_run, List.size_toArray] <;> rfl
def rSlL (K : PySem.W.Frag) : V → Option Int → Option Int → Hp → VK → Prop := fun x lo hi H Q => ∃ a xs, x = .ref a ∧ SqL K H a xs ∧ ∀ p, H p = none → Q (.ref p) (upd H p (.lst (cutV xs lo hi)))
theorem sl_list : SlR X (rSlL X.K) := by
  intro pins s σ H x v vl vu lo hi sl Q I rx hs pl pu h
  obtain ⟨a, xs, rfl, hx, q⟩ := h
  cases rx
  obtain ⟨its, r, ht, hz⟩ := I.list hx
  have hlen := r.length
  refine ⟨"list", _, slot_list_getitem.lookup, ht.isList.typeIs, ?_⟩
  refine wpAny_getItem_list_slice ht.isList hs pl pu .none (by simp) ?_ (by rw [List.size_toArray] <;> omega)
  rw [slicePick_cut, ← hlen]
  refine ⟨.ref s.heap.objs.size, _, I.laid (t' := s.toks) (o := .lst (cutV xs lo hi)) (fun b ob q => Heap.get?_push_of_some _ q) (Nat.le_refl _) ?_, rfl, q _ (I.hok.fresh (Nat.le_refl _))⟩
  exact ⟨Nat.le_trans (cutV_length xs lo hi) hz, _, 0, (r.drop (HT.sIx xs.length 0 lo)).take (HT.sIx xs.length xs.length hi - HT.sIx xs.length 0 lo), Heap.get?_push_size _ rfl⟩

/-! ### in, not in: flat items -/
def flatV : V → Bool
  | .non => true
  | .bl _ => true
  | .int _ => true
  | .str _ => true
  | _ => false
def eqV : V → V → Bool
  | .non, .non => true
  | .bl a, .bl b => a == b
  | .bl a, .int b => (if a then 1 else 0) == b
  | .int a, .bl b => a == (if b then 1 else 0)
  | .int a, .int b => a == b
  | .str a, .str b => a == b
  | _, _ => false
theorem eqAt_V {A : Around} {s : Shared} {y x : V} {u v : Value} (ry : RelV y u) (rx : RelV x v) (fy : flatV y = true) (fx : flatV x = true) : SeqAt.EqAt A s u v (eqV y x) := by
  cases y with
  | non =>
    cases ry
    cases x with
    | non => cases rx; exact SeqAt.EqAt.same _
    | bl b => cases rx; exact SeqAt.EqAt.none_bool b
    | int b => obtain ⟨t, rfl⟩ := rx; exact SeqAt.EqAt.none_int b t
    | str b => obtain ⟨t, rfl⟩ := rx; exact SeqAt.EqAt.none_str b t
    | _ => exact absurd (show false = true from fx) Bool.false_ne_true
  | bl a =>
    cases ry
    cases x with
    | non => cases rx; exact SeqAt.EqAt.bool_none a
    | bl b => cases rx; exact SeqAt.EqAt.bool_bool a b
    | int b => obtain ⟨t, rfl⟩ := rx; exact SeqAt.EqAt.bool_int a b t
    | str b => obtain ⟨t, rfl⟩ := rx; exact SeqAt.EqAt.bool_str a b t
    | _ => exact absurd (show false = true from fx) Bool.false_ne_true
  | int a =>
    obtain ⟨t', rfl⟩ := ry
    cases x with
    | non => cases rx; exact SeqAt.EqAt.int_none a t'
    | bl b => cases rx; exact SeqAt.EqAt.int_bool a t' b
    | int b => obtain ⟨t, rfl⟩ := rx; exact SeqAt.EqAt.int_int a t' b t
    | str b => obtain ⟨t, rfl⟩ := rx; exact SeqAt.EqAt.int_str a t' b t
    | _ => exact absurd (show false = true from fx) Bool.false_ne_true
  | str a =>
    obtain ⟨t', rfl⟩ := ry
    cases x with
    | non => cases rx; exact SeqAt.EqAt.str_none a t'
    | bl b => cases rx; exact SeqAt.EqAt.str_bool a t' b
    | int b => obtain ⟨t, rfl⟩ := rx; exact SeqAt.EqAt.str_int a t' b t
    | str b => obtain ⟨t, rfl⟩ := rx; exact SeqAt.EqAt.str_str a t' b t
    | _ => exact absurd (show false = true from fx) Bool.false_ne_true
  | _ => exact absurd (show false = true from fy) Bool.false_ne_true
def eqU (x : V) (u : Value) : Bool := match u with
  | .none => eqV .non x
  | .bool b => eqV (.bl b) x
  | .int i _ => eqV (.int i) x
  | .str z _ => eqV (.str z) x
  | _ => false
theorem eqU_of {x y : V} {u : Value} (r : RelV y u) (f : flatV y = true) : eqU x u = eqV y x := by
  cases y with
  | non => cases r; rfl
  | bl b => cases r; rfl
  | int i => obtain ⟨t, rfl⟩ := r; rfl
  | str z => obtain ⟨t, rfl⟩ := r; rfl
  | _ => exact absurd (show false = true from f) Bool.false_ne_true
theorem any_eqU {x : V} : ∀ {xs : List V} {us : List Value}, Vals xs us → xs.all flatV = true → us.any (eqU x) = xs.any fun y => eqV y x
  | _, _, .nil, _ => rfl
  | y :: xs, u :: us, .cons r t, f => by
    rw [List.all_cons, Bool.and_eq_true] at f
    rw [List.any_cons, List.any_cons, eqU_of r f.1, any_eqU t f.2]
theorem mem_eqAt {A : Around} {s : Shared} {x : V} {v : Value} (rx : RelV x v) (fx : flatV x = true) : ∀ {xs : List V} {us : List Value}, Vals xs us → xs.all flatV = true → ∀ u ∈ us, SeqAt.EqAt A s u v (eqU x u)
  | _, _, .nil, _ => fun u hu => by cases hu
  | y :: xs, u :: us, .cons r t, f => fun u' hu => by
    rw [List.all_cons, Bool.and_eq_true] at f
    rcases List.mem_cons.mp hu with rfl | hu
    · rw [eqU_of r f.1]; exact eqAt_V r rx f.1 fx
    · exact mem_eqAt rx fx t f.2 u' hu
def inV (x : V) (xs : List V) : Bool := xs.any fun y => eqV y x
def rIn (K : PySem.W.Frag) (neg : Bool) : R2 := fun x y H Q => ∃ p xs, y = .ref p ∧ (SqL K H p xs ∨ SqT K H p xs) ∧ flatV x = true ∧ xs.all flatV = true ∧ Q (.bl (if neg then !inV x xs else inV x xs)) H
theorem op_notIn_seq : OpR X (compareOp .NotIn) (rIn X.K true) := by
  intro pins s σ H x y v u Q I rx ry h
  obtain ⟨p, xs, rfl, hq, fx, fs, q⟩ := h
  cases ry
  rcases hq with hq | hq
  · obtain ⟨its, r, pl, hz⟩ := I.list hq
    refine SeqAt.notIn_listAt (eqU x) pl.isList (fun w hw => mem_eqAt rx fx r fs w (by simpa using hw)) ⟨.bl _, H, I, rfl, ?_⟩
    rw [show its.toArray.any (eqU x) = its.any (eqU x) by simp, any_eqU r fs]
    exact q
  · obtain ⟨its, r, pl, hz⟩ := I.tuple hq
    refine SeqAt.notIn_tupleAt (eqU x) pl (fun w hw => mem_eqAt rx fx r fs w (by simpa using hw)) ⟨.bl _, H, I, rfl, ?_⟩
    rw [show its.toArray.any (eqU x) = its.any (eqU x) by simp, any_eqU r fs]
    exact q
/-! ### len, list(x), tuple(x) of any list or tuple that is read -/
theorem call_len_seq : CallR X (.builtin "len") (fun xs H Q => ∃ p ys, xs = [.ref p] ∧ (SqL X.K H p ys ∨ SqT X.K H p ys) ∧ Q (.int ys.length) H) := by
  intro pins s σ H xs us Q I r h
  obtain ⟨p, ys, rfl, hq, q⟩ := h
  obtain ⟨u, rfl, rx⟩ := vals1 r
  cases rx
  have hn := line63
  rcases hq with hq | hq
  · obtain ⟨its, r', pl, hz⟩ := I.list hq
    have hlen := r'.length
    exact Calls.call_len_list pl.isList (by simp only [List.size_toArray] <;> omega) ⟨.int ys.length, H, I.tok _, ⟨s.toks + 1, by rw [List.size_toArray, hlen]⟩, q⟩
  · obtain ⟨its, r', pl, hz⟩ := I.tuple hq
    have hlen := r'.length
    exact len_tuple pl (by simp only [List.size_toArray] <;> omega) ⟨.int ys.length, H, I.tok _, ⟨s.toks + 1, by rw [List.size_toArray, hlen]⟩, q⟩
theorem CallR.or {f : Value} {r r' : List V → Hp → VK → Prop} (h : CallR X f r) (h' : CallR X f r') : CallR X f (fun xs H Q => r xs H Q ∨ r' xs H Q) := by
  intro pins s σ H xs us Q I rs q
  rcases q with q | q
  · exact h pins s σ H xs us Q I rs q
  · exact h' pins s σ H xs us Q I rs q
theorem call_list_of : CallR X (.type "list") (fun xs H Q => ∃ p ys, xs = [.ref p] ∧ (SqL X.K H p ys ∨ SqT X.K H p ys) ∧ ∀ l, H l = none → Q (.ref l) (upd H l (.lst ys))) := by
  intro pins s σ H xs us Q I r h
  obtain ⟨p, ys, rfl, hq, q⟩ := h
  obtain ⟨u, rfl, rx⟩ := vals1 r
  cases rx
  have fin : ∀ (its : List Value), Vals ys its → ys.length ≤ sizeLine → ∀ (h' : Heap) (c' : Nat), (∀ b o', s.heap.get? b = some o' → h'.get? b = some o') →
      h'.get? s.heap.objs.size = some { cls := .type "list", dict := none, data := .seq its.toArray c', slots := #[] } → EP X pins σ Q (.ref s.heap.objs.size) { s with heap := h' } := fun its r' hz h' c' kp e =>
    ⟨.ref s.heap.objs.size, _, I.laid (t' := s.toks) kp (Nat.le_refl _) (show ObjOk X.prog X.w _ h' _ (.lst ys) from ⟨hz, its, c', r', e⟩), rfl, q _ (I.hok.fresh (Nat.le_refl _))⟩
  rcases hq with hq | hq
  · obtain ⟨its, r', pl, hz⟩ := I.list hq
    have hlen := r'.length
    obtain ⟨o, ho, hc, n, hd⟩ := pl.isList
    exact call_list_seq p (.inl rfl) ho hc hd (fun h' c' kp e => fin its r' hz h' c' kp e) (by simp only [List.size_toArray] <;> omega)
  · obtain ⟨its, r', pl, hz⟩ := I.tuple hq
    have hlen := r'.length
    obtain ⟨o, ho, hc, n, hd⟩ := pl
    exact call_list_seq p (.inr rfl) ho hc hd (fun h' c' kp e => fin its r' hz h' c' kp e) (by simp only [List.size_toArray] <;> omega)
theorem call_tuple_of : CallR X (.type "tuple") (fun xs H Q => ∃ p ys, xs = [.ref p] ∧ ((SqL X.K H p ys ∧ ∀ l, H l = none → Q (.ref l) (upd H l (.tup ys))) ∨ (SqT X.K H p ys ∧ Q (.ref p) H))) := by
  intro pins s σ H xs us Q I r h
  obtain ⟨p, ys, rfl, h⟩ := h
  obtain ⟨u, rfl, rx⟩ := vals1 r
  cases rx
  rcases h with ⟨hq, q⟩ | ⟨hq, q⟩
  · obtain ⟨its, r', pl, hz⟩ := I.list hq
    have hlen := r'.length
    refine call_tuple_list pl.isList (fun h' kp => ?_) (by simp only [List.size_toArray] <;> omega)
    have I1 : Inv X pins σ H { s with heap := h' } := I.kept (t' := s.toks) kp
    have I2 : Inv X pins σ (upd H h'.objs.size (.tup ys)) { s with heap := h'.push { cls := .type "tuple", data := .seq its.toArray } } :=
      I1.laid (t' := s.toks) (fun b o e => Heap.get?_push_of_some _ e) (Nat.le_refl _) (show ObjOk X.prog X.w _ _ _ (.tup ys) from ⟨hz, its, r', IsTup.new _ _⟩)
    exact ⟨.ref h'.objs.size, _, I2, rfl, q _ (I1.hok.fresh (Nat.le_refl _))⟩
  · obtain ⟨its, r', pl, hz⟩ := I.tuple hq
    exact call_tuple_same pl ⟨.ref p, H, I, rfl, q⟩

/-! ### the call of a builtin's method: o.m(..) -/
def tyV (K : PySem.W.Frag) (T : String) (x : V) (H : Hp) : Prop := match x with
  | .str _ => T = "str"
  | .int _ => T = "int"
  | .ref p => (T = "list" ∧ ∃ xs, SqL K H p xs) ∨ (T = "tuple" ∧ ∃ o, K.lookup p = some o ∧ o.cls = .type "tuple" ∧ o.dict = none) ∨
      (T = "dict" ∧ ((∃ kvs, H p = some (.dK kvs)) ∨ ∃ kvs, H p = some (.dT kvs))) ∨ (T = "set" ∧ ∃ S n, H p = some (.set S n))
  | _ => False
theorem tyV_is {pins : List (Addr × Obj)} {σ : St} {H : Hp} {s : Shared} {T : String} {x : V} {v : Value} (I : Inv X pins σ H s) (r : RelV x v) (ty : tyV X.K T x H) :
    s.TypeIs v T ∧ ∀ a, v = .ref a → ∃ ob, s.heap.get? a = some ob ∧ ob.dict = none := by
  cases x with
  | str z =>
    obtain ⟨t, rfl⟩ := r
    cases (show T = "str" from ty)
    exact ⟨typeIs_str s z t, fun _ e => nomatch e⟩
  | int i =>
    obtain ⟨t, rfl⟩ := r
    cases (show T = "int" from ty)
    exact ⟨typeIs_int s i t, fun _ e => nomatch e⟩
  | ref p =>
    cases r
    rcases ty with ⟨rfl, xs, hq⟩ | ⟨rfl, o, hk, hc, hd⟩ | ⟨rfl, hk⟩ | ⟨rfl, S, n, hk⟩
    · obtain ⟨its, _, pl, _⟩ := I.list hq
      refine ⟨pl.isList.typeIs, fun a e => ?_⟩
      cases e
      obtain ⟨o, n, e, c, hd, _⟩ := pl
      exact ⟨o, e, hd⟩
    · refine ⟨⟨o, I.kIn p o hk, hc⟩, fun a e => ?_⟩
      cases e
      exact ⟨o, I.kIn _ o hk, hd⟩
    · have z : ∃ o, s.heap.get? p = some o ∧ o.ExactDict := by
        rcases hk with ⟨kvs, hk⟩ | ⟨kvs, hk⟩
        · obtain ⟨_, _, _, _, o, _, _, e, ex, _⟩ := I.hok p _ hk
          exact ⟨o, e, ex⟩
        · obtain ⟨_, _, _, _, o, _, _, e, ex, _⟩ := I.hok p _ hk
          exact ⟨o, e, ex⟩
      obtain ⟨o, e, ex⟩ := z
      refine ⟨⟨o, e, ex.1⟩, fun a e2 => ?_⟩
      cases e2
      exact ⟨o, e, ex.2.1⟩
    · obtain ⟨o, _, _, _, e, ex, _⟩ := I.hok p _ hk
      refine ⟨⟨o, e, ex.1⟩, fun a e2 => ?_⟩
      cases e2
      exact ⟨o, e, ex.2.1⟩
  | _ => exact False.elim ty
def tBM0 (K : PySem.W.Frag) (T : String) (r : V → List V → Hp → VK → Prop) (to : TE) : TE := fun σ H Q => to σ H fun x H1 => tyV K T x H1 ∧ r x [] H1 Q
def tBM (K : PySem.W.Frag) (T : String) (r : V → List V → Hp → VK → Prop) (to : TE) (t : TA) : TE := fun σ H Q => to σ H fun x H1 => tyV K T x H1 ∧ t σ H1 fun xs H2 => r x xs H2 Q
variable {o e : Expr} {es : List Expr} {to : TE} {t : TA} {name : Str} {apos cpos : Pos} {T id : String} {r : V → List V → Hp → VK → Prop}
theorem pe_bm0 (pa : PlainAttrs T) (slot : Slot T name id) (hty : typeOf (.builtin id) = pure (.type "method_descriptor")) (hm : MtR X id r) (ho : PE X o to)
    (hbase : attributeBase o name X.env (eval o X.env) = eval o X.env := by rfl) (hline : (apos.endLine == cpos.line) = true := by rfl) : PE X (.Call (.Attribute o name apos) [] [] cpos) (tBM0 X.K T r to) := by
  intro pins s σ H Q I h
  refine wpAny_Call_method0_late hbase hline (thn (ho pins s σ H _ I h) fun v s1 ⟨x, H1, I1, r1, ty, q1⟩ => ?_)
  obtain ⟨h1, h2⟩ := tyV_is I1 r1 ty
  exact ⟨T, id, pa, slot, hty, h1, h2, Calls.callWith_builtin rfl (PySem.evalArgs_none (hm pins s1 σ H1 x [] v [] Q I1 r1 .nil q1))⟩
theorem pe_bm (pa : PlainAttrs T) (slot : Slot T name id) (hty : typeOf (.builtin id) = pure (.type "method_descriptor")) (hm : MtR X id r) (ho : PE X o to) (ha : PA X (e :: es) t)
    (hbase : attributeBase o name X.env (eval o X.env) = eval o X.env := by rfl)
    (hfew : ((backTo cpos (starEach (e :: es) X.env)).all (fun x => !x.1) && (backToKw cpos (keywordEach [] X.env)).all (fun x => x.1.isSome)
      && decide ((e :: es).length + ([] : List Keyword).length + (if ([] : List Keyword).isEmpty then 0 else 1) < 30)) = true := by rfl)
    (hline : (apos.endLine == cpos.line) = true := by rfl) (hs : starEach (e :: es) X.env = (false, eval e X.env) :: starEach es X.env := by rfl) (hplain : (backTo cpos (starEach es X.env)).any (·.1) = false := by rfl) :
    PE X (.Call (.Attribute o name apos) (e :: es) [] cpos) (tBM X.K T r to t) := by
  intro pins s σ H Q I h
  refine wpAny_Call_method_late hbase hfew hline rfl (thn (ho pins s σ H _ I h) fun v s1 ⟨x, H1, I1, r1, ty, q1⟩ => ?_)
  obtain ⟨h1, h2⟩ := tyV_is I1 r1 ty
  refine ⟨T, id, pa, slot, hty, h1, h2, ?_⟩
  have hA := ha cpos pins s1 σ H1 _ I1 q1
  rw [hs] at hA ⊢
  refine Calls.callWith_builtin (by show (false || (backTo cpos (starEach es X.env)).any (·.1)) = false; rw [hplain] <;> rfl) (Calls.evalArgs_plain ?_)
  exact thn hA fun us s2 ⟨vs, H2, I2, r2, q2⟩ => hm pins s2 σ H2 x vs v us Q I2 r1 r2 q2
/- xs.append(e), list.index on a module's tuple .. are MtR facts of 06m -/
end
end L2

namespace L2
open PySem PySem.Spec PyProof.Rows

def MtM (X : Cx) (id : String) (r : V → List V → Hp → VK → Prop) : Prop :=
  ∀ (pins : List (Addr × Obj)) (s : Shared) (σ : St) (H : Hp) (x : V) (xs : List V) (v : Value) (us : List Value) (Q : VK), Inv X pins σ H s → RelV x v → Vals xs us → r x xs H Q →
    wpAny (model X.prog X.w) X.A (call (.builtin id) (v :: us)) (EP X pins σ Q) X.xe s

/-! ### lists of values -/
theorem Vals.one : ∀ {x : V} {us : List Value}, Vals [x] us → ∃ u, us = [u] ∧ RelV x u
  | _, _, .cons r .nil => ⟨_, rfl, r⟩
theorem Vals.two : ∀ {x y : V} {us : List Value}, Vals [x, y] us → ∃ u v, us = [u, v] ∧ RelV x u ∧ RelV y v
  | _, _, _, .cons r (.cons q .nil) => ⟨_, _, rfl, r, q⟩
theorem Vals.zero : ∀ {us : List Value}, Vals [] us → us = []
  | _, .nil => rfl
theorem Vals.reverse {xs : List V} {us : List Value} (h : Vals xs us) : Vals xs.reverse us.reverse := by
  induction h with
  | nil => exact .nil
  | cons r t ih => rw [List.reverse_cons, List.reverse_cons]; exact Vals.append ih (.cons r .nil)
section
variable {X : Cx} {pins : List (Addr × Obj)} {σ : St} {H : Hp} {s : Shared} {l b : Addr} {xs ys zs : List V}

/-! ### the two steps: a tracked list is rewritten, a new list is laid -/
theorem Inv.lset {its its' : List Value} {n : Nat} {f : Array Value → Array Value} {t' : Nat} (I : Inv X pins σ H s) (hH : H l = some (.lst xs))
    (e : s.heap.get? l = some { cls := .type "list", data := .seq its.toArray n }) (hf : f its.toArray = its'.toArray) (hv : Vals ys its') (hz : ys.length ≤ sizeLine) :
    Inv X pins σ (upd H l (.lst ys)) { s with heap := s.heap.update l (Obj.mapSeq f), toks := t' } := by
  have q := PySem.IsL.update e f
  rw [hf] at q
  refine I.write (x := l) (e := l) (by rw [hH]; exact trivial) (.inl rfl) (fun b' u hb hu => (Heap.get?_update_other s.heap (Obj.mapSeq f) (Ne.symm hb)).trans hu) ⟨_, q⟩ ?_
  exact ⟨hz, its', _, hv, q⟩
theorem Inv.lnew {its : List Value} {t' : Nat} (I : Inv X pins σ H s) (hv : Vals ys its) (hz : ys.length ≤ sizeLine) :
    Inv X pins σ (upd H s.heap.objs.size (.lst ys)) { s with heap := s.heap.push { cls := .type "list", data := .seq its.toArray }, toks := t' } :=
  I.laid (fun _ _ q => Heap.get?_push_of_some _ q) (Nat.le_refl _) ⟨hz, its, 0, hv, Heap.get?_push_size _ rfl⟩
theorem Inv.fresh (I : Inv X pins σ H s) : H s.heap.objs.size = none := I.hok.fresh (Nat.le_refl _)
theorem Inv.lstM (I : Inv X pins σ H s) (hH : H l = some (.lst xs)) : xs.length ≤ sizeLine ∧ ∃ (its : List Value) (n : Nat), Vals xs its ∧ xs.length = its.length ∧ s.heap.get? l = some { cls := .type "list", data := .seq its.toArray n } := by
  obtain ⟨z, its, n, r, e⟩ := I.hok l _ hH
  exact ⟨z, its, n, r, r.length, e⟩

end

section
variable {X : Cx}

/-! ### methods -/
def rAppend : V → List V → Hp → VK → Prop := fun x vs H Q => ∃ l xs y, x = .ref l ∧ vs = [y] ∧ H l = some (.lst xs) ∧ xs.length < sizeLine ∧ Q .non (upd H l (.lst (xs ++ [y])))
theorem mt_append : MtM X "list.append" rAppend := by
  intro pins s σ H x vs v us Q I rx rv h
  obtain ⟨l, xs, y, rfl, rfl, hH, hz, q⟩ := h
  cases rx
  obtain ⟨u, rfl, ru⟩ := rv.one
  obtain ⟨z, its, n, r, hl, e⟩ := I.lstM hH
  refine call_meets F.slot_list_append ⟨_, e, rfl⟩ F.entry_list_append (F.args_list_append_2 _ _) (PySem.list_append l its.toArray n u (by rw [List.size_toArray]; omega)) ⟨e, ?_⟩
  refine ⟨.non, _, I.lset (its' := its ++ [u]) hH e (by simp) (r.append (.cons ru .nil)) ?_, rfl, q⟩
  rw [List.length_append, List.length_singleton]
  omega

def rReverse : V → List V → Hp → VK → Prop := fun x vs H Q => ∃ l xs, x = .ref l ∧ vs = [] ∧ H l = some (.lst xs) ∧ Q .non (upd H l (.lst xs.reverse))
theorem mt_reverse : MtM X "list.reverse" rReverse := by
  intro pins s σ H x vs v us Q I rx rv h
  obtain ⟨l, xs, rfl, rfl, hH, q⟩ := h
  cases rx
  have hus := rv.zero
  subst hus
  obtain ⟨z, its, n, r, hl, e⟩ := I.lstM hH
  refine call_meets F.slot_list_reverse ⟨_, e, rfl⟩ F.entry_list_reverse (F.args_list_reverse_1 _) (AutoSeq1.list_reverse_list_0 l its.toArray n (by rw [List.size_toArray]; omega)) ⟨e, ?_⟩
  refine ⟨.non, _, I.lset (its' := its.reverse) hH e (by simp) r.reverse ?_, rfl, q⟩
  rw [List.length_reverse]
  omega

/-! ### list + list, list += list, list * int -/
def rCat : R2 := fun x y H Q => ∃ l b xs zs, x = .ref l ∧ y = .ref b ∧ H l = some (.lst xs) ∧ H b = some (.lst zs) ∧ xs.length + zs.length ≤ sizeLine ∧ ∀ p, H p = none → Q (.ref p) (upd H p (.lst (xs ++ zs)))
theorem op_cat : OpR X (binaryOp .Add) rCat := by
  intro pins s σ H x y v u Q I rx ry h
  obtain ⟨l, b, xs, zs, rfl, rfl, hH, hB, hz, q⟩ := h
  cases rx
  cases ry
  obtain ⟨z, its, n, r, hl, e⟩ := I.lstM hH
  obtain ⟨z2, its2, n2, r2, hl2, e2⟩ := I.lstM hB
  refine PySem.P.add_list e e2 ?_ (by rw [List.size_toArray, List.size_toArray]; omega)
  have ea : its.toArray ++ its2.toArray = (its ++ its2).toArray := by simp
  rw [ea]
  exact ⟨.ref _, _, I.lnew (t' := s.toks) (r.append r2) (by rw [List.length_append]; omega), rfl, q _ I.fresh⟩
/-! ### del xs[i] -/
end

/-! ### xs[a:b] = ys -/
section
variable {prog : Program} {w : World} {A : Around} {E : Value → Shared → Prop} {s : Shared}
end

section
variable {X : Cx}
end
end L2

namespace Att
open PySem PySem.W PySem.Calls PyProof.Rows

/-! ### the script -/
theorem ints_of_wellAll {P : Params} {h : Heap} : ∀ (ns : List Int) (vs : List Value), WellAll P h vs (ns.map WData.int) → IntsAre vs ns := by
  intro ns
  induction ns with
  | nil =>
    intro vs w
    rw [List.map_nil] at w
    cases w
    exact .nil
  | cons n ns ih =>
    intro vs w
    rw [List.map_cons] at w
    cases w with
    | cons a b =>
      cases a
      exact .cons _ _ (ih _ b)

theorem script_of {l : OpenLaw} {n : Nat} (hn : l.most = some n) {P : Params} {h : Heap} {args : List WData} {vals : List Value}
    (hpre : l.row.toRowW.claim.pre args = true) (hwl : WellAll P h vals args) :
    ∃ a vs ns, vals = [Value.ref a] ∧ args = [WData.list (ns.map WData.int)] ∧ h.get? a = some { cls := .type "list", data := .seq vs.toArray } ∧ IntsAre vs ns ∧ ns.length ≤ n := by
  have hsh : WShape.hasAll [] args [.list .int] = true := (pre_splitW hpre).1
  have hc : l.pre.holds [] { args := args } = true := (pre_splitW hpre).2
  obtain ⟨d, r, rfl, h1, h2⟩ := hasAllW_cons hsh
  obtain rfl := hasAllW_nil h2
  obtain ⟨xs, rfl, h3⟩ := hasW_list h1
  obtain ⟨ns, rfl⟩ := items_int h3
  have hlen : ns.length ≤ n := by
    unfold OpenLaw.pre at hc
    have h4 : (WTm.not (.lt (.lit (.int (n : Int))) (.len (.arg 0)))).holds [] { args := [.list (ns.map .int)] } = true := by
      have h4 := (holds_andW hc).1
      rw [hn] at h4
      exact h4
    have h5 := condW_of h4 (w_not (w_lt w_lit (w_len_list (w_arg rfl))))
    rw [List.length_map] at h5
    refine Nat.le_of_not_lt fun q => ?_
    have q' : (n : Int) < ((ns.length : Nat) : Int) := by omega
    first
      | (rw [decide_eq_true q'] at h5; exact absurd h5 (by decide))
      | (simp at h5; omega)
  cases hwl with
  | cons w1 w2 =>
    cases w2
    cases w1 with
    | list ho hall => exact ⟨_, _, ns, rfl, rfl, ho, ints_of_wellAll ns _ hall, hlen⟩

theorem post_true (l : OpenLaw) (args : List WData) : l.row.toRowW.claim.post args (.bool true) args = true :=
  postW_of (r := l.row.toRowW) (X := (true == true))
    (show WShape.has [] (.bool true) .bool = true by first | rfl | decide | simp [WShape.has, WShape.arms, WShape.armsAll])
    (show (WTm.eq .res (.lit (.bool true))).value [] { args := args, res := some (.bool true), after := args } = some (.bool (true == true)) from w_eq_bool (w_res rfl) w_lit) rfl

/-! ### the attachment: holds_open's last premise (the goal 'hc' behind k_head) from a wpAny of the law's body -/
theorem attach_call {l : OpenLaw} {n : Nat} {q : Program} {loose : List Str} {XP : (Str → Option Value) → Heap → Prop} {YP : World → Heap → Prop} {d : DefRec}
    (hn : l.most = some n) (hdf : d.params.defaults = [])
    (call : ∀ (w : World) (s₀ s₁ : Shared) (mg mb : Str → Option Value) (fa : Addr) (o : Obj) (pm cd doc : Value) (a : Addr) (vs : List Value) (ns : List Int),
      Ground q loose [] XP w s₀ mg mb s₁.heap → YP w s₁.heap →
      s₁.heap.get? fa = some o → o.data = .func (docDef d.name d.params d.body d.scope pm cd doc) → s₁.heap.CodeRec cd d.name → mg d.name = some (.ref fa) →
      s₁.heap.get? a = some { cls := .type "list", data := .seq vs.toArray } → IntsAre vs ns → ns.length ≤ n → s₁.gens = #[] →
      codeAny (model l.prog w) callerA (.call (.ref fa) ⟨[.ref a], []⟩) (fun r s' => r = .ok (.ret (.bool true)) ∧ OldK s₁.heap s'.heap ∧ s'.os = s₁.os ∧ AllBare s'.gens) s₁) :
    WalkO q loose XP YP l.row.toRowW d [] (fun f vs => PySem.call f vs) := by
  intro w s₀ s₁ mg mb G Y fa o pm cd doc dV kV ho hd hcd hD hmg hg args vals as hpre hlay hrd hwl hlo
  obtain rfl : dV = .none := Dflts.none hD hdf
  obtain rfl : kV = .none := Dflts.noKw hD
  obtain ⟨a, vs, ns, rfl, rfl, hobj, hints, hlen⟩ := script_of hn hpre hwl
  refine enter_call (codeAny_mono (call w s₀ s₁ mg mb fa o pm cd doc a vs ns G Y ho (fd_plain hd) hcd hmg hobj hints hlen hg) fun r s' hq => ?_)
  obtain ⟨rfl, h2, h3, h4⟩ := hq
  exact ⟨.inl ⟨.bool true, .bool true, [], rfl, fun _ => rfl, .bool true, post_true l _, fun _ => ⟨List.Pairwise.nil, fun _ hm => (nomatch hm)⟩⟩, h2, h3, h4⟩

/-! ### rules over ANY heap (no ledger) from facts about the written part K: the library's own take a ledger (News) for what they write -/
section
variable {prog : Program} {w : World} {A : Around} {E : Value → Shared → Prop} {s : Shared} {K : Frag}

/-! the whole heap as the ledger: makes every rule that writes through a ledger a rule over any heap -/
def ledger (h : Heap) (L d : Addr) : List (Addr × Obj) := (List.range h.objs.size).filterMap fun a => if a = L ∨ a = d then none else (h.get? a).map fun o => (a, o)
end
end Att

namespace L2
open PySem PySem.Spec PyProof.Rows

theorem vals_ints : ∀ {vs : List Value} {ns : List Int}, IntsAre vs ns → Vals (ns.map V.int) vs
  | _, _, .nil => .nil
  | _, _, .cons n t h => .cons ⟨t, rfl⟩ (vals_ints h)

def Only (H : Hp) : Prop := ∀ b, H b = none ∨ ∃ o xs, H b = some (.frz o (.lst xs))

theorem law_call {P : Program} {w : World} {K : PySem.W.Frag} {mg mb : Str → Option Value} {CX : CXT} {k : Nat} {fa a : Addr} {fd : FuncData} {x : Str} {sp : Sp} {s₁ : Shared} {vs : List Value} {ns : List Int}
    (KX : K.In s₁.heap) (hns : s₁.heap.Ns mainGlobals mg) (hb : s₁.heap.Ns builtinsNs mb) (hbb : ∀ x : Str, x ≠ "__name__" → mb x = bootBuiltins x) (hlim : s₁.heap.NoLimit) (hg : s₁.gens = #[])
    (ha : s₁.heap.get? a = some { cls := .type "list", data := .seq vs.toArray }) (hi : IntsAre vs ns) (hl : ns.length ≤ sizeLine) (hr : Room k callerA)
    (F : ∀ base : Heap, K.In base → base.Ns mainGlobals mg → FnOk P w K mg base CX k fa fd [x] sp) (hbind : ∀ (s : Shared) (u : Value), BindsTo s fd ⟨[u], []⟩ [(x, u)])
    (hsp : ∀ H : Hp, Only H → SqL K H a (ns.map V.int) → sp [.ref a] H (fun v _ => v = .bl true) fun _ _ _ => False)
    (hCX : ∀ H e s', CX [] H s₁ (fun _ _ _ => False) e s' → False) :
    codeAny (model P w) callerA (.call (.ref fa) ⟨[.ref a], []⟩) (fun r s' => r = .ok (.ret (.bool true)) ∧ OldK s₁.heap s'.heap ∧ s'.os = s₁.os ∧ AllBare s'.gens) s₁ := by
  have rv := vals_ints hi
  have lenV := hi.length
  -- from an abstract heap in which nothing but the script may be tracked
  have core : ∀ H : Hp, Only H → SqL K H a (ns.map V.int) → HOk P w H s₁.heap → (∀ b, H b ≠ none → b = a) → (H a ≠ none → K.lookup a = none) →
      codeAny (model P w) callerA (.call (.ref fa) ⟨[.ref a], []⟩) (fun r s' => r = .ok (.ret (.bool true)) ∧ OldK s₁.heap s'.heap ∧ s'.os = s₁.os ∧ AllBare s'.gens) s₁ := by
    intro H hO hS hok hA hK
    have base_of : ∀ {b : Addr} {o : Obj}, s₁.heap.get? b = some o → H b = none → (hidT s₁.heap H).get? b = some o := fun e n => hidT_get e n
    have noA : ∀ {b : Addr} {o : Obj} {es : Array DictEntry} {ep : Nat}, s₁.heap.get? b = some o → o.data = .dict es ep → H b = none := fun {b o es ep} e d => by
      cases q : H b with
      | none => rfl
      | some u =>
        have e' : b = a := hA b (by rw [q]; simp)
        subst e'
        rw [ha] at e; cases e
        have d' : Data.seq vs.toArray _ = Data.dict es ep := d
        cases d'
    have nsK : ∀ {b : Addr} {m : Str → Option Value}, s₁.heap.Ns b m → (hidT s₁.heap H).Ns b m := fun {b m} ⟨o, es, ep, e, d, r⟩ => ⟨o, es, ep, base_of e (noA e d), d, r⟩
    have hKb : K.In (hidT s₁.heap H) := fun b o e => base_of (KX b o e) (by
      cases q : H b with
      | none => rfl
      | some u =>
        have e' : b = a := hA b (by rw [q]; simp)
        subst e'
        rw [hK (by rw [q]; simp)] at e; cases e)
    have hM : Mod K mg (hidT s₁.heap H) := ⟨hKb, nsK hns, ⟨mb, nsK hb, hbb⟩, let ⟨mc, h1, h2⟩ := hlim; ⟨mc, nsK h1, h2⟩⟩
    have e0 : Env0 P w K mg (hidT s₁.heap H) callerA [] s₁ H := ⟨rfl, hM, fun b o e => of_hidT e, Nat.le_of_eq (hidT_size _ _), trivial, fun b hb => absurd (show b ∈ ([] : List Addr) from hb) (by simp), hok, .of_eq hg⟩
    refine codeAny_mono ((F _ hKb (nsK hns)).run callerA [] s₁ H ⟨[.ref a], []⟩ [.ref a] [.ref a] _ _ hr e0 (hbind s₁ (.ref a)) (.cons rfl .nil) (hsp H hO hS)) fun r s' h => ?_
    cases r with
    | error e => exact (hCX H e s' h).elim
    | ok fl =>
      cases fl with
      | next => exact False.elim h
      | brk => exact False.elim h
      | cont => exact False.elim h
      | ret u =>
        obtain ⟨v, H', os, bare, un, hok', r', q⟩ := h
        have q' : v = .bl true := q
        subst q'
        obtain rfl : u = Value.bool true := r'
        refine ⟨rfl, OldK.of_keep fun b o e => ?_, os, bare⟩
        cases q : H b with
        | none => exact un.keep b o e q (by intro z; exact absurd (show b ∈ ([] : List Addr) from z) (by simp)) (by simp)
        | some u =>
          rcases hO b with z | ⟨ob, xs, z⟩
          · rw [q] at z; cases z
          · have z2 := un.frzs b ob _ z
            obtain ⟨e1, _⟩ := hok b _ z
            obtain ⟨e2, _⟩ := hok' b _ z2
            rw [e] at e1; cases e1
            exact e2
  cases hk : K.lookup a with
  | some o =>
    -- the script is one of the module's own objects
    have e := KX a o hk
    rw [ha] at e
    cases e
    refine core (fun _ => none) (fun _ => .inl rfl) (.inr ⟨_, vs.toArray, _, hk, rfl, rfl, rfl, by rw [List.size_toArray, lenV]; exact hl, by simpa using rv⟩) (fun b u z => by have z' : (none : Option HO) = some u := z; cases z') (fun b z => absurd rfl z) fun z => absurd rfl z
  | none =>
    refine core (fun b => if b = a then some (.frz { cls := .type "list", data := .seq vs.toArray } (.lst (ns.map V.int))) else none) (fun b => ?_) (.inl (.inr ⟨{ cls := .type "list", data := .seq vs.toArray }, if_pos rfl⟩)) (fun b u z => ?_) (fun b z => ?_) fun _ => hk
    · by_cases hb : b = a
      · exact .inr ⟨_, _, if_pos hb⟩
      · exact .inl (if_neg hb)
    · by_cases hb : b = a
      · have z' := (if_pos hb).symm.trans z
        cases z'
        subst hb
        exact ⟨ha, by rw [List.length_map]; exact hl, vs, _, rv, ha⟩
      · have z' := (if_neg hb).symm.trans z
        cases z'
    · by_cases hb : b = a
      · exact hb
      · exact absurd (if_neg hb) z
end L2

namespace L2
open PySem PySem.Spec PyProof.Rows

abbrev KOf {K : PySem.W.Frag} {h : Heap} (_ : K.In h) : PySem.W.Frag := K

theorem walk_of {l : PySem.W.OpenLaw} {n k : Nat} {q : Program} {loose : List Str} {XP : (Str → Option Value) → Heap → Prop} {YP : World → Heap → Prop} {d : DefRec} {K : Params → PySem.W.Frag} {CX : World → CXT} {sp : World → Sp} {x : Str}
    (hn : l.most = some n) (hn2 : n ≤ sizeLine) (hdf : d.params.defaults = []) (hr : Room k callerA)
    (hY : ∀ (w : World) (h : Heap), YP w h → (K w.params).In h)
    (F : ∀ (w : World) (mg : Str → Option Value) (fa : Addr) (h : Heap), (K w.params).In h → h.Ns mainGlobals mg → mg d.name = some (.ref fa) →
      ∃ fd : FuncData, (∀ (s : Shared) (u : Value), BindsTo s fd ⟨[u], []⟩ [(x, u)]) ∧
        ∀ base : Heap, (K w.params).In base → base.Ns mainGlobals mg → FnOk l.prog w (K w.params) mg base (CX w) k fa fd [x] (sp w))
    (hsp : ∀ (w : World) (H : Hp) (a : Addr) (ns : List Int), ns.length ≤ n → Only H → SqL (K w.params) H a (ns.map V.int) → sp w [.ref a] H (fun v _ => v = .bl true) fun _ _ _ => False)
    (hCX : ∀ (w : World) (H : Hp) (s : Shared) (e : Value) (s' : Shared), CX w [] H s (fun _ _ _ => False) e s' → False) :
    PySem.W.WalkO q loose XP YP l.row.toRowW d [] (fun f vs => PySem.call f vs) := by
  refine Att.attach_call hn hdf fun w s₀ s₁ mg mb fa o pm cd doc a vs ns G Y ho hd hcd hmg hobj hints hlen hg => ?_
  have KX := hY w _ Y
  obtain ⟨fd, hb, hF⟩ := F w mg fa _ KX G.T.g hmg
  exact law_call KX G.T.g G.T.b G.T.builtins G.T.nolimit hg hobj hints (Nat.le_trans hlen hn2) hr hF hb (fun H hO hS => hsp w H a ns hlen hO hS) fun H e s' => hCX w H s₁ e s'
end L2

/- THE LAST THEOREM (shape; LID, My.* are yours):
   My.Adr: a structure of the addresses that your layer names (classes, functions); My.Txt K t: a structure (Prop) of the equations over K;
   My.txt_mk : {K} {implicit addresses ..} (e1 : nsIn K mainGlobals "law" = some (some (.ref f))) (e2 : K.lookup f = some ⟨oc, od, .func (fnOf "law" "law" params body scope dV kV doc pm an cdv ct), sl⟩) (e3 : codeIn K cdv "law" = true) .. : ∃ t, My.Txt K t

set_option maxRecDepth 100000 in
set_option maxHeartbeats 0 in
theorem PySem.Challenge.cw_LID_holds : PySem.Challenge.rw_LID.Holds := by
  w_on; o_law; k_head; (case hw => w_witness2)
  k_fill
  refine L2.walk_of (l := PySem.Challenge.rw_LID) (n := 63) (k := 40) (x := "script") (CX := fun w => ..) (sp := fun _ => My.sp_law) rfl (by decide) rfl ⟨rfl, by decide, by decide⟩ (fun w h Y => PySem.W.kIn_of Y) ?F ?S ?C
  case F =>
    intro w mg fa h KX G hmg
    have T : ∃ t, My.Txt (L2.KOf KX) t := by
      dsimp only [L2.KOf]                          -- K must stand as «<heap const> w.params» for k_is
      refine' My.txt_mk ?e1 ?e2 ?e3 ..
      (case e1 => PySem.W.k_is)                    -- in the order: a name -> its address -> its object -> its parts
      (case e2 => PySem.W.k_is)
      ..
    obtain ⟨t, T⟩ := T
    have e0 := hmg.symm.trans (PySem.W.mg_of KX G T.law)
    cases e0                                       -- fa is the law's own address
    exact ⟨_, fun s u => .of_eq rfl, fun base kb nb => My.law_fn T kb nb⟩     -- if «.of_eq rfl» comes too early: refine' ⟨_, ?b, fun base kb nb => My.law_fn T kb nb⟩; exact fun s u => .of_eq rfl
  case S => exact fun w H a ns hl hO hS => ..
  case C => exact ..
(the tactic k_is has no namespace: write k_is) -/

/-! SHORT WORDS over the layer: a def of the text, its body, what a loop and a test want. -/
namespace L2
open PySem PySem.Spec PyProof.Rows

/-! ### the text by places -/
def defArgs (s : Stmt) : Arguments := match s with
  | .FunctionDef _ a _ _ _ _ _ _ _ _ => a
  | _ => { posonlyargs := [], args := [], vararg := none, kwonlyargs := [], kw_defaults := [], kwarg := none, defaults := [] }
def defBody (s : Stmt) : List Stmt := match s with
  | .FunctionDef _ _ b _ _ _ _ _ _ _ => b
  | _ => []
def defScope (s : Stmt) : Scope := match s with
  | .FunctionDef _ _ _ _ _ _ sc _ _ _ => sc
  | _ => { kind := .function, names := [], isGenerator := false, isCoroutine := false }

/-! ### no exception leaves a def -/
abbrev CX0 : CXT := fun _ _ _ _ _ _ => False
abbrev E0 : XK := fun _ _ _ => False
theorem pass0 {X : Cx} : Passes CX0 X E0 := fun _ _ _ _ _ _ _ h => h.elim

/-! ### a def (or method) of the text as it stands behind the top -/
structure Fun (K : PySem.W.Frag) (x qual : Str) (st : Stmt) (f : Addr) (fd : FuncData) : Prop where
  ex : ∃ (oc : Value) (od : Option Addr) (kV doc pm : Value) (an : Option Addr) (cdv ct : Value) (osl : Array (Option Value)),
    fd = PySem.W.fnOf x qual (defArgs st) (defBody st) (defScope st) .none kV doc pm an cdv ct ∧ K.lookup f = some ⟨oc, od, .func fd, osl⟩ ∧ PySem.W.codeIn K cdv qual = true
  kp : PySem.W.keepIn K (.ref f) = true
section
variable {P : Program} {w : World} {K : PySem.W.Frag} {mg : Str → Option Value} {base : Heap}
theorem Fun.ok {x qual : Str} {st : Stmt} {f : Addr} {fd : FuncData} {N ps : List Str} {k : Nat} {sp : Sp} (F : Fun K x qual st f fd) (S : FnScope N ps (defScope st)) (len : ∀ vs H Q E, sp vs H Q E → vs.length = ps.length)
    (hbody : ∀ (cdv : Value) (A : Around) (outer : List Env) (s : Shared) (H : Hp) (vs : List V) (Q : VK) (E : XK), Room k (A.deeper (envOfC qual (defScope st) s.heap.objs.size f cdv)) → sp vs H Q E →
      ∃ t, PSs (cxOf CX0 P w K mg base N qual (defScope st) f cdv A outer s H E).nox (defBody st) t ∧ t { nx := fun _ H' => Q .non H', rt := Q } (start N vs) H) : FnOk P w K mg base CX0 (k + 1) f fd ps sp := by
  obtain ⟨oc, od, kV, doc, pm, an, cdv, ct, osl, rfl, lk, hcd⟩ := F.ex
  refine fn_of lk hcd S len fun A outer s H vs Q E hr hsp => ?_
  obtain ⟨t, h, q⟩ := hbody cdv A outer s H vs Q E hr hsp
  exact ⟨t, h.nox, q⟩
theorem Fun.binds {x qual : Str} {st : Stmt} {f : Addr} {fd : FuncData} {ps : List Str} (F : Fun K x qual st f fd)
    (h : ∀ (kV doc pm : Value) (an : Option Addr) (cdv ct : Value) (us : List Value), us.length = ps.length → bindArgs (PySem.W.fnOf x qual (defArgs st) (defBody st) (defScope st) .none kV doc pm an cdv ct) ⟨us, []⟩ = pure (ps.zip us)) : Binds K fd ps [] := by
  obtain ⟨oc, od, kV, doc, pm, an, cdv, ct, osl, rfl, lk, hcd⟩ := F.ex
  exact .all (h kV doc pm an cdv ct)
theorem fun_mk {x qual : Str} {st : Stmt} {f : Addr} {oc : Value} {od an : Option Addr} {osl : Array (Option Value)} {kV doc pm cdv ct : Value} (l : K.lookup f = some ⟨oc, od, .func (PySem.W.fnOf x qual (defArgs st) (defBody st) (defScope st) .none kV doc pm an cdv ct), osl⟩)
    (c : PySem.W.codeIn K cdv qual = true) (k : PySem.W.keepIn K (.ref f) = true) : Fun K x qual st f (PySem.W.fnOf x qual (defArgs st) (defBody st) (defScope st) .none kV doc pm an cdv ct) := ⟨⟨oc, od, kV, doc, pm, an, cdv, ct, osl, rfl, l, c⟩, k⟩
end
theorem hu_of {A : Around} {k : Nat} (hr : Room k A) : A.units + 1 < cLine := Nat.lt_of_le_of_lt (Nat.add_le_add_left (by decide : 1 ≤ 64) _) hr.units
/-! ### expressions in short: the name that stands in the i-th slot -/
section
variable {X : Cx}
theorem pv (i : Nat) {x : Str} {pos : Pos} (hN : X.N[i]? = some x := by rfl) (hv : Vis X.env.scope x := by first | exact Or.inl rfl | exact Or.inr (Or.inl rfl) | exact Or.inr (Or.inr rfl)) (hd : (x == ("__debug__" : Str)) = false := by decide)
    (hcd : (x == ("__classdict__" : Str)) = false := by decide) : PE X (.Name x pos) (tVar i) := pe_var hN hv hd hcd
end

/-! ### tests -/
theorem ite2 {c A B : Prop} [Decidable c] (h1 : c → A) (h2 : ¬ c → B) : if c then A else B := by
  by_cases h : c
  · rw [if_pos h]
    exact h1 h
  · rw [if_neg h]
    exact h2 h
/-! ### heaps -/
def Same (H H' : Hp) : Prop := ∀ b o, H b = some o → H' b = some o
theorem Same.refl (H : Hp) : Same H H := fun _ _ h => h
theorem Same.trans {H H1 H2 : Hp} (a : Same H H1) (b : Same H1 H2) : Same H H2 := fun c o h => b c o (a c o h)
theorem Same.free {H H' : Hp} (e : Same H H') {l : Addr} (h : H' l = Option.none) : H l = Option.none := by
  cases q : H l with
  | none => rfl
  | some o =>
    rw [e l o q] at h
    cases h
theorem Same.seq {K : PySem.W.Frag} {H H' : Hp} {a : Addr} {xs : List V} (e : Same H H') (h : SqL K H a xs) : SqL K H' a xs := by
  rcases h with (h | ⟨o, h⟩) | h
  · exact .inl (.inl (e _ _ h))
  · exact .inl (.inr ⟨o, e _ _ h⟩)
  · exact .inr h

end L2

set_option Elab.async false
set_option linter.all false
set_option maxRecDepth 100000
set_option maxHeartbeats 4000000
namespace L2
open PySem PySem.Spec PyProof.Rows

/-! ## comprehensions -/
def closL (cs : List (Str × Addr)) : List (Str × NameKind) → List (Str × Addr) → List (Str × Addr)
  | [], acc => acc
  | (n, k) :: r, acc => closL cs r (if (k == NameKind.free) = true then (n, (cs.lookup n).getD 0) :: acc else acc)

theorem clos_run {env : Env} (names : List (Str × NameKind)) : ∀ (acc : List (Str × Addr)), (∀ y ∈ names, y.2 = NameKind.free → ∃ c, env.cells.lookup y.1 = some c) →
    (forIn names acc fun (x : Str × NameKind) (cs : List (Str × Addr)) =>
      (if (x.2 == NameKind.free) = true then (cellOf env x.1 >>= fun a => (pure (ForInStep.yield ((x.1, a) :: cs)) : Sem (ForInStep (List (Str × Addr))))) else pure (ForInStep.yield cs))) = (pure (closL env.cells names acc) : Sem (List (Str × Addr))) := by
  induction names with
  | nil => intro acc _; rfl
  | cons y r ih =>
    intro acc h
    obtain ⟨n, k⟩ := y
    rw [List.forIn_cons]
    by_cases hk : (k == NameKind.free) = true
    · obtain ⟨c, hc⟩ := h (n, k) List.mem_cons_self (by simpa using hk)
      have e1 : cellOf env n = pure c := by
        unfold cellOf
        rw [show env.cells.lookup n = some c from hc]
      simp only [hk, if_true, e1, pure_bind]
      rw [ih _ fun z hz => h z (List.mem_cons_of_mem _ hz)]
      show _ = pure (closL env.cells r (if (k == NameKind.free) = true then (n, (env.cells.lookup n).getD 0) :: acc else acc))
      rw [if_pos hk, show env.cells.lookup n = some c from hc]
      all_goals rfl
    · simp only [hk, pure_bind]
      simp only [Bool.false_eq_true, if_false, pure_bind]
      rw [ih _ fun z hz => h z (List.mem_cons_of_mem _ hz)]
      show _ = pure (closL env.cells r (if (k == NameKind.free) = true then (n, (env.cells.lookup n).getD 0) :: acc else acc))
      rw [if_neg hk]

theorem clos_eq {env : Env} {scope : Scope} (h : ∀ y ∈ scope.names, y.2 = NameKind.free → ∃ c, env.cells.lookup y.1 = some c) : closureFor scope env = pure (closL env.cells scope.names []) := by
  have e := clos_run (env := env) scope.names [] h
  unfold closureFor
  refine Eq.trans ?_ (Eq.trans (congrArg (fun m => m >>= fun cs => (pure cs : Sem (List (Str × Addr)))) e) ?_)
  · rfl
  · simp

theorem closL_lookup {cs : List (Str × Addr)} {x : Str} : ∀ (names : List (Str × NameKind)) (acc : List (Str × Addr)), (closL cs names acc).lookup x = (if (names.any fun y => y.2 == NameKind.free && x == y.1) = true then some ((cs.lookup x).getD 0) else acc.lookup x)
  | [], acc => by simp [closL]
  | (n, k) :: r, acc => by
    unfold closL
    rw [closL_lookup r]
    by_cases hr : (r.any fun y => y.2 == NameKind.free && x == y.1) = true
    · rw [if_pos hr, if_pos (by rw [List.any_cons, hr, Bool.or_true])]
    · rw [if_neg hr]
      by_cases hk : (k == NameKind.free) = true
      · rw [if_pos hk]
        by_cases hx : (x == n) = true
        · rw [if_pos (by rw [List.any_cons]; simp only [hk, hx, Bool.and_self, Bool.true_or])]
          have e : x = n := by simpa using hx
          subst e
          simp [List.lookup_cons]
        · rw [if_neg (by rw [List.any_cons]; simp only [hk, hx, Bool.and_false, Bool.false_or]; exact hr)]
          have hx' : (x == n) = false := by simpa using hx
          simp [List.lookup_cons, hx']
      · rw [if_neg hk, if_neg (by rw [List.any_cons]; simp only [hk, Bool.false_and, Bool.false_or]; exact hr)]
end L2

set_option Elab.async false
set_option linter.all false
set_option maxRecDepth 100000
set_option maxHeartbeats 4000000
namespace L2
open PySem PySem.Spec PyProof.Rows

abbrev cxBlk (X : Cx) (N' : List Str) (scope : Scope) (C : Addr) (s : Shared) (H : Hp) (ex : List Addr) : Cx where
  prog := X.prog
  w := X.w
  K := X.K
  mg := X.mg
  base := X.base
  A := X.A
  N := N'
  s₀ := s
  H₀ := H
  env := compEnvC scope (closL X.env.cells scope.names []) C X.env
  outer := X.stack
  stack := X.stack
  ex := ex
  fn := fun _ => false
  calm := X.calm
  pn := []
  xe := fun _ _ => False

abbrev testsOf (ifs : List Expr) (env : Env) : Sem Bool :=
  forIn ifs true fun (c : Expr) (r : Bool) => if r = true then (isTrue c env (eval c env) >>= fun ok => (pure (ForInStep.yield ok) : Sem (ForInStep Bool))) else pure (ForInStep.yield r)

theorem blk_loop {prog : Program} {w : World} {A : Around} {R : Result → Shared → Prop} {s : Shared} {elt tg iter : Expr} {ifs : List Expr} {scope : Scope} {pos : Pos} {it acc : Value} {env : Env} (J : Nat → Shared → Prop)
    (turn : ∀ n s, J n s → wpAny (model prog w) A (pyNext it) (fun r s1 => match r with
      | none => R (.ok .next) s1
      | some v => wpAny (model prog w) A (letOwnedTupleGo tg it v) (fun _ s2 => wpAny (model prog w) A (assign tg env v) (fun _ s3 =>
          wpAny (model prog w) A (testsOf ifs env) (fun ok s4 =>
            if ok = true then wpAny (model prog w) A (eval elt env) (fun x s5 =>
              wpAny (model prog w) A (call (.builtin "list.append") [acc, x]) (fun _ s6 => ∃ m, m < n ∧ J m s6) (fun _ _ => False) s5) (fun _ _ => False) s4
            else ∃ m, m < n ∧ J m s4) (fun _ _ => False) s3) (fun _ _ => False) s2) (fun _ _ => False) s1) (fun _ _ => False) s)
    (n : Nat) (h : J n s) : codeAny (model prog w) A (.compLoop (.ListComp elt [⟨tg, iter, ifs, 0⟩] scope pos) 0 it acc env) R s := by
  have no : ∀ {α : Type} {t : Sem α} {Q : α → Shared → Prop} {E : Value → Shared → Prop} {s : Shared}, wpAny (model prog w) A t Q (fun _ _ => False) s → wpAny (model prog w) A t Q E s := fun x => wpAny_mono x (fun _ _ q => q) fun _ _ q => q.elim
  refine codeAny_loop rfl J (fun k u hJ => ?_) n h
  show wpAny _ A ((compTurn (.ListComp elt [⟨tg, iter, ifs, 0⟩] scope pos) 0 it acc env).onRaise (fun x => do noteFrame x env; theTreesLotGoes x)) _ _ u
  refine wpAny_noted ?_
  rw [compTurn_list]
  refine wpAny_bind (wpAny_standAt (wpAny_bind (no (wpAny_mono (turn k u hJ) (fun r s1 h1 => ?_) fun _ _ q => q))))
  cases r with
  | none => exact wpAny_pure h1
  | some v =>
    refine wpAny_bind (no (wpAny_mono h1 (fun _ s2 h2 => wpAny_bind (no (wpAny_mono h2 (fun _ s3 h3 => wpAny_bind (no (wpAny_mono h3 (fun ok s4 h4 => ?_) fun _ _ q => q))) fun _ _ q => q))) fun _ _ q => q))
    cases ok with
    | false => exact wpAny_pure ⟨rfl, h4⟩
    | true =>
      have h4' : wpAny (model prog w) A (eval elt env) (fun x s5 => wpAny (model prog w) A (call (.builtin "list.append") [acc, x]) (fun _ s6 => ∃ m, m < k ∧ J m s6) (fun _ _ => False) s5) (fun _ _ => False) s4 := h4
      refine wpAny_bind (wpAny_bind (no (wpAny_mono h4' (fun x s5 h5 => wpAny_bind (no (wpAny_mono h5 (fun _ s6 h6 => wpAny_pure (wpAny_pure ⟨rfl, h6⟩)) fun _ _ q => q))) fun _ _ q => q)))

def PF (X : Cx) (ifs : List Expr) (t : TT) : Prop :=
  ∀ (pins : List (Addr × Obj)) (s : Shared) (σ : St) (H : Hp) (Q : Bool → Hp → Prop), Inv X pins σ H s → t σ H Q → wpAny (model X.prog X.w) X.A (testsOf ifs X.env) (TP X pins σ Q) X.xe s
def fNone : TT := fun _ H Q => Q true H
theorem pf_nil {X : Cx} : PF X [] fNone := fun pins s σ H Q I h => wpAny_pure ⟨H, I, h⟩
theorem pf_one {X : Cx} {c : Expr} {t : TT} (hc : PT X c t) : PF X [c] t := by
  intro pins s σ H Q I h
  unfold testsOf
  simp only [List.forIn_cons, List.forIn_nil, if_true]
  refine wpAny_bind (wpAny_bind (thn (hc pins s σ H Q I h) fun ok s1 q => wpAny_pure (wpAny_pure q)))

theorem hok_but {P : Program} {w : World} {H : Hp} {h h' : Heap} {C : Addr} (x : HOk P w H h) (hn : H C = none) (k : ∀ b o, b ≠ C → h.get? b = some o → h'.get? b = some o) : HOk P w H h' := fun b u e => by
  refine (x b u e).stay (fun c v hc q => k c v ?_ q) (fun _ q => q) fun _ _ q => q
  rcases hc with z | z
  · rw [z]; exact ne_of_none e hn
  · exact ne_of_none z hn
theorem hok_track {P : Program} {w : World} {H : Hp} {h : Heap} {a : Addr} {o : HO} (x : HOk P w H h) (hn : H a = none) (new : ObjOk P w (upd H a o) h a o) : HOk P w (upd H a o) h := fun b u e => by
  by_cases hb : b = a
  · subst hb; rw [upd_same] at e; cases e; exact new
  · rw [upd_ne hb] at e
    exact (x b u e).stay (fun c v _ q => q) (fun c q => by rw [upd_ne (ne_of_none q hn)]; exact q) fun c xs q => by rw [upd_ne (ne_of_none q hn)]; exact q
theorem un_track {fs ex : List Addr} {H H' : Hp} {h h' : Heap} {a : Addr} {o : HO} (u : Un fs ex H H' h h') (ha : a ∈ ex) (hn : H a = none) : Un fs ex H (upd H' a o) h h' where
  keep := u.keep
  slot := u.slot
  free := fun b ob q n hx => by
    have hb : b ≠ a := fun z => hx (by rw [z]; exact ha)
    rw [upd_ne hb]; exact u.free b ob q n hx
  there := u.there
  tups := fun b xs q => by rw [upd_ne (ne_of_none q hn)]; exact u.tups b xs q
  frzs := fun b ob v q => by rw [upd_ne (ne_of_none q hn)]; exact u.frzs b ob v q
  tbls := fun b ps q => by rw [upd_ne (ne_of_none q hn)]; exact u.tbls b ps q
theorem un_but {fs ex : List Addr} {H H' : Hp} {h h1 h2 : Heap} {C : Addr} (u : Un fs ex H H' h h1) (hC : h.objs.size ≤ C) (k : ∀ b o, b ≠ C → h1.get? b = some o → h2.get? b = some o) : Un fs ex H H' h h2 where
  keep := fun b o q n hb hx => k b o (Nat.ne_of_lt (Nat.lt_of_lt_of_le (Heap.lt_size q) hC)) (u.keep b o q n hb hx)
  slot := fun b o q n hb hx => let ⟨sl, e⟩ := u.slot b o q n hb hx; ⟨sl, k b _ (Nat.ne_of_lt (Nat.lt_of_lt_of_le (Heap.lt_size q) hC)) e⟩
  free := u.free
  there := fun b o q hx => let ⟨o', e⟩ := u.there b o q hx; ⟨o', k b _ (Nat.ne_of_lt (Nat.lt_of_lt_of_le (Heap.lt_size q) hC)) e⟩
  tups := u.tups
  frzs := u.frzs
  tbls := u.tbls

def blkOk (sn on : List (Str × NameKind)) (N fr : List Str) (js : List Nat) : Bool :=
  sn.all (fun y => y.2 != .cell && (y.2 != .local || sn.lookup y.1 == some .local) && (y.2 != .free || (on.lookup y.1 == some .cell || on.lookup y.1 == some .free))) && fr.length == js.length
    && (fr.zip js).all fun p => sn.lookup p.1 == some .free && N[p.2]? == some p.1
structure BlkOk (sn on : List (Str × NameKind)) (N fr : List Str) (js : List Nat) : Prop where
  cell : ∀ y ∈ sn, y.2 ≠ NameKind.cell
  loc : ∀ y ∈ sn, y.2 = NameKind.local → sn.lookup y.1 = some .local
  free : ∀ y ∈ sn, y.2 = NameKind.free → on.lookup y.1 = some .cell ∨ on.lookup y.1 = some .free
  len : fr.length = js.length
  fr : ∀ (k : Nat) (x : Str), fr[k]? = some x → sn.lookup x = some .free ∧ ∃ j : Nat, js[k]? = some j ∧ N[j]? = some x
theorem blkOk_of {sn on : List (Str × NameKind)} {N fr : List Str} {js : List Nat} (h : blkOk sn on N fr js = true) : BlkOk sn on N fr js := by
  unfold blkOk at h
  rw [Bool.and_eq_true, Bool.and_eq_true, List.all_eq_true, List.all_eq_true] at h
  obtain ⟨⟨h1, h2⟩, h3⟩ := h
  have h2' : fr.length = js.length := by simpa using h2
  refine ⟨fun y hy => ?_, fun y hy e => ?_, fun y hy e => ?_, h2', fun k x e => ?_⟩
  · have := h1 y hy
    simp only [Bool.and_eq_true, bne_iff_ne] at this
    exact this.1.1
  · have := h1 y hy
    simp only [Bool.and_eq_true, Bool.or_eq_true, bne_iff_ne, beq_iff_eq] at this
    exact this.1.2.resolve_left fun z => z e
  · have := h1 y hy
    simp only [Bool.and_eq_true, Bool.or_eq_true, bne_iff_ne, beq_iff_eq] at this
    exact this.2.resolve_left fun z => z e
  · have hk : k < fr.length := (List.getElem?_eq_some_iff.mp e).1
    have hj : k < js.length := by omega
    have hm : (x, js[k]) ∈ fr.zip js := by
      refine List.mem_of_getElem? (i := k) ?_
      rw [List.getElem?_zip_eq_some]
      exact ⟨e, by simp [hj]⟩
    have := h3 _ hm
    simp only [Bool.and_eq_true, beq_iff_eq] at this
    exact ⟨this.1, js[k], by simp [hj], this.2⟩

def upS (n : Nat) (js : List Nat) (σ : St) : St := List.replicate n none ++ js.map fun j => (σ[j]?).join
def tLC (wi : TI) (n : Nat) (js : List Nat) (g : TG) (tf : TT) (te : TE) : TE := fun σ H Q => wi σ H fun J H1 =>
  ∃ W : Nat → Nat → List V → Hp → Prop, (∃ m, W 0 m [] H1) ∧ ∀ i m ys H2, W i m ys H2 →
    (J.stop i H2 ∧ ys.length ≤ sizeLine ∧ ∀ D, H2 D = none → Q (.ref D) (upd H2 D (.lst ys))) ∨
    (J.go i H2 ∧ ∃ N : List V → Hp → Prop, (∀ zs H', N zs H' → ∃ m', m' < m ∧ W (i + 1) m' zs H') ∧ ∀ x H3, J.yld i H2 x H3 → g x (upS n js σ) H3 fun σ4 H4 => σ4.drop n = (upS n js σ).drop n ∧ tf σ4 H4 fun b H5 =>
      if b = true then te σ4 H5 fun y H6 => ys.length < sizeLine ∧ N (ys ++ [y]) H6 else N ys H5)
end L2

set_option Elab.async false
set_option linter.all false
set_option maxRecDepth 100000
set_option maxHeartbeats 4000000
namespace L2
open PySem PySem.Spec PyProof.Rows

theorem relab_of {env : Env} {x : Str} {k' : NameKind} : ∀ {names : List (Str × NameKind)}, (names.map fun (n, k) => if (k == NameKind.free && env.scope.kind == .function && env.kindOf n == some .cell) then (n, NameKind.cell) else (n, k)).lookup x = some k' →
    ∃ k, names.lookup x = some k ∧ (k' = k ∨ (k = .free ∧ k' = .cell))
  | [], h => by simp at h
  | (n, k) :: r, h => by
    by_cases hx : (x == n) = true
    · refine ⟨k, by simp [List.lookup_cons, hx], ?_⟩
      have h : List.lookup x ((if (k == NameKind.free && env.scope.kind == .function && env.kindOf n == some .cell) = true then (n, NameKind.cell) else (n, k)) :: _) = some k' := h
      by_cases hc : (k == NameKind.free && env.scope.kind == .function && env.kindOf n == some .cell) = true
      · rw [if_pos hc, List.lookup_cons, hx] at h
        simp only [Bool.and_eq_true, beq_iff_eq] at hc
        exact .inr ⟨hc.1.1, (Option.some.inj h).symm⟩
      · rw [if_neg hc, List.lookup_cons, hx] at h
        exact .inl (Option.some.inj h).symm
    · have hx' : (x == n) = false := by simpa using hx
      have h : List.lookup x ((if (k == NameKind.free && env.scope.kind == .function && env.kindOf n == some .cell) = true then (n, NameKind.cell) else (n, k)) :: _) = some k' := h
      have h2 : (r.map fun (n, k) => if (k == NameKind.free && env.scope.kind == .function && env.kindOf n == some .cell) then (n, NameKind.cell) else (n, k)).lookup x = some k' := by
        by_cases hc : (k == NameKind.free && env.scope.kind == .function && env.kindOf n == some .cell) = true
        · rw [if_pos hc, List.lookup_cons, hx'] at h; exact h
        · rw [if_neg hc, List.lookup_cons, hx'] at h; exact h
      obtain ⟨k0, e, z⟩ := relab_of h2
      exact ⟨k0, by rw [List.lookup_cons, hx']; exact e, z⟩
theorem relab_free {env : Env} {x : Str} : ∀ {names : List (Str × NameKind)}, names.lookup x = some .free → ∃ k', (names.map fun (n, k) => if (k == NameKind.free && env.scope.kind == .function && env.kindOf n == some .cell) then (n, NameKind.cell) else (n, k)).lookup x = some k' ∧ (k' = .cell ∨ k' = .free)
  | [], h => by simp at h
  | (n, k) :: r, h => by
    by_cases hx : (x == n) = true
    · rw [List.lookup_cons, hx] at h
      cases (Option.some.inj h)
      show ∃ k', List.lookup x ((if (NameKind.free == NameKind.free && env.scope.kind == .function && env.kindOf n == some .cell) = true then (n, NameKind.cell) else (n, NameKind.free)) :: _) = some k' ∧ _
      by_cases hc : (NameKind.free == NameKind.free && env.scope.kind == .function && env.kindOf n == some .cell) = true
      · rw [if_pos hc]; exact ⟨.cell, by simp [List.lookup_cons, hx], .inl rfl⟩
      · rw [if_neg hc]; exact ⟨.free, by simp [List.lookup_cons, hx], .inr rfl⟩
    · have hx' : (x == n) = false := by simpa using hx
      rw [List.lookup_cons, hx'] at h
      obtain ⟨k', e, z⟩ := relab_free (env := env) (names := r) h
      refine ⟨k', ?_, z⟩
      show List.lookup x ((if (k == NameKind.free && env.scope.kind == .function && env.kindOf n == some .cell) = true then (n, NameKind.cell) else (n, k)) :: _) = some k'
      by_cases hc : (k == NameKind.free && env.scope.kind == .function && env.kindOf n == some .cell) = true
      · rw [if_pos hc, List.lookup_cons, hx']; exact e
      · rw [if_neg hc, List.lookup_cons, hx']; exact e

theorem closL_some {cs : List (Str × Addr)} {names : List (Str × NameKind)} {x : Str} {c : Addr} (h : (closL cs names []).lookup x = some c) (hf : ∀ y ∈ names, y.2 = NameKind.free → ∃ c, cs.lookup y.1 = some c) : cs.lookup x = some c := by
  rw [closL_lookup] at h
  by_cases hr : (names.any fun y => y.2 == NameKind.free && x == y.1) = true
  · rw [if_pos hr] at h
    obtain ⟨y, hy, e⟩ := List.any_eq_true.mp hr
    simp only [Bool.and_eq_true, beq_iff_eq] at e
    obtain ⟨c', e'⟩ := hf y hy e.1
    rw [← e.2] at e'
    rw [e'] at h ⊢
    exact h
  · rw [if_neg hr] at h
    cases h
theorem closL_has {cs : List (Str × Addr)} {names : List (Str × NameKind)} {x : Str} (h : names.lookup x = some .free) : (closL cs names []).lookup x = some ((cs.lookup x).getD 0) := by
  rw [closL_lookup, if_pos]
  exact List.any_eq_true.mpr ⟨(x, .free), PySem.mem_of_lookup h, by simp⟩

theorem upS_drop {n : Nat} {js : List Nat} {σ : St} {i : Nat} {v : V} (h : (upS n js σ)[i]? = some (some v)) : n ≤ i ∧ ((upS n js σ).drop n)[i - n]? = some (some v) ∧ ∃ j : Nat, js[i - n]? = some j ∧ σ[j]? = some (some v) := by
  unfold upS at h ⊢
  by_cases hi : i < n
  · rw [List.getElem?_append_left (by simpa using hi), List.getElem?_replicate] at h
    split at h <;> cases h
  · have e : (List.replicate n (none : Option V) ++ js.map fun j => (σ[j]?).join).drop n = js.map fun j => (σ[j]?).join := by
      rw [List.drop_append_of_le_length (by simp)]; simp
    rw [List.getElem?_append_right (by simpa using hi), List.length_replicate] at h
    refine ⟨by omega, by rw [e]; exact h, ?_⟩
    rw [List.getElem?_map] at h
    cases ej : js[i - n]? with
    | none => rw [ej] at h; cases h
    | some j =>
      rw [ej] at h
      have h : (σ[j]?).join = some v := Option.some.inj h
      refine ⟨j, rfl, ?_⟩
      cases eo : σ[j]? with
      | none => rw [eo] at h; cases h
      | some o => rw [eo] at h; exact congrArg some h
theorem upS_len {n : Nat} {js : List Nat} {σ : St} : (upS n js σ).length = n + js.length := by unfold upS; simp

section
variable {X : Cx} {elt tg iter : Expr} {ifs : List Expr} {scope : Scope} {pos : Pos} {wi : TI} {g : TG} {tf : TT} {te : TE}

theorem blk_start {pins : List (Addr × Obj)} {σ : St} {H : Hp} {s : Shared} {fp : List Addr} (own fr : List Str) (js : List Nat) (I : Inv X pins σ H s) (B : BlkOk scope.names X.env.scope.names X.N fr js) (hk : scope.kind = .function)
    (f2 : ∀ b ∈ fp, FpOk X pins H b) (fl : ∀ b ∈ fp, b < s.heap.objs.size) {D C : Addr} (hD : D = s.heap.objs.size) {h3 h1 : Heap} (e3 : h3 = s.heap.push { cls := .type "list", dict := none, data := .seq ([] : List Value).toArray }) (hC : C = h3.objs.size)
    {m : Str → Option Value} (hns : h1.Ns C m) (k4 : ∀ b o, h3.get? b = some o → h1.get? b = some o) {t4 : Nat} :
    Inv (cxBlk X (own ++ fr) scope C { s with heap := h3 } H (D :: fp)) [] (upS own.length js σ) H { s with heap := h1, toks := t4 } := by
  have k3 : ∀ b o, s.heap.get? b = some o → h3.get? b = some o := fun b o e => by rw [e3]; exact Heap.get?_push_of_some _ e
  have I3 : Inv X pins σ H { s with heap := h3 } := I.kept (t' := s.toks) k3
  have hz : h3.objs.size = s.heap.objs.size + 1 := by rw [e3, Heap.size_push]
  have hasF : ∀ y ∈ scope.names, y.2 = NameKind.free → ∃ c, X.env.cells.lookup y.1 = some c := fun y hy e => I.ok.has y.1 (B.free y hy e)
  have cellLt : ∀ x c, X.env.cells.lookup x = some c → c < s.heap.objs.size := fun x c e => by
    obtain ⟨v, q⟩ := I.cell x c e
    exact q.lt
  refine ⟨⟨I.ok.mod, hk, I.ok.glob, I.ok.blt, Nat.le_of_eq hC.symm, fun x y c e1 e2 => ?_, fun x hx => ?_, fun x c hf => (nomatch hf), fun hc => I.ok.hd hc, I.ok.frames, .inl rfl, fun b hb => ?_, I3.bs, Nat.le_trans I.ok.bsz I3.sz, fun b o e hb => ?_, fun b hb hf => ?_, I3.stack, I3.stkFree⟩,
    rfl, I.bare, Un.kept k4, ⟨m, hns, fun i x v e1 e2 e3' => ?_⟩, fun x c e => ?_, ?_, fun x c e => ?_, fun p hp => absurd (show p ∈ ([] : List (Addr × Obj)) from hp) (by simp), I3.hok.kept k4, ?_⟩
  · exact I.ok.inj x y c (closL_some e1 hasF) (closL_some e2 hasF)
  · obtain ⟨k, e, z⟩ : ∃ k, scope.names.lookup x = some k ∧ (k = .free) := by
      rcases hx with hx | hx
      · obtain ⟨k, e, z⟩ := relab_of hx
        rcases z with z | z
        · subst z; exact absurd rfl (B.cell _ (PySem.mem_of_lookup e))
        · exact ⟨k, e, z.1⟩
      · obtain ⟨k, e, z⟩ := relab_of hx
        rcases z with z | z
        · subst z; exact ⟨_, e, rfl⟩
        · exact ⟨k, e, z.1⟩
    subst z
    exact ⟨_, closL_has e⟩
  · rcases List.mem_cons.mp hb with z | hb
    · subst z
      refine ⟨by rw [hD, hC, hz]; exact Nat.ne_of_lt (Nat.lt_succ_self _), fun x c e => ?_⟩
      have := cellLt x c (closL_some e hasF)
      rw [hD]; exact Nat.ne_of_lt this
    · refine ⟨by rw [hC, hz]; exact Nat.ne_of_lt (Nat.lt_succ_of_lt (fl b hb)), fun x c e => ?_⟩
      exact (f2 b hb).2.2.2.2.1 x c (closL_some e hasF)
  · rcases List.mem_cons.mp hb with z | hb
    · have := Heap.lt_size (I.bk b o e)
      rw [z, hD] at this
      exact Nat.lt_irrefl _ this
    · rcases (f2 b hb).2.2.2.1 with z | z
      · exact I.ok.noex b o e z
      · exact absurd (Nat.lt_of_lt_of_le (Heap.lt_size (I.ok.bs b o e).1) z) (Nat.lt_irrefl _)
  · have hf' := List.mem_cons.mp (I.stkSub b hf)
    rcases List.mem_cons.mp hb with z | hb
    · rcases hf' with y | y
      · have := I.lt
        rw [← y, z, hD] at this
        exact Nat.lt_irrefl _ this
      · exact I.nofs (a := b) (by rw [z, hD]; exact Nat.le_refl _) y
    · rcases hf' with y | y
      · exact (f2 b hb).2.1 y
      · exact (f2 b hb).2.2.1 y
  · obtain ⟨hn, _, j, ej, es⟩ := upS_drop e2
    have ex : fr[i - own.length]? = some x := by rw [List.getElem?_append_right hn] at e1; exact e1
    obtain ⟨hfx, j', ej', eN⟩ := B.fr _ x ex
    have : j' = j := by rw [ej] at ej'; exact (Option.some.inj ej').symm
    subst this
    have hkx := B.free _ (PySem.mem_of_lookup hfx) rfl
    obtain ⟨m0, _, hl⟩ := I.loc
    obtain ⟨u, r, l⟩ := hl j' x v eN es (by rcases hkx with z | z; exact .inr (.inl z); exact .inr (.inr z))
    refine ⟨u, r, .inr ?_⟩
    rcases l with ⟨kl, _⟩ | ⟨_, c, ec, o, eo, ed⟩
    · have kl' : X.env.scope.names.lookup x = some .local := kl
      rcases hkx with z | z
      · exact absurd (z.symm.trans kl') (by decide)
      · exact absurd (z.symm.trans kl') (by decide)
    · obtain ⟨k', e', z⟩ := relab_free (env := X.env) hfx
      have eq : (closL X.env.cells scope.names []).lookup x = some c := by rw [closL_has hfx, ec]; rfl
      refine ⟨?_, c, eq, o, k4 c o (k3 c o eo), ed⟩
      rcases z with z | z
      · subst z; exact .inl e'
      · subst z; exact .inr e'
  · obtain ⟨v, o, eo, ed⟩ := I.cell x c (closL_some e hasF)
    exact ⟨v, o, k4 c o (k3 c o eo), ed⟩
  · exact I3.hok.fresh (Nat.le_of_eq hC.symm)
  · exact I.freeC x c (closL_some e hasF)
  · rw [upS_len, ← B.len]
    show _ = (own ++ fr).length
    rw [List.length_append]

theorem pe_lc (own fr : List Str) (js : List Nat) (hc : X.calm = true) (hk : scope.kind = .function) (hb : blkOk scope.names X.env.scope.names X.N fr js = true) (hi : PI X tg iter wi)
    (hg : ∀ C s H ex, PG (cxBlk X (own ++ fr) scope C s H ex) tg g) (hf : ∀ C s H ex, PF (cxBlk X (own ++ fr) scope C s H ex) ifs tf) (he : ∀ C s H ex, PE (cxBlk X (own ++ fr) scope C s H ex) elt te)
    (hs : ∀ x, foldedSetIterable iter X.env x = pure x := by intro _; rfl) : PE X (.ListComp elt [⟨tg, iter, ifs, 0⟩] scope pos) (tLC wi own.length js g tf te) := by
  intro pins s σ H Q I h
  have B := blkOk_of hb
  have hasF : ∀ y ∈ scope.names, y.2 = NameKind.free → ∃ c, X.env.cells.lookup y.1 = some c := fun y hy e => I.ok.has y.1 (B.free y hy e)
  rw [eval_ListComp]
  refine wpAny_comprehension_free (use := none) rfl hs (clos_eq hasF) hk (fun y hy e => B.loc y hy e) (thn (hi pins s σ H _ I h) fun v s1 h1 => thn h1 fun itv s2 h2 => ?_)
  obtain ⟨it, fp, tn, J, H2, e, I2, T, st2, f2, W, ⟨m0, w0⟩, turn⟩ := h2
  subst e
  have fl : ∀ b ∈ fp, b < s2.heap.objs.size := fun b hb => let ⟨o, e, _⟩ := T.obj _ _ st2 b hb; Heap.lt_size e
  refine wpAny_newObj_type (wpAny_newFunctionEnv B.cell (by intro y hy; simp at hy) (fun h1 hns hsb => ?_) hk)
  dsimp only at hns hsb ⊢
  generalize e3 : s2.heap.push { cls := .type "list", dict := none, data := .seq ([] : List Value).toArray } = h3 at hns hsb ⊢
  have k3 : ∀ b o, s2.heap.get? b = some o → h3.get? b = some o := fun b o e => by rw [← e3]; exact Heap.get?_push_of_some _ e
  have k4 : ∀ b o, h3.get? b = some o → h1.get? b = some o := fun b o e => hsb.extBut b o (Nat.ne_of_lt (Heap.lt_size e)) (Heap.get?_push_of_some _ e)
  have I4 : Inv (cxBlk X (own ++ fr) scope h3.objs.size { s2 with heap := h3 } H2 (s2.heap.objs.size :: fp)) [] (upS own.length js σ) H2 { s2 with heap := h1, toks := s2.toks + ([] : List (Str × Value)).length } :=
    blk_start own fr js I2 B hk f2 fl rfl e3.symm rfl hns k4
  have I3 : Inv X pins σ H2 { s2 with heap := h3 } := I2.kept (t' := s2.toks) k3
  have hz : h3.objs.size = s2.heap.objs.size + 1 := by rw [← e3, Heap.size_push]
  have hDl : s2.heap.objs.size ≠ h3.objs.size := by rw [hz]; exact Nat.ne_of_lt (Nat.lt_succ_self _)
  have hacc : h1.get? s2.heap.objs.size = some { cls := .type "list", data := .seq ([] : List Value).toArray } := k4 _ _ (by rw [← e3]; exact Heap.get?_push_size _ rfl)
  generalize eD : s2.heap.objs.size = D at *
  generalize eC : h3.objs.size = C at *
  have fD : ∀ b ∈ fp, D ≠ b := fun b hb => Nat.ne_of_gt (fl b hb)
  have hx : ∀ x c, (closL X.env.cells scope.names []).lookup x = some c → c ≠ D := fun x c e => by
    obtain ⟨v, q⟩ := I2.cell x c (closL_some e hasF)
    rw [← eD]; exact Nat.ne_of_lt q.lt
  have hx2 : ∀ b ∈ fp, ∀ x c, (closL X.env.cells scope.names []).lookup x = some c → c ≠ b := fun b hb x c e => (f2 b hb).2.2.2.2.1 x c (closL_some e hasF)
  have nfs : ∀ b ∈ D :: fp, b ∉ frs X.stack := I4.ok.exfs
  -- the footprint within the block
  have fpB : ∀ {pins' : List (Addr × Obj)} {H' : Hp} {b : Addr}, b ∈ fp → H' b = none → (∀ p ∈ pins', p.1 ≠ b) → FpOk (cxBlk X (own ++ fr) scope C { s2 with heap := h3 } H2 (D :: fp)) pins' H' b := fun {pins' H' b} hb hn hp =>
    ⟨hn, (I4.ok.exf b (List.mem_cons_of_mem _ hb)).1, nfs b (List.mem_cons_of_mem _ hb), .inl (List.mem_cons_of_mem _ hb), fun x c e => hx2 b hb x c e, fun p h => hp p (by simpa using h)⟩
  have fpD : ∀ {pins' : List (Addr × Obj)} {H' : Hp}, H' D = none → (∀ p ∈ pins', p.1 ≠ D) → FpOk (cxBlk X (own ++ fr) scope C { s2 with heap := h3 } H2 (D :: fp)) pins' H' D := fun {pins' H'} hn hp =>
    ⟨hn, hDl, nfs D List.mem_cons_self, .inl List.mem_cons_self, fun x c e => hx x c e, fun p h => hp p (by simpa using h)⟩
  have loop : ∀ s4 : Shared, s4 = { s2 with heap := h1, toks := s2.toks + ([] : List (Str × Value)).length } →
      codeAny (model X.prog X.w) X.A (.compLoop (.ListComp elt [⟨tg, iter, ifs, 0⟩] scope pos) 0 (.ref it) (.ref D) (compEnvC scope (closL X.env.cells scope.names []) C X.env))
        (compPost (model X.prog X.w) X.A X.xe none (EP X pins σ Q) (.ref D) C) s4 := by
    intro s4 e4
    refine blk_loop (fun n s' => ∃ i ys its H', ∃ z : Nat, Inv (cxBlk X (own ++ fr) scope C { s2 with heap := h3 } H2 (D :: fp)) [] (upS own.length js σ) H' s' ∧ tn i s'.heap ∧ (∀ b ∈ fp, H' b = none) ∧ H' D = none ∧
      s'.heap.get? D = some { cls := .type "list", data := .seq (its : List Value).toArray z } ∧ Vals ys its ∧ W i n ys H') ?_ m0 ?_
    · rintro n s5 ⟨i, ys, its, H5, z5, I5, st5, fr5, hD5, ho5, rv5, w5⟩
      have I5' := I5.pinned (fp := [D]) (fun b hb => by rw [List.mem_singleton.mp hb]; exact fpD hD5 (fun p hp => absurd hp (by simp))) (fun b hb => by
        rw [List.mem_singleton.mp hb]; exact ⟨_, ho5, fun v q => nomatch q⟩)
      have pD : ∀ p ∈ [] ++ pinsAt [D] s5.heap, p.1 = D := fun p hp => by
        rw [List.nil_append] at hp
        exact List.mem_singleton.mp (of_pinsAt hp).1
      have mD : (D, ({ cls := .type "list", data := .seq its.toArray z5 } : Obj)) ∈ [] ++ pinsAt [D] s5.heap := by
        rw [List.nil_append]; exact mem_pinsAt (List.mem_singleton.mpr rfl) ho5
      have fp5 : ∀ {H' : Hp}, (∀ b ∈ fp, H' b = none) → ∀ b ∈ fp, FpOk (cxBlk X (own ++ fr) scope C { s2 with heap := h3 } H2 (D :: fp)) ([] ++ pinsAt [D] s5.heap) H' b := fun hn b hb => fpB hb (hn b hb) fun p hp => by
        rw [pD p hp]; exact fD b hb
      rcases turn i n ys H5 w5 with ⟨stop, hlen, q⟩ | ⟨go, N, hN, step⟩
      · refine thn (T.done (cxBlk X (own ++ fr) scope C { s2 with heap := h3 } H2 (D :: fp)) rfl rfl rfl hc i _ s5 _ H5 _ I5' (fp5 fr5) st5 stop) fun r s6 ⟨hr, I6⟩ => ?_
        subst hr
        obtain ⟨m6, hn6, _⟩ := I6.loc
        refine ⟨m6, hn6, fun h7 hs7 => ?_⟩
        obtain ⟨o6, nD6, _⟩ := I6.pin (D, _) (List.mem_append_right _ mD)
        have k7 : ∀ b o, b ≠ C → s6.heap.get? b = some o → h7.get? b = some o := fun b o hb e => hs7.extBut b o hb e
        refine ⟨.ref D, upd H5 D (.lst ys), ?_, rfl, q D nD6⟩
        refine I3.call' (s' := { s6 with heap := h7 }) (ch := D :: fp) I6.os (un_track (un_but I6.base (Nat.le_of_eq eC) k7) List.mem_cons_self (I2.hok.fresh ?_)) (hok_track (hok_but I6.hok I6.free k7) nD6 ⟨hlen, its, z5, rv5, k7 D _ hDl o6⟩) I6.bare fun b hb => ?_
        · rw [← eD]; exact Nat.le_refl _
        · rcases List.mem_cons.mp hb with y | hb
          · subst y
            refine ⟨.inr (by rw [← eD]; exact I2.sz), by rw [← eD]; exact Nat.ne_of_gt I2.lt, fun x c e => ?_, fun p hp => ?_⟩
            · obtain ⟨v, q⟩ := I2.cell x c e
              rw [← eD]; exact Nat.ne_of_lt q.lt
            · rw [← eD]; exact Nat.ne_of_lt (Heap.lt_size (I2.pin p hp).1)
          · obtain ⟨_, g1, _, g3, g4, g5⟩ := f2 b hb
            exact ⟨g3, g1, g4, g5⟩
      · refine thn (T.item (cxBlk X (own ++ fr) scope C { s2 with heap := h3 } H2 (D :: fp)) rfl rfl rfl hc i _ s5 _ H5 _ I5' (fp5 fr5) st5 go) fun r s6 ⟨u, hr, h6⟩ => ?_
        subst hr
        refine thn h6 fun _ s7 ⟨x, H7, I7, r7, y7, st7, fr7⟩ => ?_
        have I7' := I7.pinned (fp5 fr7) (T.obj _ _ st7)
        refine thn (hg _ _ _ _ _ s7 _ H7 x u _ I7' r7 (step x H7 y7)) fun _ s8 ⟨σ8, H8, I8, hd8, q8⟩ => ?_
        refine thn (hf _ _ _ _ _ s8 σ8 H8 _ I8 q8) fun ok s9 ⟨H9, I9, q9⟩ => ?_
        have weak : ∀ {H' : Hp} {s' : Shared}, Inv (cxBlk X (own ++ fr) scope C { s2 with heap := h3 } H2 (D :: fp)) (([] ++ pinsAt [D] s5.heap) ++ pinsAt fp s7.heap) σ8 H' s' →
            Inv (cxBlk X (own ++ fr) scope C { s2 with heap := h3 } H2 (D :: fp)) [] (upS own.length js σ) H' s' := fun {H' s'} J => by
          refine (J.unpinned).unpinned.weak (I5.len.trans J.len.symm) fun k v e => ?_
          obtain ⟨hn, e1, _⟩ := upS_drop e
          rw [← hd8, List.getElem?_drop] at e1
          rw [← e1]
          congr 1
          omega
        have mF : ∀ b ∈ fp, ∀ o, s7.heap.get? b = some o → (b, o) ∈ ([] ++ pinsAt [D] s5.heap) ++ pinsAt fp s7.heap := fun b hb o e => List.mem_append_right _ (mem_pinsAt hb e)
        have mD' := List.mem_append_left (pinsAt fp s7.heap) mD
        have frB : ∀ {H' : Hp} {s' : Shared}, Inv (cxBlk X (own ++ fr) scope C { s2 with heap := h3 } H2 (D :: fp)) (([] ++ pinsAt [D] s5.heap) ++ pinsAt fp s7.heap) σ8 H' s' → ∀ b ∈ fp, H' b = none := fun {H' s'} J b hb => by
          obtain ⟨o, e, _⟩ := T.obj _ _ st7 b hb
          exact (J.pin (b, o) (List.mem_append_right _ (mF b hb o e))).2.1
        cases ok with
        | false =>
          have q9' : N ys H9 := by simpa using q9
          obtain ⟨m', hm, w'⟩ := hN _ _ q9'
          obtain ⟨o9, nD9, _⟩ := I9.pin (D, _) (List.mem_append_right _ mD')
          exact ⟨m', hm, i + 1, ys, its, H9, z5, weak I9, T.keep _ _ _ st7 fun b hb o e => (I9.pin (b, o) (List.mem_append_right _ (mF b hb o e))).1, frB I9, nD9, o9, rv5, w'⟩
        | true =>
          have q9' : te σ8 H9 fun y H6 => ys.length < sizeLine ∧ N (ys ++ [y]) H6 := by simpa using q9
          refine thn (he _ _ _ _ _ s9 σ8 H9 _ I9 q9') fun yv s10 ⟨y, H10, I10, r10, hlt, w10⟩ => ?_
          obtain ⟨m', hm, w'⟩ := hN _ _ w10
          obtain ⟨o10, nD10, _⟩ := I10.pin (D, _) (List.mem_append_right _ mD')
          refine wpAny_list_append_plain (l := D) (items := its.toArray) (hsz := by rw [List.size_toArray, ← rv5.length]; exact Nat.le_of_lt hlt) ⟨_, o10⟩ fun h11 hl11 hs11 => ?_
          obtain ⟨z11, e11⟩ := hl11
          refine ⟨m', hm, i + 1, ys ++ [y], its ++ [yv], H10, z11, ?_, T.keep _ _ _ st7 fun b hb o e => hs11.extBut b o (Ne.symm (fD b hb)) (I10.pin (b, o) (List.mem_append_right _ (mF b hb o e))).1, frB I10, nD10, ?_, rv5.append (.cons r10 .nil), w'⟩
          · exact (weak I10).turned (t' := s10.toks) (it := D) (fun b o hb e => hs11.extBut b o hb e) nD10 hDl (.inl List.mem_cons_self) (fun x c e => hx x c e) fun p hp => absurd (show p ∈ ([] : List (Addr × Obj)) from hp) (by simp)
          · rw [e11]; simp
    · subst e4
      exact ⟨0, [], [], H2, 0, I4, T.keep _ _ _ st2 fun b hb o e => k4 b o (k3 b o e), fun b hb => (f2 b hb).1, I2.hok.fresh (by rw [← eD]; exact Nat.le_refl _), hacc, .nil, w0⟩
  exact codeAny_compStart_list (loop _ rfl) (T.self X.A 0 _ _ _ (T.keep _ _ _ st2 fun b hb o e => k4 b o (k3 b o e)) (loop _ rfl))
end
end L2

set_option Elab.async false
set_option linter.all false
set_option maxRecDepth 100000
set_option maxHeartbeats 4000000
namespace L2
open PySem PySem.Spec PyProof.Rows

/-! ## enumerate, zip -/
section
variable {X : Cx} {pins : List (Addr × Obj)} {σ : St} {H : Hp} {s : Shared}
theorem inv_tup {ch : List Addr} {h' : Heap} {t' : Nat} {T : Addr} {ys : List V} {its : List Value} (I : Inv X pins σ H s) (hf : ∀ b ∈ ch, FpOk X pins H b) (hT : s.heap.objs.size ≤ T)
    (k : ∀ b o, b ∉ ch → s.heap.get? b = some o → h'.get? b = some o) (hl : ys.length ≤ sizeLine) (rv : Vals ys its) (ht : IsTup h' T its.toArray) :
    Inv X pins σ (upd H T (.tup ys)) { s with heap := h', toks := t' } := by
  have hn : H T = none := I.hok.fresh hT
  have ne : ∀ b o, s.heap.get? b = some o → b ≠ T := fun b o e => Nat.ne_of_lt (Nat.lt_of_lt_of_le (Heap.lt_size e) hT)
  have tr : ∀ b u, H b = some u → b ∉ ch := fun b u e hb => by rw [(hf b hb).1] at e; cases e
  refine I.step (g' := s.gens) (d' := s.drawn) (ch := ch) (fun b hb => ?_) (fun b o _ _ hc e _ => k b o hc e) (fun b o _ _ hc e _ => ⟨o.slots, k b o hc e⟩) (fun b o _ e n => by rw [upd_ne (ne b o e)]; exact n) (fun b o hc e => ⟨o, k b o hc e⟩)
    (fun b xs e => by rw [upd_ne (ne_of_none e hn)]; exact e) (fun b o u e => by rw [upd_ne (ne_of_none e hn)]; exact e) (fun b ps e => ⟨#[], by rw [upd_ne (ne_of_none e hn), e]; simp⟩) (fun m hm => ?_) (fun b u e => ?_) I.bare
  · obtain ⟨_, g1, _, g3, g4, g5⟩ := hf b hb
    exact ⟨g3, g1, g4, g5⟩
  · obtain ⟨o, es, ep, ho, r⟩ := hm
    exact ⟨o, es, ep, k _ o (fun z => (hf _ z).2.1 rfl) ho, r⟩
  · by_cases hb : b = T
    · subst hb
      rw [upd_same] at e
      cases e
      exact ⟨hl, its, rv, ht⟩
    · rw [upd_ne hb] at e
      refine (I.hok b u e).stay (fun c v hc q => k c v ?_ q) (fun c q => by rw [upd_ne (ne_of_none q hn)]; exact q) fun c xs q => by rw [upd_ne (ne_of_none q hn)]; exact q
      rcases hc with z | z
      · rw [z]; exact tr b u e
      · exact tr c _ z
end

def Ite (K : PySem.W.Frag) (a : Addr) : It :=
  ⟨fun i H => ∃ xs x, SqL K H a xs ∧ xs[i]? = some x, fun i H x H' => ∃ T y, x = .ref T ∧ H T = none ∧ H' = upd H T (.tup [.int i, y]) ∧ ∀ xs, SqL K H a xs → xs[i]? = some y, fun i H => ∃ xs, SqL K H a xs ∧ xs.length ≤ i⟩
theorem turn_enum {P : Program} {w : World} {K : PySem.W.Frag} {elts : List Expr} {kk : Nat} {pos : Pos} (a e it : Addr) (hne : e ≠ it) :
    Turn P w K (.Tuple elts kk pos) (Ite K a) [e, it] e (fun i h => (∃ old, IsEnum h e it i old) ∧ h.IsListIter it a i) where
  mem := by simp
  obj := fun i h st b hb => by
    obtain ⟨⟨old, he⟩, ⟨o, ho, c, d⟩⟩ := st
    rcases List.mem_cons.mp hb with z | z
    · subst z; exact ⟨_, he, fun v q => nomatch q⟩
    · rw [List.mem_singleton.mp z]; exact ⟨o, ho, fun v q => by rw [d] at q; cases q⟩
  keep := fun i h h' st k => by
    obtain ⟨⟨old, he⟩, hi⟩ := st
    exact ⟨⟨old, k e (by simp) _ he⟩, hi.at fun o q => k it (by simp) o q⟩
  item := by
    intro X hP hw hK hc i pins s σ H E I hf st hg
    subst hP hw hK
    obtain ⟨⟨old, he⟩, hit⟩ := st
    obtain ⟨xs, x, hq, hx⟩ := hg
    obtain ⟨its, rv, p, hz⟩ := I.list hq
    obtain ⟨u, hu, ru⟩ := rv.get hx
    have hl := p.isList
    have hai : a ≠ it := fun z => by
      obtain ⟨o, e1, c1, _⟩ := hl
      obtain ⟨o', e2, c2, _⟩ := hit
      rw [z, e2] at e1; cases e1; rw [c2] at c1; exact absurd (Value.type.inj c1) (by decide)
    have hae : e ≠ a := fun z => by
      obtain ⟨o, e1, c1, _⟩ := hl
      rw [← z, he] at e1; cases e1; exact absurd (Value.type.inj c1) (by decide)
    have D := Draws.list (prog := X.prog) (w := X.w) (A := X.A.in1) (I.ok.hd hc) it a hai its.toArray
    have hi : i < its.toArray.size := by
      have h1 := (List.getElem?_eq_some_iff.mp hu).1
      simpa using h1
    refine wpAny_pyNext_enum_itemD D he ⟨hit, hl⟩ hi hne (by simp [hne, hae]) fun x' h' tk hP' hout hst' hT hsz hk => ?_
    have ex : x' = u := by
      have h2 : its[i]? = some x' := by simpa using hP'
      rw [hu] at h2; exact (Option.some.inj h2).symm
    subst ex
    refine ⟨_, rfl, wpAny_letOwnedTupleGo_enum hout fun h2 he2 hs2 => ?_⟩
    have eT : s.heap.objs.size ≠ e := Nat.ne_of_gt (Heap.lt_size he)
    have k2 : ∀ b o, b ∉ [e, it] → s.heap.get? b = some o → h2.get? b = some o := fun b o hb q => by
      have n1 : b ≠ e := fun z => hb (by simp [z])
      have n2 : b ≠ it := fun z => hb (by simp [z])
      exact (hs2.2 b n1).trans (hk b o n1 n2 q)
    have it2 : h2.IsListIter it a (i + 1) := hst'.1.extBut hs2.extBut (Ne.symm hne)
    refine ⟨.ref s.heap.objs.size, upd H s.heap.objs.size (.tup [.int i, x]), ?_, rfl, ⟨_, x, rfl, I.hok.fresh (Nat.le_refl _), rfl, fun ys hy => by rw [I.list_inj hy hq]; exact hx⟩, ⟨⟨_, by simpa using he2⟩, it2⟩, fun b hb => ?_⟩
    · refine inv_tup (s := s) (h' := h2) (t' := tk + 1) (its := [.int i tk, x']) I hf (Nat.le_refl _) k2 (by rw [sizeLine_eq]; exact (by decide : 2 ≤ 16777216)) (.cons ⟨tk, rfl⟩ (.cons ru .nil)) ⟨_, (hs2.2 _ eT).trans hT, rfl, 0, rfl⟩
    · have hb' : b < s.heap.objs.size := by
        rcases List.mem_cons.mp hb with z | z
        · rw [z]; exact Heap.lt_size he
        · rw [List.mem_singleton.mp z]
          obtain ⟨o', e', _⟩ := hit
          exact Heap.lt_size e'
      rw [upd_ne (Nat.ne_of_lt hb')]
      exact (hf b hb).1
  done := by
    intro X hP hw hK hc i pins s σ H E I hf st hg
    subst hP hw hK
    obtain ⟨⟨old, he⟩, hit⟩ := st
    obtain ⟨xs, hq, hx⟩ := hg
    obtain ⟨its, rv, p, hz⟩ := I.list hq
    have hl := p.isList
    have hai : a ≠ it := fun z => by
      obtain ⟨o, e1, c1, _⟩ := hl
      obtain ⟨o', e2, c2, _⟩ := hit
      rw [z, e2] at e1; cases e1; rw [c2] at c1; exact absurd (Value.type.inj c1) (by decide)
    obtain ⟨f0, f1, f2, f3, f4, f5⟩ := hf it (by simp)
    have hle : its.toArray.size ≤ i := by
      have := rv.length
      simp only [List.size_toArray]; omega
    -- the inner iterator is at its end
    have hT : s.TypeIs (.ref e) "enumerate" := ⟨_, he, rfl⟩
    unfold pyNext
    refine wpAny_bind (wpAny_attempt (wpAny_callSpecial?_slot (name := Str.ofString "__next__") hT F.slot_enumerate_next (wpAny_call_entry F.slot_enumerate_next hT F.entry_enumerate_next ?_ (F.args_enumerate_next_1 _))))
    show wpAny _ _ (field (.ref e) 2 >>= _) _ _ _
    refine wpAny_bind (wpAny_field he rfl (x := .ref it) rfl (wpAny_bind (wpAny_nextOf_list_end (I.ok.hd hc) hit hl (by simpa using hle) fun h' x he' hx' => ?_)))
    obtain ⟨o, ho, hc'⟩ := hx'
    refine wpAny_bind (wpAny_isInstance (T := "StopIteration") (b := true) ⟨o, ho, hc'⟩ isSubtype_stop ?_)
    exact wpAny_pure ⟨rfl, I.turned (t' := s.toks) (fun b o hb q => he' b o hb q) f0 f1 f3 f4 f5⟩
  self := fun _ _ _ _ _ st h => let ⟨⟨_, he⟩, _⟩ := st; wpAny_pyIter_enum he h

section
variable {X : Cx}
def iEnum (K : PySem.W.Frag) (ta : TA) : TI := fun σ H R => ta σ H fun vs H1 => ∃ a, vs = [.ref a] ∧ (∃ xs, SqL K H1 a xs) ∧ R (Ite K a) H1
theorem pi_enum {l : Expr} {ta : TA} {p pos tp : Pos} {elts : List Expr} {kk : Nat} (hg : Gl X "enumerate") (hm : X.mg "enumerate" = none) (ha : PA X [l] ta) (hs : starEach [l] X.env = [(false, eval l X.env)] := by rfl) :
    PI X (.Tuple elts kk tp) (.Call (.Name "enumerate" p) [l] [] pos) (iEnum X.K ta) := by
  intro pins s σ H R I h
  refine Call_ (ld_blt I hg hm boot_enumerate (PyProof.Rows.callWith_type1 (thn (ha pos pins s σ H _ I h) fun us s1 ⟨vs, H1, I1, r1, q1⟩ => ?_) hs rfl))
  obtain ⟨a, e, ⟨xs, hq⟩, q⟩ := q1
  subst e
  obtain ⟨u, rfl, ru⟩ := vals1 r1
  cases ru
  obtain ⟨its, rv, pl, hz⟩ := I1.list hq
  refine call_enumerate_list pl.isList fun h' he hi hsz hk => wpAny_pyIter_enum he ?_
  have I2 : Inv X pins σ H1 { s1 with heap := h' } := I1.kept (t' := s1.toks) hk
  refine ⟨s1.heap.objs.size + 1, [s1.heap.objs.size + 1, s1.heap.objs.size], _, _, H1, rfl, I2, turn_enum a _ _ (Nat.succ_ne_self _), ⟨⟨_, he⟩, hi⟩, fun b hb => ?_, q⟩
  have hb' : s1.heap.objs.size ≤ b := by
    rcases List.mem_cons.mp hb with z | z
    · rw [z]; exact Nat.le_succ _
    · rw [List.mem_singleton.mp z]; exact Nat.le_refl _
  exact I1.fpOk hb' (I1.hok.fresh hb')
theorem for_enum {K : PySem.W.Frag} {a : Addr} {xs : List V} {g : TG} {tb : TS} {D : Ends} {σ : St} {H : Hp} (Pv : Nat → St → Hp → Prop) (h0 : Pv 0 σ H) (hl : ∀ i σ H, i ≤ xs.length → Pv i σ H → SqL K H a xs)
    (hs : ∀ i x σ H T, xs[i]? = some x → Pv i σ H → H T = none → g (.ref T) σ (upd H T (.tup [.int i, x])) fun σ2 H2 => tb { D with nx := Pv (i + 1), ct := Pv (i + 1), bk := D.nx } σ2 H2) (hd : ∀ σ H, Pv xs.length σ H → D.nx σ H) :
    ∃ W : Nat → Nat → St → Hp → Prop, (∃ m, W 0 m σ H) ∧ ∀ i m σ H, W i m σ H →
      ((Ite K a).stop i H ∧ D.nx σ H) ∨ ((Ite K a).go i H ∧ ∃ N : St → Hp → Prop, (∀ σ' H', N σ' H' → ∃ m', m' < m ∧ W (i + 1) m' σ' H') ∧ ∀ x H', (Ite K a).yld i H x H' → g x σ H' fun σ2 H2 => tb { D with nx := N, ct := N, bk := D.nx } σ2 H2) := by
  refine ⟨fun i m σ H => m = xs.length - i ∧ i ≤ xs.length ∧ Pv i σ H, ⟨xs.length, by simp, Nat.zero_le _, h0⟩, ?_⟩
  rintro i m σ H ⟨rfl, hi, p⟩
  have q := hl i σ H hi p
  by_cases hlt : i < xs.length
  · refine .inr ⟨⟨xs, xs[i], q, by simp [hlt]⟩, Pv (i + 1), fun σ' H' p' => ⟨xs.length - (i + 1), by omega, rfl, hlt, p'⟩, fun x H' y => ?_⟩
    obtain ⟨T, z, e1, hT, e2, y⟩ := y
    subst e1 e2
    exact hs i z σ H T (y xs q) p hT
  · have e : i = xs.length := by omega
    subst e
    exact .inl ⟨⟨xs, q, Nat.le_refl _⟩, hd σ H p⟩
end

/-! ## all(a list of bools) -/
section
variable {X : Cx}
theorem call_allL (hc : X.calm = true) : CallR X (.builtin "all") (fun xs H Q => ∃ (p : Addr) (bs : List Bool), xs = [.ref p] ∧ SqL X.K H p (bs.map V.bl) ∧ Q (.bl (bs.all id)) H) := by
  intro pins s σ H xs us Q I r h
  obtain ⟨p, bs, rfl, hq, q⟩ := h
  obtain ⟨u, rfl, ru⟩ := vals1 r
  cases ru
  obtain ⟨its, rv, pl, hz⟩ := I.list hq
  have hl := pl.isList
  have hpl : p ≠ s.heap.objs.size := by
    obtain ⟨o, e, _⟩ := hl
    exact Nat.ne_of_lt (Heap.lt_size e)
  refine call_all_walk (wpAny_pyIter_list hl ?_)
  refine ⟨s.heap.objs.size, _, _, _, _, _, fun i => bs.getD i true, rfl, Walks.list (prog := X.prog) (w := X.w) (A := X.A.in1) (I.ok.hd hc) _ p hpl its.toArray, ⟨⟨_, Heap.get?_push_size _ rfl, rfl, rfl⟩, hl.push _⟩, ?_, fun h' tk hk => ?_⟩
  · intro i v s' Q' E' hP hQ
    have hP : its.toArray[i]? = some v := hP
    have e1 : its[i]? = some v := by simpa using hP
    have hi : i < bs.length := by
      have h1 := (List.getElem?_eq_some_iff.mp e1).1
      have h2 := rv.length
      rw [List.length_map] at h2
      omega
    have e2 : (bs.map V.bl)[i]? = some (.bl bs[i]) := by simp [hi]
    obtain ⟨u', eu, ru⟩ := rv.get e2
    rw [e1] at eu
    cases eu
    cases ru
    have e3 : bs.getD i true = bs[i] := by simp [hi]
    have hQ2 : Q' (bs.getD i true) s' := hQ
    rw [e3] at hQ2
    exact wpAny_truthy_bool hQ2
  · have k : ∀ b o, s.heap.get? b = some o → h'.get? b = some o := fun b o e => hk b o (by simp; exact Nat.ne_of_lt (Heap.lt_size e)) (Heap.get?_push_of_some _ e)
    have ea : (List.range its.toArray.size).all (fun i => bs.getD i true) = bs.all id := by
      have hlen : its.toArray.size = bs.length := by
        have := rv.length
        rw [List.length_map] at this
        simp only [List.size_toArray]; omega
      rw [hlen, Bool.eq_iff_iff, List.all_eq_true, List.all_eq_true]
      constructor
      · intro h b hb
        obtain ⟨i, hi, rfl⟩ := List.mem_iff_getElem.mp hb
        have := h i (List.mem_range.mpr hi)
        simpa [hi] using this
      · intro h i hi
        have hi := List.mem_range.mp hi
        have := h bs[i] (List.getElem_mem hi)
        simpa [hi] using this
    exact ⟨.bl (bs.all id), H, I.kept k, by rw [ea]; rfl, q⟩
end
end L2

set_option Elab.async false
set_option linter.all false
set_option maxRecDepth 100000
set_option maxHeartbeats 4000000
namespace L2
open PySem PySem.Spec PyProof.Rows

/-! ## zip of two lists or tuples (kd: true a list, false a tuple) -/
def SqK (K : PySem.W.Frag) (kd : Bool) (H : Hp) (a : Addr) (xs : List V) : Prop := match kd with
  | true => SqL K H a xs
  | false => SqT K H a xs
def SeqK (kd : Bool) (h : Heap) (a : Addr) (its : Array Value) : Prop := match kd with
  | true => h.IsList a its
  | false => h.IsTuple a its
def ItrK (kd : Bool) (h : Heap) (it a : Addr) (i : Nat) : Prop := match kd with
  | true => h.IsListIter it a i
  | false => h.IsTupleIter it a i
theorem SeqK.at {kd : Bool} {h h' : Heap} {a : Addr} {its : Array Value} (x : SeqK kd h a its) (k : ∀ o, h.get? a = some o → h'.get? a = some o) : SeqK kd h' a its := by
  cases kd with
  | true => exact Heap.IsList.at x k
  | false => obtain ⟨o, e, r⟩ := (show h.IsTuple a its from x); exact ⟨o, k o e, r⟩
theorem ItrK.at {kd : Bool} {h h' : Heap} {it a : Addr} {i : Nat} (x : ItrK kd h it a i) (k : ∀ o, h.get? it = some o → h'.get? it = some o) : ItrK kd h' it a i := by
  cases kd with
  | true => exact Heap.IsListIter.at x k
  | false => obtain ⟨o, e, r⟩ := (show h.IsTupleIter it a i from x); exact ⟨o, k o e, r⟩
theorem ItrK.obj {kd : Bool} {h : Heap} {it a : Addr} {i : Nat} (x : ItrK kd h it a i) : ∃ o, h.get? it = some o ∧ (o.cls = .type "list_iterator" ∨ o.cls = .type "tuple_iterator") ∧ ∀ v, o.data ≠ .cell v := by
  cases kd with
  | true => obtain ⟨o, e, c, d⟩ := (show h.IsListIter it a i from x); exact ⟨o, e, .inl c, fun v q => by rw [d] at q; cases q⟩
  | false => obtain ⟨o, e, c, d⟩ := (show h.IsTupleIter it a i from x); exact ⟨o, e, .inr c, fun v q => by rw [d] at q; cases q⟩
theorem SeqK.cls {kd : Bool} {h : Heap} {a : Addr} {its : Array Value} (x : SeqK kd h a its) : ∃ o, h.get? a = some o ∧ (o.cls = .type "list" ∨ o.cls = .type "tuple") ∧ ∃ n, o.data = .seq its n := by
  cases kd with
  | true => obtain ⟨o, e, c, n, d⟩ := (show h.IsList a its from x); exact ⟨o, e, .inl c, n, d⟩
  | false => obtain ⟨o, e, c, n, d⟩ := (show h.IsTuple a its from x); exact ⟨o, e, .inr c, n, d⟩
section
variable {prog : Program} {w : World} {A : Around} {E : Value → Shared → Prop} {s : Shared}
theorem nextK_item {kd : Bool} {it a : Addr} {i : Nat} {its : Array Value} {x : Value} {Q : Value → Shared → Prop} (hi : ItrK kd s.heap it a i) (hl : SeqK kd s.heap a its) (hx : its[i]? = some x)
    (hQ : ∀ h', ItrK kd h' it a (i + 1) → Heap.SameBut it s.heap h' → Q x { s with heap := h' }) : wpAny (model prog w) A (Builtin.SmallTypes.nextOf (.ref it)) Q E s := by
  cases kd with
  | true => exact wpAny_nextOf_list_item hi hl hx hQ
  | false =>
    have hi' : s.heap.IsTupleIter it a i := hi
    obtain ⟨o, ho, hc, hd⟩ := id hi'
    obtain ⟨ol, hol, _, nl, hdl⟩ := (show s.heap.IsTuple a its from hl)
    unfold Builtin.SmallTypes.nextOf; refine wpAny_bind (wpAny_callSpecial?_slot (name := Str.ofString "__next__") hi'.typeIs F.slot_tuple_iterator_next (wpAny_call_entry F.slot_tuple_iterator_next hi'.typeIs F.entry_tuple_iterator_next ?_ (F.args_tuple_iterator_next_1 _)))
    show wpAny _ _ (field (.ref it) 0 >>= _) _ _ _; refine wpAny_bind (wpAny_field ho hd (x := .ref a) rfl ?_)
    show wpAny _ _ (if (Value.ref a == Value.none) = true then _ else _) _ _ _; rw [if_neg (show ¬ ((Value.ref a == Value.none) = true) from Bool.false_ne_true)]
    show wpAny _ _ (field (.ref it) 1 >>= _) _ _ _; refine wpAny_bind (wpAny_field ho hd (x := .int i 0) rfl ?_)
    show wpAny _ _ (seqItems? (.ref a) >>= _) _ _ _; refine wpAny_bind (wpAny_seqItems hol hdl ?_); simp only [Int.toNat_natCast, hx]
    refine wpAny_bind (wpAny_setField ho hd (by simp) (wpAny_pure ⟨x, rfl, wpAny_pure (hQ _ (show Heap.IsTupleIter _ _ _ _ from ?_) (Heap.SameBut.update ..))⟩))
    refine ⟨_, Heap.get?_update_self _ ho (Obj.isFreed_of_fields (Obj.data_mapFields hd _)), (Obj.cls_mapFields ..).trans hc, ?_⟩; rw [Obj.data_mapFields hd]; simp [rawInt]
theorem nextK_end {kd : Bool} {it a : Addr} {i : Nat} {its : Array Value} {Q : Value → Shared → Prop} (hh : A.handled = none) (hi : ItrK kd s.heap it a i) (hl : SeqK kd s.heap a its) (hx : its[i]? = none)
    (hE : ∀ h' e, Heap.ExtBut it s.heap h' → (∃ o, h'.get? e = some o ∧ o.cls = .type "StopIteration") → E (.ref e) { s with heap := h' }) : wpAny (model prog w) A (Builtin.SmallTypes.nextOf (.ref it)) Q E s := by
  cases kd with
  | true => exact wpAny_nextOf_list_end hh hi hl hx hE
  | false =>
    have hi' : s.heap.IsTupleIter it a i := hi
    obtain ⟨o, ho, hc, hd⟩ := id hi'
    obtain ⟨ol, hol, _, nl, hdl⟩ := (show s.heap.IsTuple a its from hl)
    unfold Builtin.SmallTypes.nextOf; refine wpAny_bind (wpAny_callSpecial?_slot (name := Str.ofString "__next__") hi'.typeIs F.slot_tuple_iterator_next (wpAny_call_entry F.slot_tuple_iterator_next hi'.typeIs F.entry_tuple_iterator_next ?_ (F.args_tuple_iterator_next_1 _)))
    show wpAny _ _ (field (.ref it) 0 >>= _) _ _ _; refine wpAny_bind (wpAny_field ho hd (x := .ref a) rfl ?_)
    show wpAny _ _ (if (Value.ref a == Value.none) = true then _ else _) _ _ _; rw [if_neg (show ¬ ((Value.ref a == Value.none) = true) from Bool.false_ne_true)]
    show wpAny _ _ (field (.ref it) 1 >>= _) _ _ _; refine wpAny_bind (wpAny_field ho hd (x := .int i 0) rfl ?_)
    show wpAny _ _ (seqItems? (.ref a) >>= _) _ _ _; refine wpAny_bind (wpAny_seqItems hol hdl ?_); simp only [Int.toNat_natCast, hx]
    refine wpAny_bind (wpAny_rule (wpAny_bind (wpAny_setField ho hd (by simp) ?_))); show wpAny _ _ (newExc (.type "StopIteration") [] >>= _) _ _ _
    refine wpAny_bind ?_; simp only [newExc, newTuple]; refine wpAny_bind (wpAny_newObj_type ?_ (by size_fits))
    refine wpAny_bind (m := firstArgMember _ _) (wpAny_of_eq (a := Value.none) (by first | rfl | (simp only [firstArgMember]; rfl)) (wpAny_newObj_type ?_ (by size_fits)))
    simp only [raiseNew]; refine wpAny_bind (wpAny_handled ?_); first | rw [show A.in1.handled = none from hh] | rw [hh]
    exact wpAny_bind (wpAny_pure (wpAny_throw (hE _ _ (((Heap.SameBut.update ..).extBut.push _).push _) ⟨_, Heap.get?_push_size _ rfl, rfl⟩)))
structure ZipAt (k1 k2 : Bool) (h : Heap) (z TI TO i1 i2 a1 a2 : Addr) (i : Nat) : Prop where
  zz : IsZip h z TI TO .none
  ti : IsPair h TI (.ref i1) (.ref i2)
  to : ∃ a b, IsPair h TO a b
  r1 : ItrK k1 h i1 a1 i
  r2 : ItrK k2 h i2 a2 i
structure ZipNe (z TI TO i1 i2 : Addr) : Prop where
  a : TI ≠ z
  b : TO ≠ z
  c : i1 ≠ z
  d : i2 ≠ z
  e : TI ≠ TO
  f : TI ≠ i1
  g : TI ≠ i2
  h : TO ≠ i1
  i : TO ≠ i2
  j : i1 ≠ i2
end
end L2

set_option Elab.async false
set_option linter.all false
set_option maxRecDepth 100000
set_option maxHeartbeats 4000000
namespace L2
open PySem PySem.Spec PyProof.Rows
section
variable {prog : Program} {w : World} {A : Around} {E : Value → Shared → Prop} {s : Shared}
theorem zipK_next {k1 k2 : Bool} {z TI TO i1 i2 a1 a2 : Addr} {i : Nat} {xs ys : Array Value} {x y : Value} {Q : Option Value → Shared → Prop} (N : ZipNe z TI TO i1 i2) (Z : ZipAt k1 k2 s.heap z TI TO i1 i2 a1 a2 i)
    (l1 : SeqK k1 s.heap a1 xs) (l2 : SeqK k2 s.heap a2 ys) (m1 : ∀ b ∈ [z, TO, i1, i2], a1 ≠ b) (m2 : ∀ b ∈ [z, TO, i1, i2], a2 ≠ b) (hx : xs[i]? = some x) (hy : ys[i]? = some y)
    (hQ : ∀ h', IsZip h' z TI TO (rawInt s.heap.objs.size) → IsPair h' TI (.ref i1) (.ref i2) → (∃ a b, IsPair h' TO a b) → ItrK k1 h' i1 a1 (i + 1) → ItrK k2 h' i2 a2 (i + 1) → IsPair h' s.heap.objs.size x y → h'.objs.size = s.heap.objs.size + 1 →
      (∀ c o, c ∉ [z, TO, i1, i2] → s.heap.get? c = some o → h'.get? c = some o) → Q (some (.ref s.heap.objs.size)) { s with heap := h' }) : wpAny (model prog w) A (pyNext (.ref z)) Q E s := by
  obtain ⟨hz, hTI, ⟨a, b, hTO⟩, h1, h2⟩ := Z
  have hT : s.TypeIs (.ref z) "zip" := ⟨_, hz, rfl⟩
  unfold pyNext; refine wpAny_bind (wpAny_attempt (wpAny_callSpecial?_slot (name := Str.ofString "__next__") hT F.slot_zip_next (wpAny_call_entry F.slot_zip_next hT F.entry_zip_next ?_ (F.args_zip_next_1 _))))
  show wpAny _ _ (field (.ref z) 2 >>= _) _ _ _; refine wpAny_bind (wpAny_field hz rfl (x := .bool false) rfl ?_)
  show wpAny _ _ (field (.ref z) 3 >>= _) _ _ _; refine wpAny_bind (wpAny_field hz rfl (x := .ref TI) rfl (wpAny_bind (wpAny_seqItems hTI rfl ?_)))
  show wpAny _ _ (Builtin.SmallTypes.ownedTupleIsFree (.ref z) >>= _) _ _ _; refine wpAny_bind ?_
  unfold Builtin.SmallTypes.ownedTupleIsFree; refine wpAny_bind (wpAny_field hz rfl (x := .none) rfl (wpAny_pure ?_)); simp only [if_true]
  refine wpAny_bind (wpAny_rule (wpAny_bind (wpAny_field hz rfl (x := .ref TO) rfl (wpAny_bind (wpAny_setField_rec hz (by simp) fun g1 hz1 hs1 => ?_)))))
  replace hz1 : IsZip g1 z TI TO .ellipsis := hz1
  refine wpAny_bind ?_; simp only [List.zipIdx_cons, List.zipIdx_nil, List.forIn_cons, List.forIn_nil]
  refine wpAny_bind (wpAny_bind (wpAny_onRaise ?_)); show wpAny _ _ (Builtin.SmallTypes.nextOf (.ref i1) >>= _) _ _ _
  refine wpAny_bind (nextK_item (h1.at fun o e => hs1.extBut _ o N.c e) (l1.at fun o e => hs1.extBut _ o (m1 z (by simp)) e) hx fun g2 h12 hs2 => wpAny_pure ?_)
  have hTO2 : IsPair g2 TO a b := hs2.extBut _ _ N.h (hs1.extBut _ _ N.b hTO)
  refine wpAny_bind (wpAny_seqItems hTO2 rfl (wpAny_bind (wpAny_updateSeq_pair hTO2 fun g3 hTO3 hs3 => ?_)))
  replace hTO3 : IsPair g3 TO x b := hTO3
  refine wpAny_bind (wpAny_letGo (wpAny_pure ?_)); refine wpAny_bind (wpAny_bind (wpAny_onRaise ?_)); show wpAny _ _ (Builtin.SmallTypes.nextOf (.ref i2) >>= _) _ _ _
  have c23 : ∀ c o, c ∉ [z, TO, i1] → s.heap.get? c = some o → g3.get? c = some o := fun c o hc e => hs3.extBut _ o (fun q => hc (by simp [q])) (hs2.extBut _ o (fun q => hc (by simp [q])) (hs1.extBut _ o (fun q => hc (by simp [q])) e))
  refine wpAny_bind (nextK_item (h2.at fun o e => c23 _ o (by simp [N.d, Ne.symm N.i, Ne.symm N.j]) e) (l2.at fun o e => c23 _ o (by simp [m2 z (by simp), m2 TO (by simp), m2 i1 (by simp)]) e) hy fun g4 h24 hs4 => wpAny_pure ?_)
  have hTO4 : IsPair g4 TO x b := hs4.extBut _ _ N.i hTO3
  refine wpAny_bind (wpAny_seqItems hTO4 rfl (wpAny_bind (wpAny_updateSeq_pair hTO4 fun g5 hTO5 hs5 => ?_)))
  replace hTO5 : IsPair g5 TO x y := hTO5
  refine wpAny_bind (wpAny_letGo (wpAny_pure (wpAny_pure (wpAny_bind (wpAny_seqItems hTO5 rfl (wpAny_bind (wpAny_newTuple ?_)))))))
  have zs : g5.objs.size = s.heap.objs.size := by rw [hs5.1, hs4.1, hs3.1, hs2.1, hs1.1]
  have hz5 : IsZip g5 z TI TO .ellipsis := hs5.extBut _ _ (Ne.symm N.b) (hs4.extBut _ _ (Ne.symm N.d) (hs3.extBut _ _ (Ne.symm N.b) (hs2.extBut _ _ (Ne.symm N.c) hz1)))
  have k5 : ∀ c o, c ∉ [z, TO, i1, i2] → s.heap.get? c = some o → g5.get? c = some o := fun c o hc e => hs5.extBut _ o (fun q => hc (by simp [q])) (hs4.extBut _ o (fun q => hc (by simp [q])) (c23 c o (fun q => hc (by simp at q ⊢; rcases q with q | q | q <;> simp [q])) e))
  have r1 : ItrK k1 g5 i1 a1 (i + 1) := h12.at fun o e => hs5.extBut _ o (Ne.symm N.h) (hs4.extBut _ o N.j (hs3.extBut _ o (Ne.symm N.h) e))
  have r2 : ItrK k2 g5 i2 a2 (i + 1) := h24.at fun o e => hs5.extBut _ o (Ne.symm N.i) e
  have zl : z < g5.objs.size := Heap.lt_size hz5
  show wpAny _ _ (Builtin.SmallTypes.ownedTupleHandOut (.ref z) (.ref g5.objs.size) >>= _) _ _ _; refine wpAny_bind ?_; unfold Builtin.SmallTypes.ownedTupleHandOut
  have hz6 : IsZip (g5.push { cls := .type "tuple", data := .seq #[x, y] }) z TI TO .ellipsis := Heap.get?_push_of_some _ hz5
  refine wpAny_bind (wpAny_setField_rec hz6 (by simp) fun g7 hz7 hs7 => ?_)
  replace hz7 : IsZip g7 z TI TO (rawInt g5.objs.size) := hz7
  refine wpAny_setField_rec hz7 (by simp) fun g8 hz8 hs8 => ?_
  replace hz8 : IsZip g8 z TI TO (rawInt g5.objs.size) := hz8
  have up : ∀ c o, c ≠ z → g5.get? c = some o → g8.get? c = some o := fun c o c1 e => hs8.extBut _ o c1 (hs7.extBut _ o c1 (Heap.get?_push_of_some _ e))
  have hT8 : IsPair g8 g5.objs.size x y := hs8.extBut _ _ (Nat.ne_of_gt zl) (hs7.extBut _ _ (Nat.ne_of_gt zl) (Heap.get?_push_size _ rfl))
  have z8 : g8.objs.size = g5.objs.size + 1 := by rw [hs8.1, hs7.1, Heap.size_push]
  rw [zs] at hz8 hT8 z8
  refine wpAny_pure ⟨_, rfl, wpAny_pure ?_⟩; show Q (some (.ref g5.objs.size)) _; rw [zs]
  exact hQ g8 hz8 (up _ _ N.a (k5 _ _ (by simp [N.a, N.e, N.f, N.g]) hTI)) ⟨_, _, up _ _ N.b hTO5⟩ (r1.at fun o e => up _ o N.c e) (r2.at fun o e => up _ o N.d e) hT8 z8 fun c o hc e => up c o (fun q => hc (by simp [q])) (k5 c o hc e)

theorem zipK_end {k1 k2 : Bool} {z TI TO i1 i2 a1 a2 : Addr} {i : Nat} {xs ys : Array Value} {Q : Option Value → Shared → Prop} (hh : A.handled = none) (N : ZipNe z TI TO i1 i2) (Z : ZipAt k1 k2 s.heap z TI TO i1 i2 a1 a2 i)
    (l1 : SeqK k1 s.heap a1 xs) (l2 : SeqK k2 s.heap a2 ys) (m1 : ∀ b ∈ [z, TO, i1, i2], a1 ≠ b) (m2 : ∀ b ∈ [z, TO, i1, i2], a2 ≠ b) (hend : xs[i]? = none ∨ ys[i]? = none)
    (hQ : ∀ h', (∀ c o, c ∉ [z, TO, i1, i2] → s.heap.get? c = some o → h'.get? c = some o) → Q none { s with heap := h' }) : wpAny (model prog w) A (pyNext (.ref z)) Q E s := by
  obtain ⟨hz, hTI, ⟨a, b, hTO⟩, h1, h2⟩ := Z
  have hT : s.TypeIs (.ref z) "zip" := ⟨_, hz, rfl⟩
  unfold pyNext; refine wpAny_bind (wpAny_attempt (wpAny_callSpecial?_slot (name := Str.ofString "__next__") hT F.slot_zip_next (wpAny_call_entry F.slot_zip_next hT F.entry_zip_next ?_ (F.args_zip_next_1 _))))
  show wpAny _ _ (field (.ref z) 2 >>= _) _ _ _; refine wpAny_bind (wpAny_field hz rfl (x := .bool false) rfl ?_)
  show wpAny _ _ (field (.ref z) 3 >>= _) _ _ _; refine wpAny_bind (wpAny_field hz rfl (x := .ref TI) rfl (wpAny_bind (wpAny_seqItems hTI rfl ?_)))
  show wpAny _ _ (Builtin.SmallTypes.ownedTupleIsFree (.ref z) >>= _) _ _ _; refine wpAny_bind ?_
  unfold Builtin.SmallTypes.ownedTupleIsFree; refine wpAny_bind (wpAny_field hz rfl (x := .none) rfl (wpAny_pure ?_)); simp only [if_true]
  refine wpAny_bind (wpAny_rule (wpAny_bind (wpAny_field hz rfl (x := .ref TO) rfl (wpAny_bind (wpAny_setField_rec hz (by simp) fun g1 hz1 hs1 => ?_)))))
  replace hz1 : IsZip g1 z TI TO .ellipsis := hz1
  refine wpAny_bind ?_; simp only [List.zipIdx_cons, List.zipIdx_nil, List.forIn_cons, List.forIn_nil]
  refine wpAny_bind (wpAny_bind (wpAny_onRaise ?_)); show wpAny _ _ (Builtin.SmallTypes.nextOf (.ref i1) >>= _) _ _ _
  cases hx : xs[i]? with
  | none =>
    refine wpAny_bind (nextK_end hh (h1.at fun o e => hs1.extBut _ o N.c e) (l1.at fun o e => hs1.extBut _ o (m1 z (by simp)) e) hx fun g2 e hs2 he => ?_)
    obtain ⟨oe, hoe, hce⟩ := he
    have hz2 : IsZip g2 z TI TO .ellipsis := hs2 _ _ (Ne.symm N.c) hz1
    have hez : e ≠ z := fun q => by subst q; rw [hz2] at hoe; cases hoe; exact absurd (Value.type.inj hce) (by decide)
    refine wpAny_setField_rec hz2 (by simp) fun g3 hz3 hs3 => ?_
    refine wpAny_bind (wpAny_isInstance (T := "StopIteration") (b := true) ⟨oe, hs3.extBut _ _ hez hoe, hce⟩ isSubtype_stop (wpAny_pure (hQ _ fun c o hc q => ?_)))
    exact hs3.extBut _ o (fun q => hc (by simp [q])) (hs2 _ o (fun q => hc (by simp [q])) (hs1.extBut _ o (fun q => hc (by simp [q])) q))
  | some x =>
    have hy : ys[i]? = none := by rcases hend with q | q; rw [hx] at q; cases q; exact q
    refine wpAny_bind (nextK_item (h1.at fun o e => hs1.extBut _ o N.c e) (l1.at fun o e => hs1.extBut _ o (m1 z (by simp)) e) hx fun g2 h12 hs2 => wpAny_pure ?_)
    have hTO2 : IsPair g2 TO a b := hs2.extBut _ _ N.h (hs1.extBut _ _ N.b hTO)
    refine wpAny_bind (wpAny_seqItems hTO2 rfl (wpAny_bind (wpAny_updateSeq_pair hTO2 fun g3 hTO3 hs3 => ?_)))
    have c23 : ∀ c o, c ∉ [z, TO, i1] → s.heap.get? c = some o → g3.get? c = some o := fun c o hc e => hs3.extBut _ o (fun q => hc (by simp [q])) (hs2.extBut _ o (fun q => hc (by simp [q])) (hs1.extBut _ o (fun q => hc (by simp [q])) e))
    refine wpAny_bind (wpAny_letGo (wpAny_pure ?_)); refine wpAny_bind (wpAny_bind (wpAny_onRaise ?_)); show wpAny _ _ (Builtin.SmallTypes.nextOf (.ref i2) >>= _) _ _ _
    refine wpAny_bind (nextK_end hh (h2.at fun o e => c23 _ o (by simp [N.d, Ne.symm N.i, Ne.symm N.j]) e) (l2.at fun o e => c23 _ o (by simp [m2 z (by simp), m2 TO (by simp), m2 i1 (by simp)]) e) hy fun g4 e hs4 he => ?_)
    obtain ⟨oe, hoe, hce⟩ := he
    have hz4 : IsZip g4 z TI TO .ellipsis := hs4 _ _ (Ne.symm N.d) (hs3.extBut _ _ (Ne.symm N.b) (hs2.extBut _ _ (Ne.symm N.c) hz1))
    have hez : e ≠ z := fun q => by subst q; rw [hz4] at hoe; cases hoe; exact absurd (Value.type.inj hce) (by decide)
    refine wpAny_setField_rec hz4 (by simp) fun g5 hz5 hs5 => ?_
    refine wpAny_bind (wpAny_isInstance (T := "StopIteration") (b := true) ⟨oe, hs5.extBut _ _ hez hoe, hce⟩ isSubtype_stop (wpAny_pure (hQ _ fun c o hc q => ?_)))
    exact hs5.extBut _ o (fun q => hc (by simp [q])) (hs4 _ o (fun q => hc (by simp [q])) (c23 c o (fun q => hc (by simp at q ⊢; rcases q with q | q | q <;> simp [q])) q))
abbrev zh (h : Heap) (o1 o2 : Obj) : Heap := ((((h.push o1).push o2).push { cls := .type "tuple", data := .seq #[.ref h.objs.size, .ref (h.push o1).objs.size] }).push { cls := .type "tuple", data := .seq #[.none, .none] }).push
  { cls := .type "zip", data := .fields #[.none, .bool false, .bool false, .ref ((h.push o1).push o2).objs.size, .ref (((h.push o1).push o2).push { cls := .type "tuple", data := .seq #[.ref h.objs.size, .ref (h.push o1).objs.size] }).objs.size] }
theorem zh_ok {k1 k2 : Bool} {a1 a2 : Addr} {h : Heap} {o1 o2 : Obj} (p1 : ∀ g : Heap, g.get? h.objs.size = some o1 → ItrK k1 g h.objs.size a1 0) (p2 : ∀ (g : Heap) (n : Addr), g.get? n = some o2 → ItrK k2 g n a2 0) (f1 : o1.isFreed = false) (f2 : o2.isFreed = false) :
    ZipAt k1 k2 (zh h o1 o2) (h.objs.size + 4) (h.objs.size + 2) (h.objs.size + 3) h.objs.size (h.objs.size + 1) a1 a2 0 ∧ (∀ c o, h.get? c = some o → (zh h o1 o2).get? c = some o) ∧ (zh h o1 o2).objs.size = h.objs.size + 5 := by
  have z1 : (h.push o1).objs.size = h.objs.size + 1 := Heap.size_push ..
  have z2 : ((h.push o1).push o2).objs.size = h.objs.size + 2 := by rw [Heap.size_push, z1]
  have z3 : (((h.push o1).push o2).push { cls := .type "tuple", data := .seq #[.ref h.objs.size, .ref (h.push o1).objs.size] }).objs.size = h.objs.size + 3 := by rw [Heap.size_push, z2]
  have z4 : ((((h.push o1).push o2).push { cls := .type "tuple", data := .seq #[.ref h.objs.size, .ref (h.push o1).objs.size] }).push { cls := .type "tuple", data := .seq #[.none, .none] }).objs.size = h.objs.size + 4 := by rw [Heap.size_push, z3]
  have q5 : (zh h o1 o2).get? (h.objs.size + 4) = some _ := z4 ▸ Heap.get?_push_size _ rfl
  have q4 : (zh h o1 o2).get? (h.objs.size + 3) = some _ := z3 ▸ Heap.get?_push_of_some _ (Heap.get?_push_size _ rfl)
  have q3 : (zh h o1 o2).get? (h.objs.size + 2) = some _ := z2 ▸ Heap.get?_push_of_some _ (Heap.get?_push_of_some _ (Heap.get?_push_size _ rfl))
  have q2 : (zh h o1 o2).get? (h.objs.size + 1) = some o2 := z1 ▸ Heap.get?_push_of_some _ (Heap.get?_push_of_some _ (Heap.get?_push_of_some _ (Heap.get?_push_size _ f2)))
  have q1 : (zh h o1 o2).get? h.objs.size = some o1 := Heap.get?_push_of_some _ (Heap.get?_push_of_some _ (Heap.get?_push_of_some _ (Heap.get?_push_of_some _ (Heap.get?_push_size _ f1))))
  rw [z2, z3] at q5
  rw [z1] at q3
  exact ⟨⟨q5, q3, ⟨_, _, q4⟩, p1 _ q1, p2 _ _ q2⟩, fun c o e => Heap.get?_push_of_some _ (Heap.get?_push_of_some _ (Heap.get?_push_of_some _ (Heap.get?_push_of_some _ (Heap.get?_push_of_some _ e)))), by rw [Heap.size_push, z4]⟩
theorem zipK_new {k1 k2 : Bool} {a1 a2 : Addr} {xs ys : Array Value} :
    PySem.Meets (Builtin.«zip.__new__» ⟨[.type "zip", .ref a1, .ref a2], []⟩) (fun _ R s => SeqK k1 s.heap a1 xs ∧ SeqK k2 s.heap a2 ys ∧
      ∀ h', ZipAt k1 k2 h' (s.heap.objs.size + 4) (s.heap.objs.size + 2) (s.heap.objs.size + 3) s.heap.objs.size (s.heap.objs.size + 1) a1 a2 0 → (∀ c o, s.heap.get? c = some o → h'.get? c = some o) → h'.objs.size = s.heap.objs.size + 5 → R (.ok (.ret (.ref (s.heap.objs.size + 4)))) { s with heap := h' }) :=
  .of_wp fun prog w A R s hq => by
    obtain ⟨hp, g, d, tk, os⟩ := s
    obtain ⟨hl1, hl2, hr⟩ := hq
    have hsub := sub_zip
    have fin : ∀ {o1 o2 : Obj}, (∀ g : Heap, g.get? hp.objs.size = some o1 → ItrK k1 g hp.objs.size a1 0) → (∀ (g : Heap) (n : Addr), g.get? n = some o2 → ItrK k2 g n a2 0) → o1.isFreed = false → o2.isFreed = false →
        R (.ok (.ret (.ref ((((hp.push o1).push o2).push { cls := .type "tuple", data := .seq #[.ref hp.objs.size, .ref (hp.push o1).objs.size] }).push { cls := .type "tuple", data := .seq #[.none, .none] }).objs.size))) ⟨zh hp o1 o2, g, d, tk, os⟩ := fun {o1 o2} p1 p2 f1 f2 => by
      obtain ⟨A, B, C⟩ := zh_ok p1 p2 f1 f2
      have e : ((((hp.push o1).push o2).push { cls := .type "tuple", data := .seq #[.ref hp.objs.size, .ref (hp.push o1).objs.size] }).push { cls := .type "tuple", data := .seq #[.none, .none] }).objs.size = hp.objs.size + 4 := by
        rw [Heap.size_push, Heap.size_push, Heap.size_push, Heap.size_push]
      rw [e]
      exact hr _ A B C
    cases k1 with
    | true =>
      have L1 : Heap.IsList (Shared.heap ⟨hp, g, d, tk, os⟩) a1 xs := hl1
      cases k2 with
      | true =>
        have L2 : Heap.IsList (Shared.heap ⟨hp.push { cls := .type "list_iterator", data := .fields #[.ref a1, .int 0 0] }, g, d, tk, os⟩) a2 ys := Heap.IsList.push hl2 _
        wp_walk using wpAny_pyIter_list L1, wpAny_pyIter_list L2
        exact ⟨_, rfl, fin (fun g e => ⟨_, e, rfl, rfl⟩) (fun g n e => ⟨_, e, rfl, rfl⟩) rfl rfl⟩
      | false =>
        have L2 : Heap.IsTuple (Shared.heap ⟨hp.push { cls := .type "list_iterator", data := .fields #[.ref a1, .int 0 0] }, g, d, tk, os⟩) a2 ys := Heap.IsTuple.push hl2 _
        wp_walk using wpAny_pyIter_list L1, wpAny_pyIter_tuple L2
        exact ⟨_, rfl, fin (fun g e => ⟨_, e, rfl, rfl⟩) (fun g n e => ⟨_, e, rfl, rfl⟩) rfl rfl⟩
    | false =>
      have L1 : Heap.IsTuple (Shared.heap ⟨hp, g, d, tk, os⟩) a1 xs := hl1
      cases k2 with
      | true =>
        have L2 : Heap.IsList (Shared.heap ⟨hp.push { cls := .type "tuple_iterator", data := .fields #[.ref a1, .int 0 0] }, g, d, tk, os⟩) a2 ys := Heap.IsList.push hl2 _
        wp_walk using wpAny_pyIter_tuple L1, wpAny_pyIter_list L2
        exact ⟨_, rfl, fin (fun g e => ⟨_, e, rfl, rfl⟩) (fun g n e => ⟨_, e, rfl, rfl⟩) rfl rfl⟩
      | false =>
        have L2 : Heap.IsTuple (Shared.heap ⟨hp.push { cls := .type "tuple_iterator", data := .fields #[.ref a1, .int 0 0] }, g, d, tk, os⟩) a2 ys := Heap.IsTuple.push hl2 _
        wp_walk using wpAny_pyIter_tuple L1, wpAny_pyIter_tuple L2
        exact ⟨_, rfl, fin (fun g e => ⟨_, e, rfl, rfl⟩) (fun g n e => ⟨_, e, rfl, rfl⟩) rfl rfl⟩
theorem call_zipK {k1 k2 : Bool} {a1 a2 : Addr} {xs ys : Array Value} {Q : Value → Shared → Prop} (h1 : SeqK k1 s.heap a1 xs) (h2 : SeqK k2 s.heap a2 ys)
    (h : ∀ h', ZipAt k1 k2 h' (s.heap.objs.size + 4) (s.heap.objs.size + 2) (s.heap.objs.size + 3) s.heap.objs.size (s.heap.objs.size + 1) a1 a2 0 → (∀ c o, s.heap.get? c = some o → h'.get? c = some o) → h'.objs.size = s.heap.objs.size + 5 →
      Q (.ref (s.heap.objs.size + 4)) { s with heap := h' }) : wpAny (model prog w) A (call (.type "zip") [.ref a1, .ref a2]) Q E s := by
  refine callType_new F.called_zip (by decide) (F.typeCall_zip_2 _ _) (F.newCall_zip_2 _ _) (fun obj => F.args_object_init_3 obj _ _) F.entry_zip_new (zipK_new (k1 := k1) (k2 := k2) (xs := xs) (ys := ys)) ⟨h1, h2, fun h' Z k z => ?_⟩
  exact ⟨⟨_, Z.zz, rfl⟩, h h' Z k z⟩
end

theorem Inv.seqK {X : Cx} {pins : List (Addr × Obj)} {σ : St} {H : Hp} {s : Shared} {kd : Bool} {a : Addr} {xs : List V} (I : Inv X pins σ H s) (h : SqK X.K kd H a xs) : ∃ its : List Value, Vals xs its ∧ SeqK kd s.heap a its.toArray ∧ xs.length ≤ sizeLine := by
  cases kd with
  | true => obtain ⟨its, r, p, z⟩ := I.list h; exact ⟨its, r, p.isList, z⟩
  | false => obtain ⟨its, r, p, z⟩ := I.tuple h; exact ⟨its, r, p, z⟩
theorem Inv.seqK_inj {X : Cx} {pins : List (Addr × Obj)} {σ : St} {H : Hp} {s : Shared} {kd : Bool} {a : Addr} {xs ys : List V} (I : Inv X pins σ H s) (h : SqK X.K kd H a xs) (h' : SqK X.K kd H a ys) : xs = ys := by
  cases kd with
  | true => exact I.list_inj h h'
  | false => exact I.tuple_inj h h'
theorem SqK.ne_fp {X : Cx} {pins : List (Addr × Obj)} {σ : St} {H : Hp} {s : Shared} {kd : Bool} {a b : Addr} {xs : List V} (I : Inv X pins σ H s) (h : SqK X.K kd H a xs) (f : FpOk X pins H b) : a ≠ b := fun z => by
  have kk : ∀ o, X.K.lookup a = some o → False := fun o e => by
    have e' := I.mod.kin a o e
    rcases f.2.2.2.1 with q | q
    · exact I.ok.noex a o e' (by rw [z]; exact q)
    · have := Heap.lt_size (I.ok.bs a o e').1
      rw [z] at this
      exact Nat.lt_irrefl _ (Nat.lt_of_lt_of_le this q)
  cases kd with
  | true =>
    rcases (show SqL X.K H a xs from h) with (q | ⟨o, q⟩) | ⟨o, _, _, q, _⟩
    · rw [z, f.1] at q; cases q
    · rw [z, f.1] at q; cases q
    · exact kk o q
  | false =>
    rcases (show SqT X.K H a xs from h) with (q | ⟨o, q⟩) | ⟨o, _, _, q, _⟩
    · rw [z, f.1] at q; cases q
    · rw [z, f.1] at q; cases q
    · exact kk o q
def Itz (K : PySem.W.Frag) (k1 k2 : Bool) (a1 a2 : Addr) : It :=
  ⟨fun i H => ∃ xs ys x y, SqK K k1 H a1 xs ∧ SqK K k2 H a2 ys ∧ xs[i]? = some x ∧ ys[i]? = some y,
   fun i H x H' => ∃ T u v, x = .ref T ∧ H T = none ∧ H' = upd H T (.tup [u, v]) ∧ (∀ xs, SqK K k1 H a1 xs → xs[i]? = some u) ∧ ∀ ys, SqK K k2 H a2 ys → ys[i]? = some v,
   fun i H => ∃ xs ys, SqK K k1 H a1 xs ∧ SqK K k2 H a2 ys ∧ (xs.length ≤ i ∨ ys.length ≤ i)⟩
theorem turn_zip {P : Program} {w : World} {K : PySem.W.Frag} {elts : List Expr} {kk : Nat} {pos : Pos} {k1 k2 : Bool} {a1 a2 z TI TO i1 i2 : Addr} (N : ZipNe z TI TO i1 i2) :
    Turn P w K (.Tuple elts kk pos) (Itz K k1 k2 a1 a2) [z, TI, TO, i1, i2] z (fun i h => ZipAt k1 k2 h z TI TO i1 i2 a1 a2 i) where
  mem := by simp
  obj := fun i h Z b hb => by
    obtain ⟨a, b', q⟩ := Z.to
    have e1 := Z.r1.obj
    have e2 := Z.r2.obj
    simp only [List.mem_cons, List.not_mem_nil, or_false] at hb
    rcases hb with r | r | r | r | r
    · subst r; exact ⟨_, Z.zz, fun v q => nomatch q⟩
    · subst r; exact ⟨_, Z.ti, fun v q => nomatch q⟩
    · subst r; exact ⟨_, q, fun v q => nomatch q⟩
    · subst r; obtain ⟨o, e, _, d⟩ := e1; exact ⟨o, e, d⟩
    · subst r; obtain ⟨o, e, _, d⟩ := e2; exact ⟨o, e, d⟩
  keep := fun i h h' Z k => by
    obtain ⟨a, b', q⟩ := Z.to
    exact ⟨k _ (by simp) _ Z.zz, k _ (by simp) _ Z.ti, ⟨a, b', k _ (by simp) _ q⟩, Z.r1.at fun o e => k _ (by simp) o e, Z.r2.at fun o e => k _ (by simp) o e⟩
  item := by
    intro X hP hw hK hc i pins s σ H E I hf Z hg
    subst hP hw hK
    obtain ⟨xs, ys, x, y, hq1, hq2, hx, hy⟩ := hg
    obtain ⟨its1, rv1, p1, hz1⟩ := I.seqK hq1
    obtain ⟨its2, rv2, p2, hz2⟩ := I.seqK hq2
    obtain ⟨u1, hu1, ru1⟩ := rv1.get hx
    obtain ⟨u2, hu2, ru2⟩ := rv2.get hy
    have sub : ∀ b ∈ [z, TO, i1, i2], b ∈ [z, TI, TO, i1, i2] := fun b hb => by
      simp only [List.mem_cons, List.not_mem_nil, or_false] at hb ⊢
      rcases hb with r | r | r | r <;> simp [r]
    refine zipK_next N Z p1 p2 (fun b hb => hq1.ne_fp I (hf b (sub b hb))) (fun b hb => hq2.ne_fp I (hf b (sub b hb))) (by simpa using hu1) (by simpa using hu2) fun h1 zz ti to r1 r2 hT hsz hk => ?_
    refine ⟨_, rfl, wpAny_letOwnedTupleGo_zip zz fun h2 zz2 hs2 => ?_⟩
    have zl : z < s.heap.objs.size := Heap.lt_size Z.zz
    obtain ⟨ta, tb, to⟩ := to
    refine ⟨.ref s.heap.objs.size, upd H s.heap.objs.size (.tup [x, y]), ?_, rfl, ⟨_, x, y, rfl, I.hok.fresh (Nat.le_refl _), rfl, fun xs' h' => by rw [I.seqK_inj h' hq1]; exact hx, fun ys' h' => by rw [I.seqK_inj h' hq2]; exact hy⟩,
      ⟨zz2, hs2.extBut _ _ N.a ti, ⟨ta, tb, hs2.extBut _ _ N.b to⟩, r1.at fun o e => hs2.extBut _ o N.c e, r2.at fun o e => hs2.extBut _ o N.d e⟩, fun b hb => ?_⟩
    · exact inv_tup (s := s) (h' := h2) (t' := s.toks) (ch := [z, TO, i1, i2]) (its := [u1, u2]) I (fun b hb => hf b (sub b hb)) (Nat.le_refl _) (fun b o hb e => hs2.extBut _ o (fun q => hb (by simp [q])) (hk b o hb e)) (by rw [sizeLine_eq]; exact (by decide : 2 ≤ 16777216)) (.cons ru1 (.cons ru2 .nil))
        ⟨_, hs2.extBut _ _ (Nat.ne_of_gt zl) hT, rfl, 0, rfl⟩
    · have hb' : b < s.heap.objs.size := by
        have e1 := Z.r1.obj
        have e2 := Z.r2.obj
        obtain ⟨a, b', q⟩ := Z.to
        simp only [List.mem_cons, List.not_mem_nil, or_false] at hb
        rcases hb with r | r | r | r | r
        · subst r; exact zl
        · subst r; exact Heap.lt_size Z.ti
        · subst r; exact Heap.lt_size q
        · subst r; obtain ⟨o, e, _⟩ := e1; exact Heap.lt_size e
        · subst r; obtain ⟨o, e, _⟩ := e2; exact Heap.lt_size e
      rw [upd_ne (Nat.ne_of_lt hb')]
      exact (hf b hb).1
  done := by
    intro X hP hw hK hc i pins s σ H E I hf Z hg
    subst hP hw hK
    obtain ⟨xs, ys, hq1, hq2, hle⟩ := hg
    obtain ⟨its1, rv1, p1, hz1⟩ := I.seqK hq1
    obtain ⟨its2, rv2, p2, hz2⟩ := I.seqK hq2
    have sub : ∀ b ∈ [z, TO, i1, i2], b ∈ [z, TI, TO, i1, i2] := fun b hb => by
      simp only [List.mem_cons, List.not_mem_nil, or_false] at hb ⊢
      rcases hb with r | r | r | r <;> simp [r]
    have tr : ∀ b u, H b = some u → b ∉ [z, TO, i1, i2] := fun b u e hb => by rw [(hf b (sub b hb)).1] at e; cases e
    refine zipK_end (I.ok.hd hc) N Z p1 p2 (fun b hb => hq1.ne_fp I (hf b (sub b hb))) (fun b hb => hq2.ne_fp I (hf b (sub b hb))) ?_ fun h' hk => ⟨rfl, ?_⟩
    · have l1 := rv1.length
      have l2 := rv2.length
      rcases hle with q | q
      · exact .inl (by simp; omega)
      · exact .inr (by simp; omega)
    · refine I.step (g' := s.gens) (d' := s.drawn) (t' := s.toks) (ch := [z, TO, i1, i2]) (fun b hb => ?_) (fun b o _ _ hc e _ => hk b o hc e) (fun b o _ _ hc e _ => ⟨o.slots, hk b o hc e⟩) (fun _ _ _ _ n => n) (fun b o hc e => ⟨o, hk b o hc e⟩)
        (fun _ _ e => e) (fun _ _ _ e => e) (fun b ps e => ⟨#[], by rw [e]; simp⟩) (fun m hm => ?_) (fun b u e => ?_) I.bare
      · obtain ⟨_, g1, _, g3, g4, g5⟩ := hf b (sub b hb)
        exact ⟨g3, g1, g4, g5⟩
      · obtain ⟨o, es, ep, ho, r⟩ := hm
        exact ⟨o, es, ep, hk _ o (fun z => (hf _ (sub _ z)).2.1 rfl) ho, r⟩
      · refine (I.hok b u e).stay (fun c v hc q => hk c v ?_ q) (fun _ q => q) fun _ _ q => q
        rcases hc with z | z
        · rw [z]; exact tr b u e
        · exact tr c _ z
  self := fun _ _ _ _ _ Z h => wpAny_pyIter_zip Z.zz h
section
variable {X : Cx}
def iZip (K : PySem.W.Frag) (ta : TA) : TI := fun σ H R => ta σ H fun vs H1 => ∃ k1 k2 a1 a2, vs = [.ref a1, .ref a2] ∧ (∃ xs, SqK K k1 H1 a1 xs) ∧ (∃ ys, SqK K k2 H1 a2 ys) ∧ R (Itz K k1 k2 a1 a2) H1
theorem pi_zip {l m : Expr} {ta : TA} {p pos tp : Pos} {elts : List Expr} {kk : Nat} (hg : Gl X "zip") (hm : X.mg "zip" = none) (ha : PA X [l, m] ta) (hs : starEach [l, m] X.env = [(false, eval l X.env), (false, eval m X.env)] := by rfl) (hs2 : starEach [m] X.env = [(false, eval m X.env)] := by rfl) :
    PI X (.Tuple elts kk tp) (.Call (.Name "zip" p) [l, m] [] pos) (iZip X.K ta) := by
  intro pins s σ H R I h
  refine Call_ (ld_blt I hg hm boot_zip (PyProof.Rows.callWith_type1 (thn (ha pos pins s σ H _ I h) fun us s1 ⟨vs, H1, I1, r1, q1⟩ => ?_) (by rw [hs, hs2]) (by rw [hs2]; rfl)))
  obtain ⟨k1, k2, a1, a2, e, ⟨xs, hq1⟩, ⟨ys, hq2⟩, q⟩ := q1
  subst e
  obtain ⟨u, u', rfl, ru, ru'⟩ := vals2 r1
  cases ru
  cases ru'
  obtain ⟨its1, rv1, p1, hz1⟩ := I1.seqK hq1
  obtain ⟨its2, rv2, p2, hz2⟩ := I1.seqK hq2
  refine call_zipK p1 p2 fun h' Z hk hsz => wpAny_pyIter_zip Z.zz ?_
  have I2 : Inv X pins σ H1 { s1 with heap := h' } := I1.kept (t' := s1.toks) hk
  have N : ZipNe (s1.heap.objs.size + 4) (s1.heap.objs.size + 2) (s1.heap.objs.size + 3) s1.heap.objs.size (s1.heap.objs.size + 1) := by
    constructor <;> (intro e; have e' : (_ : Nat) = _ := e; omega)
  refine ⟨s1.heap.objs.size + 4, _, _, _, H1, rfl, I2, turn_zip N, Z, fun b hb => ?_, q⟩
  have hb' : s1.heap.objs.size ≤ b := by
    simp only [List.mem_cons, List.not_mem_nil, or_false] at hb
    rcases hb with r | r | r | r | r <;> (rw [r]; first | exact Nat.le_add_right _ _ | exact Nat.le_refl _)
  exact I1.fpOk hb' (I1.hok.fresh hb')
end
end L2

set_option Elab.async false
set_option linter.all false
set_option maxRecDepth 100000
set_option maxHeartbeats 4000000
namespace L2
open PySem PySem.Spec PyProof.Rows

/-! ## isinstance against built-in types -/
def TyN (K : PySem.W.Frag) (H : Hp) (x : V) (T : String) : Prop := match x with
  | .non => T = "NoneType"
  | .bl _ => T = "bool"
  | .int _ => T = "int"
  | .str _ => T = "str"
  | .ref a => (T = "list" ∧ ∃ xs, SqL K H a xs) ∨ (T = "tuple" ∧ ∃ xs, SqT K H a xs)
  | _ => False
def subT (T C : String) : Bool := T == C || (T == "bool" && C == "int")
def tyNames : List String := ["NoneType", "bool", "int", "str", "list", "tuple"]
def clNames : List String := ["bool", "int", "str", "list", "tuple", "dict"]
theorem kit_sub {K : PySem.W.Frag} : ∀ T ∈ tyNames, ∀ C ∈ clNames, PySem.W.kitOne K (.type T) (.type C) = some (subT T C) := by
  intro T hT C hC
  simp only [tyNames, clNames, List.mem_cons, List.not_mem_nil, or_false] at hT hC
  rcases hT with rfl | rfl | rfl | rfl | rfl | rfl <;> rcases hC with rfl | rfl | rfl | rfl | rfl | rfl <;> kernel_rfl
theorem kit_subs {K : PySem.W.Frag} {T : String} (hT : T ∈ tyNames) : ∀ {Cs : List String}, (∀ C ∈ Cs, C ∈ clNames) → PySem.W.kitAny K (.type T) (Cs.map Value.type) = some (Cs.any fun C => subT T C)
  | [], _ => rfl
  | C :: r, h => by
    have ih := kit_subs (K := K) hT (Cs := r) fun C' hC => h C' (List.mem_cons_of_mem _ hC)
    show (match PySem.W.kitOne K (.type T) (.type C) with | some true => some true | some false => PySem.W.kitAny K (.type T) (r.map Value.type) | none => none) = _
    rw [kit_sub T hT C (h C List.mem_cons_self), List.any_cons]
    cases subT T C with
    | true => rfl
    | false => rw [ih]; rfl
theorem TyN.mem {K : PySem.W.Frag} {H : Hp} {x : V} {T : String} (h : TyN K H x T) : T ∈ tyNames := by
  cases x with
  | non => cases (show T = _ from h); decide
  | bl _ => cases (show T = _ from h); decide
  | int _ => cases (show T = _ from h); decide
  | str _ => cases (show T = _ from h); decide
  | ref a => rcases (show _ ∨ _ from h) with ⟨e, _⟩ | ⟨e, _⟩ <;> (subst e; decide)
  | _ => exact (show False from h).elim
section
variable {X : Cx} {pins : List (Addr × Obj)} {σ : St} {H : Hp} {s : Shared}
theorem kitx_at {x : V} {u : Value} {T : String} (I : Inv X pins σ H s) (rx : RelV x u) (ty : TyN X.K H x T) : ∃ P : Heap → Prop, P s.heap ∧ PySem.W.KitX X.K u (.type T) P ∧ u ≠ .builtin "__main__.__loader__#opaque" := by
  cases x with
  | non => cases (show u = Value.none from rx); cases (show T = _ from ty); exact ⟨_, True.intro, PySem.W.kitx_none, fun z => nomatch z⟩
  | bl y => cases (show u = Value.bool y from rx); cases (show T = _ from ty); exact ⟨_, True.intro, PySem.W.kitx_bool, fun z => nomatch z⟩
  | int i => obtain ⟨t, q⟩ := (show ∃ t, u = Value.int i t from rx); cases q; cases (show T = _ from ty); exact ⟨_, True.intro, PySem.W.kitx_int, fun z => nomatch z⟩
  | str y => obtain ⟨t, q⟩ := (show ∃ t, u = Value.str y t from rx); cases q; cases (show T = _ from ty); exact ⟨_, True.intro, PySem.W.kitx_str, fun z => nomatch z⟩
  | ref a =>
    cases (show u = Value.ref a from rx)
    rcases (show _ ∨ _ from ty) with ⟨e, xs, hx⟩ | ⟨e, xs, hx⟩
    · subst e
      obtain ⟨its, r, ⟨o, n, e1, e2, _⟩, _⟩ := I.list hx
      exact ⟨_, ⟨o, e1, e2⟩, PySem.W.kitx_list, fun z => nomatch z⟩
    · subst e
      obtain ⟨its, r, ⟨o, e1, e2, _⟩, _⟩ := I.tuple hx
      exact ⟨_, ⟨o, e1, e2⟩, PySem.W.kitx_tuple, fun z => nomatch z⟩
  | _ => exact (show False from ty).elim
end
section
variable {X : Cx}
theorem vals_ty : ∀ {Cs : List String} {us : List Value}, Vals (Cs.map V.ty) us → us = Cs.map Value.type
  | [], us, r => by cases r; rfl
  | C :: r, us, h => by
    cases h with
    | cons h1 h2 => rw [vals_ty h2, show _ = Value.type C from h1]; rfl
theorem call_isi : CallR X (.builtin "isinstance") (fun xs H Q => ∃ x T C, xs = [x, .ty C] ∧ TyN X.K H x T ∧ C ∈ clNames ∧ Q (.bl (subT T C)) H) := by
  intro pins s σ H xs us Q I r h
  obtain ⟨x, T, C, rfl, ty, hC, q⟩ := h
  obtain ⟨u, w', rfl, ru, rw'⟩ := vals2 r
  cases (show w' = Value.type C from rw')
  obtain ⟨P, hP, Z, hn⟩ := kitx_at I ru ty
  exact PySem.W.kia_one Z I.kIn hP (kit_sub T ty.mem C hC) hn fun tk => ⟨.bl _, H, I.tok tk, rfl, q⟩
theorem call_isiT : CallR X (.builtin "isinstance") (fun xs H Q => ∃ (x : V) (T : String) (p : Addr) (Cs : List String), xs = [x, .ref p] ∧ TyN X.K H x T ∧ H p = some (.tup (Cs.map V.ty)) ∧ (∀ C ∈ Cs, C ∈ clNames) ∧ Q (.bl (Cs.any fun C => subT T C)) H) := by
  intro pins s σ H xs us Q I r h
  obtain ⟨x, T, p, Cs, rfl, ty, hp, hC, q⟩ := h
  obtain ⟨u, w', rfl, ru, rw'⟩ := vals2 r
  cases (show w' = Value.ref p from rw')
  obtain ⟨P, hP, Z, hn⟩ := kitx_at I ru ty
  obtain ⟨its, r', ⟨o, e1, e2, n, e3⟩, _⟩ := I.tuple (SqT.of hp)
  obtain ⟨c, dd, dt, sl⟩ := o
  have e2 : c = .type "tuple" := e2
  have e3 : dt = .seq its.toArray n := e3
  subst e2 e3
  rw [vals_ty r'] at e1
  exact PySem.W.kia_tup Z I.kIn hP e1 (kit_subs ty.mem hC) hn fun tk => ⟨.bl _, H, I.tok tk, rfl, q⟩
end

/-! ## plain data -/
inductive Dat where
  | non | bl (b : Bool) | int (i : Int) | str (x : Str) | lst (ds : List Dat) | tup (ds : List Dat)
mutual
/-- the value v stands for the data -/
def Rep (K : PySem.W.Frag) (H : Hp) : Dat → V → Prop
  | .non, v => v = .non
  | .bl b, v => v = .bl b
  | .int i, v => v = .int i
  | .str x, v => v = .str x
  | .lst ds, v => ∃ a xs, v = .ref a ∧ SqL K H a xs ∧ Reps K H ds xs
  | .tup ds, v => ∃ a xs, v = .ref a ∧ SqT K H a xs ∧ Reps K H ds xs
def Reps (K : PySem.W.Frag) (H : Hp) : List Dat → List V → Prop
  | [], xs => xs = []
  | d :: ds, xs => ∃ x r, xs = x :: r ∧ Rep K H d x ∧ Reps K H ds r
end
mutual
def Dat.dp : Dat → Nat
  | .lst ds => Dat.dps ds + 1
  | .tup ds => Dat.dps ds + 1
  | _ => 0
def Dat.dps : List Dat → Nat
  | [] => 0
  | d :: ds => max d.dp (Dat.dps ds)
end
theorem Same.sqT {K : PySem.W.Frag} {H H' : Hp} {a : Addr} {xs : List V} (e : Same H H') (h : SqT K H a xs) : SqT K H' a xs := by
  rcases h with (h | ⟨o, h⟩) | h
  · exact .inl (.inl (e _ _ h))
  · exact .inl (.inr ⟨o, e _ _ h⟩)
  · exact .inr h
mutual
theorem Rep.same {K : PySem.W.Frag} {H H' : Hp} (e : Same H H') : ∀ {d : Dat} {v : V}, Rep K H d v → Rep K H' d v
  | .non, _, h => h
  | .bl _, _, h => h
  | .int _, _, h => h
  | .str _, _, h => h
  | .lst _, _, h => by
    obtain ⟨a, xs, e1, e2, e3⟩ := h
    exact ⟨a, xs, e1, e.seq e2, Reps.same e e3⟩
  | .tup _, _, h => by
    obtain ⟨a, xs, e1, e2, e3⟩ := h
    exact ⟨a, xs, e1, e.sqT e2, Reps.same e e3⟩
theorem Reps.same {K : PySem.W.Frag} {H H' : Hp} (e : Same H H') : ∀ {ds : List Dat} {xs : List V}, Reps K H ds xs → Reps K H' ds xs
  | [], _, h => h
  | _ :: _, _, h => by
    obtain ⟨x, r, e1, e2, e3⟩ := h
    exact ⟨x, r, e1, Rep.same e e2, Reps.same e e3⟩
end
theorem Reps.len {K : PySem.W.Frag} {H : Hp} : ∀ {ds : List Dat} {xs : List V}, Reps K H ds xs → xs.length = ds.length
  | [], _, h => by rw [show _ = _ from h]; rfl
  | _ :: _, _, h => by
    obtain ⟨x, r, e1, e2, e3⟩ := h
    rw [e1, List.length_cons, List.length_cons, Reps.len e3]
theorem Reps.get {K : PySem.W.Frag} {H : Hp} : ∀ {ds : List Dat} {xs : List V} {i : Nat} {x : V}, Reps K H ds xs → xs[i]? = some x → ∃ d, ds[i]? = some d ∧ Rep K H d x
  | [], _, _, _, h, e => by rw [show _ = _ from h] at e; simp at e
  | d :: ds, _, i, x, h, e => by
    obtain ⟨y, r, e1, e2, e3⟩ := h
    subst e1
    cases i with
    | zero => simp at e; subst e; exact ⟨d, rfl, e2⟩
    | succ i =>
      obtain ⟨d', q1, q2⟩ := Reps.get (i := i) e3 (by simpa using e)
      exact ⟨d', by simpa using q1, q2⟩
theorem same_upd {H : Hp} {a : Addr} {o : HO} (h : H a = none) : Same H (upd H a o) := fun b u e => by rw [upd_ne (ne_of_none e h)]; exact e

/-! ## == and != of flat tuples -/
def eqVs : List V → List V → Bool
  | [], [] => true
  | x :: xs, y :: ys => eqV x y && eqVs xs ys
  | _, _ => false
theorem eqVs_range : ∀ (xs ys : List V), (((List.range (min xs.length ys.length)).all fun j => eqV (xs.getD j .non) (ys.getD j .non)) && (xs.length == ys.length)) = eqVs xs ys
  | [], [] => rfl
  | [], y :: ys => by simp [eqVs]
  | x :: xs, [] => by simp [eqVs]
  | x :: xs, y :: ys => by
    have ih := eqVs_range xs ys
    have e1 : min (x :: xs).length (y :: ys).length = min xs.length ys.length + 1 := by simp only [List.length_cons]; omega
    rw [e1, List.range_succ_eq_map, List.all_cons, List.all_map]
    unfold eqVs
    rw [← ih, Bool.and_assoc]
    congr 1
    have e2 : ((x :: xs).length == (y :: ys).length) = (xs.length == ys.length) := by
      rw [Bool.eq_iff_iff]; simp
    rw [e2]
    congr 1
def rEqT (K : PySem.W.Frag) (neg : Bool) : R2 := fun x y H Q => ∃ a b xs ys, x = .ref a ∧ y = .ref b ∧ SqT K H a xs ∧ SqT K H b ys ∧ xs.all flatV = true ∧ ys.all flatV = true ∧ Q (.bl (if neg then !eqVs xs ys else eqVs xs ys)) H
section
variable {X : Cx}
theorem op_eqT (hu : X.A.units < cLine) : OpR X (compareOp .Eq) (rEqT X.K false) := by
  intro pins s σ H x y v u Q I rx ry h
  obtain ⟨a, b, xs, ys, rfl, rfl, hx, hy, fx, fy, q⟩ := h
  cases rx
  cases ry
  obtain ⟨its1, r1, p1, z1⟩ := I.tuple hx
  obtain ⟨its2, r2, p2, z2⟩ := I.tuple hy
  have l1 := r1.length
  have l2 := r2.length
  refine SeqAt.eq_tupleAt (e := fun j => eqV (xs.getD j .non) (ys.getD j .non)) p1 p2 hu (fun j h1 h2 => ?_) ⟨.bl _, H, I, rfl, ?_⟩
  · have h1' : j < xs.length := by rw [List.size_toArray] at h1; omega
    have h2' : j < ys.length := by rw [List.size_toArray] at h2; omega
    obtain ⟨w1, e1, q1⟩ := r1.get (i := j) (x := xs[j]) (by simp [h1'])
    obtain ⟨w2, e2, q2⟩ := r2.get (i := j) (x := ys[j]) (by simp [h2'])
    have g1 : its1.toArray[j] = w1 := by simpa using (List.getElem?_eq_some_iff.mp e1).2
    have g2 : its2.toArray[j] = w2 := by simpa using (List.getElem?_eq_some_iff.mp e2).2
    rw [g1, g2, show xs.getD j .non = xs[j] by simp [h1'], show ys.getD j .non = ys[j] by simp [h2']]
    exact eqAt_V q1 q2 (List.all_eq_true.mp fx _ (List.getElem_mem h1')) (List.all_eq_true.mp fy _ (List.getElem_mem h2'))
  · rw [List.size_toArray, List.size_toArray, ← l1, ← l2, eqVs_range]
    exact q
end
end L2

set_option Elab.async false
set_option linter.all false
set_option maxRecDepth 100000
set_option maxHeartbeats 4000000
namespace L2
open PySem PySem.Spec PyProof.Rows
section
variable {X : Cx}
end

/-! ## a def by its name -/
structure Dfn (P : Program) (w : World) (K : PySem.W.Frag) (mg : Str → Option Value) (base : Heap) (x : Str) (k : Nat) (ps : List Str) (sp : Sp) : Prop where
  ex : ∃ f fd, FnOk P w K mg base CX0 k f fd ps sp ∧ mg x = some (.ref f) ∧ PySem.W.keepIn K (.ref f) = true ∧ Binds K fd ps []
section
variable {X : Cx} {x : Str} {k : Nat} {ps : List Str} {sp : Sp} {p pos : Pos} {e : Expr} {es : List Expr} {t : TA}
theorem pe_callD (D : Dfn X.prog X.w X.K X.mg X.base x k ps sp) (hr : Room k X.A) (hg : Gl X x) (ha : PA X (e :: es) t) (hd : (x == ("__debug__" : Str)) = false := by decide)
    (hs : starEach (e :: es) X.env = (false, eval e X.env) :: starEach es X.env := by rfl) (hpl : (backTo pos (starEach es X.env)).any (·.1) = false := by rfl) : PE X (.Call (.Name x p) (e :: es) [] pos) (tCall sp [] E0 t) := by
  obtain ⟨f, fd, F, hm, hk, hb⟩ := D.ex
  exact pe_call F hr hg hm hk hb .nil pass0 ha hd hs hpl
end
end L2

set_option Elab.async false
set_option linter.all false
set_option maxRecDepth 100000
set_option maxHeartbeats 4000000
namespace L2
open PySem PySem.Spec PyProof.Rows
theorem ifT {b : Bool} {A B : Prop} (h : b = true) (q : A) : if b = true then A else B := by rw [if_pos h]; exact q
theorem ifF {b : Bool} {A B : Prop} (h : b = false) (q : B) : if b = true then A else B := by rw [if_neg (by rw [h]; exact Bool.false_ne_true)]; exact q
theorem lc_zip {K : PySem.W.Frag} {k1 k2 : Bool} {a1 a2 : Addr} {xs ys : List V} {g : TG} {tf : TT} {te : TE} {σ0 : St} {n : Nat} {R : List V → Hp → Prop} {H : Hp} (Pv : Nat → List V → Hp → Prop) (h0 : Pv 0 [] H)
    (h1 : ∀ i zs H, Pv i zs H → SqK K k1 H a1 xs ∧ SqK K k2 H a2 ys)
    (hs : ∀ i x y zs H T, xs[i]? = some x → ys[i]? = some y → Pv i zs H → H T = none → g (.ref T) σ0 (upd H T (.tup [x, y])) fun σ4 H4 => σ4.drop n = σ0.drop n ∧ tf σ4 H4 fun b H5 =>
      if b = true then te σ4 H5 fun v H6 => zs.length < sizeLine ∧ Pv (i + 1) (zs ++ [v]) H6 else Pv (i + 1) zs H5)
    (hd : ∀ zs H, Pv (min xs.length ys.length) zs H → zs.length ≤ sizeLine ∧ R zs H) :
    ∃ W : Nat → Nat → List V → Hp → Prop, (∃ m, W 0 m [] H) ∧ ∀ i m zs H2, W i m zs H2 →
      ((Itz K k1 k2 a1 a2).stop i H2 ∧ zs.length ≤ sizeLine ∧ R zs H2) ∨
      ((Itz K k1 k2 a1 a2).go i H2 ∧ ∃ N : List V → Hp → Prop, (∀ zs H', N zs H' → ∃ m', m' < m ∧ W (i + 1) m' zs H') ∧ ∀ x H3, (Itz K k1 k2 a1 a2).yld i H2 x H3 → g x σ0 H3 fun σ4 H4 => σ4.drop n = σ0.drop n ∧ tf σ4 H4 fun b H5 =>
        if b = true then te σ4 H5 fun y H6 => zs.length < sizeLine ∧ N (zs ++ [y]) H6 else N zs H5) := by
  refine ⟨fun i m zs H2 => m = min xs.length ys.length - i ∧ i ≤ min xs.length ys.length ∧ Pv i zs H2, ⟨_, rfl, Nat.zero_le _, h0⟩, ?_⟩
  rintro i m zs H2 ⟨rfl, hi, p⟩
  obtain ⟨q1, q2⟩ := h1 i zs H2 p
  by_cases hlt : i < min xs.length ys.length
  · have l1 : i < xs.length := by omega
    have l2 : i < ys.length := by omega
    refine .inr ⟨⟨xs, ys, xs[i], ys[i], q1, q2, by simp [l1], by simp [l2]⟩, Pv (i + 1), fun zs' H' p' => ⟨_, by omega, rfl, hlt, p'⟩, fun x H3 y => ?_⟩
    obtain ⟨T, u, v, e1, hT, e2, y1, y2⟩ := y
    subst e1 e2
    exact hs i u v zs H2 T (y1 xs q1) (y2 ys q2) p hT
  · have e : i = min xs.length ys.length := by omega
    subst e
    obtain ⟨z1, z2⟩ := hd zs H2 p
    exact .inl ⟨⟨xs, ys, q1, q2, by omega⟩, z1, z2⟩
theorem lc_range {lo : Int} {N n : Nat} {g : TG} {tf : TT} {te : TE} {σ0 : St} {R : List V → Hp → Prop} {H : Hp} (Pv : Nat → List V → Hp → Prop) (h0 : Pv 0 [] H)
    (hs : ∀ i zs H, i < N → Pv i zs H → g (.int (lo + i)) σ0 H fun σ4 H4 => σ4.drop n = σ0.drop n ∧ tf σ4 H4 fun b H5 => if b = true then te σ4 H5 fun v H6 => zs.length < sizeLine ∧ Pv (i + 1) (zs ++ [v]) H6 else Pv (i + 1) zs H5)
    (hd : ∀ zs H, Pv N zs H → zs.length ≤ sizeLine ∧ R zs H) :
    ∃ W : Nat → Nat → List V → Hp → Prop, (∃ m, W 0 m [] H) ∧ ∀ i m zs H2, W i m zs H2 →
      ((Itr lo N).stop i H2 ∧ zs.length ≤ sizeLine ∧ R zs H2) ∨
      ((Itr lo N).go i H2 ∧ ∃ M : List V → Hp → Prop, (∀ zs H', M zs H' → ∃ m', m' < m ∧ W (i + 1) m' zs H') ∧ ∀ x H3, (Itr lo N).yld i H2 x H3 → g x σ0 H3 fun σ4 H4 => σ4.drop n = σ0.drop n ∧ tf σ4 H4 fun b H5 =>
        if b = true then te σ4 H5 fun y H6 => zs.length < sizeLine ∧ M (zs ++ [y]) H6 else M zs H5) := by
  refine ⟨fun i m zs H2 => m = N - i ∧ i ≤ N ∧ Pv i zs H2, ⟨_, rfl, Nat.zero_le _, h0⟩, ?_⟩
  rintro i m zs H2 ⟨rfl, hi, p⟩
  by_cases hlt : i < N
  · refine .inr ⟨hlt, Pv (i + 1), fun zs' H' p' => ⟨_, by omega, rfl, hlt, p'⟩, fun x H3 y => ?_⟩
    obtain ⟨e1, e2⟩ := y
    subst e1 e2
    exact hs i zs _ hlt p
  · have e : i = N := by omega
    subst e
    obtain ⟨z1, z2⟩ := hd zs H2 p
    exact .inl ⟨Nat.le_refl _, z1, z2⟩

def blkOkT (sn on : List (Str × NameKind)) (N own fr : List Str) (js : List Nat) : Bool :=
  blkOk sn on N fr js && own.all (fun x => sn.lookup x == some .local) && decide (own ++ fr).Nodup
theorem blkOkT_of {sn on : List (Str × NameKind)} {N own fr : List Str} {js : List Nat} (h : blkOkT sn on N own fr js = true) : blkOk sn on N fr js = true ∧ (∀ x ∈ own, sn.lookup x = some .local) ∧ (own ++ fr).Nodup := by
  unfold blkOkT at h
  rw [Bool.and_eq_true, Bool.and_eq_true, List.all_eq_true] at h
  exact ⟨h.1.1, fun x hx => by simpa using h.1.2 x hx, of_decide_eq_true h.2⟩
section
variable {X : Cx} {elt iter : Expr} {ifs : List Expr} {scope : Scope} {pos px py tp : Pos} {wi : TI} {tf : TT} {te : TE} {x y : Str} {kk : Nat}
theorem pg_blk {N' : List Str} {C : Addr} {s : Shared} {H : Hp} {ex : List Addr} {i : Nat} (hl : scope.names.lookup x = some .local) (nd : N'.Nodup) (hi : N'[i]? = some x) : PG (cxBlk X N' scope C s H ex) (.Name x px) (gName i) :=
  pg_name (X := cxBlk X N' scope C s H ex) nd hi (.inl (lookup_relabel_local hl)) (.inr (lookup_relabel_local hl))
theorem pe_lc1 (fr : List Str) (js : List Nat) (hc : X.calm = true) (hk : scope.kind = .function) (hb : blkOkT scope.names X.env.scope.names X.N [x] fr js = true) (hi : PI X (.Name x px) iter wi)
    (hf : ∀ C s H ex, PF (cxBlk X ([x] ++ fr) scope C s H ex) ifs tf) (he : ∀ C s H ex, PE (cxBlk X ([x] ++ fr) scope C s H ex) elt te)
    (hs : ∀ x, foldedSetIterable iter X.env x = pure x := by intro _; rfl) : PE X (.ListComp elt [⟨.Name x px, iter, ifs, 0⟩] scope pos) (tLC wi 1 js (gName 0) tf te) := by
  obtain ⟨h1, h2, h3⟩ := blkOkT_of hb
  exact pe_lc [x] fr js hc hk h1 hi (fun C s H ex => pg_blk (h2 x (by simp)) h3 rfl) hf he hs
theorem pe_lc2 (fr : List Str) (js : List Nat) (hc : X.calm = true) (hk : scope.kind = .function) (hb : blkOkT scope.names X.env.scope.names X.N [x, y] fr js = true) (hi : PI X (.Tuple [.Name x px, .Name y py] kk tp) iter wi)
    (hf : ∀ C s H ex, PF (cxBlk X ([x, y] ++ fr) scope C s H ex) ifs tf) (he : ∀ C s H ex, PE (cxBlk X ([x, y] ++ fr) scope C s H ex) elt te)
    (hs : ∀ x, foldedSetIterable iter X.env x = pure x := by intro _; rfl) : PE X (.ListComp elt [⟨.Tuple [.Name x px, .Name y py] kk tp, iter, ifs, 0⟩] scope pos) (tLC wi 2 js (gTup X.K 2 (gCons (gName 0) (gCons (gName 1) gNil))) tf te) := by
  obtain ⟨h1, h2, h3⟩ := blkOkT_of hb
  refine pe_lc [x, y] fr js hc hk h1 hi (fun C s H ex => ?_) hf he hs
  exact pg_tup (X := cxBlk X ([x, y] ++ fr) scope C s H ex) hc (pgs_cons (pg_blk (h2 x (by simp)) h3 rfl) (pgs_cons (pg_blk (h2 y (by simp)) h3 rfl) pgs_nil))
end

def tWk (t : TS) : TS := fun D σ H => ∃ J : St → Hp → Prop, t { D with nx := J } σ H ∧ ∀ σ' H', J σ' H' → D.nx σ' H'
theorem ps_weak {X : Cx} {st : Stmt} {t : TS} (h : PS X st t) : PS X st (tWk t) := by
  intro pins s σ H D I hw
  obtain ⟨J, q1, q2⟩ := hw
  refine thn (h pins s σ H _ I q1) fun f s1 q => ?_
  cases f with
  | next => obtain ⟨σ', H', I', z⟩ := q; exact ⟨σ', H', I', q2 σ' H' z⟩
  | brk => exact q
  | cont => exact q
  | ret u => exact q
def Dat.ok : Nat → Dat → Prop
  | n + 1, .lst ds => ds.length ≤ 1000000 ∧ ∀ d ∈ ds, Dat.ok n d
  | n + 1, .tup ds => ds.length ≤ 1000000 ∧ ∀ d ∈ ds, Dat.ok n d
  | 0, .lst _ => False
  | 0, .tup _ => False
  | _, _ => True
def Dat.tyN : Dat → String
  | .non => "NoneType" | .bl _ => "bool" | .int _ => "int" | .str _ => "str" | .lst _ => "list" | .tup _ => "tuple"
theorem Rep.ty {K : PySem.W.Frag} {H : Hp} {d : Dat} {v : V} (h : Rep K H d v) : TyN K H v d.tyN := by
  cases d with
  | non => rw [show v = _ from h]; exact rfl
  | bl b => rw [show v = _ from h]; exact rfl
  | int b => rw [show v = _ from h]; exact rfl
  | str b => rw [show v = _ from h]; exact rfl
  | lst ds => obtain ⟨a, xs, rfl, e, _⟩ := h; exact .inl ⟨rfl, xs, e⟩
  | tup ds => obtain ⟨a, xs, rfl, e, _⟩ := h; exact .inr ⟨rfl, xs, e⟩
end L2

set_option Elab.async false
set_option linter.all false
set_option maxRecDepth 100000
set_option maxHeartbeats 4000000
namespace L2
open PySem PySem.Spec PyProof.Rows
/-! ## str(x) of plain data -/
mutual
def Dat.py : Dat → PyData
  | .non => .none
  | .bl b => .bool b
  | .int i => .int i
  | .str x => .str x
  | .lst ds => .list (Dat.pys ds)
  | .tup ds => .tuple (Dat.pys ds)
def Dat.pys : List Dat → List PyData
  | [] => []
  | d :: ds => d.py :: Dat.pys ds
end
mutual
/-- ints of at most twelve figures, signs that are signs -/
def Dat.shw : Dat → Bool
  | .int i => decide (i.natAbs < 1000000000000)
  | .str x => x.cps.toList.all fun c => decide (c < 1000000)
  | .lst ds => Dat.shws ds
  | .tup ds => Dat.shws ds
  | _ => true
def Dat.shws : List Dat → Bool
  | [] => true
  | d :: ds => d.shw && Dat.shws ds
end
mutual
def Dat.blk : Dat → Nat
  | .str x => x.cps.size
  | .lst ds => Dat.blks ds
  | .tup ds => Dat.blks ds
  | _ => 0
def Dat.blks : List Dat → Nat
  | [] => 0
  | d :: ds => d.blk + 1 + Dat.blks ds
end
mutual
theorem Dat.py_blk : ∀ d : Dat, d.py.bulk = d.blk
  | .non => rfl
  | .bl _ => rfl
  | .int _ => rfl
  | .str _ => rfl
  | .lst ds => Dat.pys_blk ds
  | .tup ds => Dat.pys_blk ds
theorem Dat.pys_blk : ∀ ds : List Dat, PyData.bulkAll (Dat.pys ds) = Dat.blks ds
  | [] => rfl
  | d :: ds => by
    show PyData.bulk d.py + 1 + PyData.bulkAll (Dat.pys ds) = d.blk + 1 + Dat.blks ds
    rw [Dat.py_blk d, Dat.pys_blk ds]
end
theorem nat_log {n : Nat} (h : n < 1000000000000) : n.log2 < 1920 := by
  by_cases h0 : n = 0
  · rw [h0]; decide
  · exact Nat.lt_trans ((Nat.log2_lt h0).mpr (Nat.lt_trans h (by decide : 1000000000000 < 2 ^ 40))) (by decide)
mutual
theorem Dat.py_short : ∀ d : Dat, d.shw = true → d.py.leavesShort 13 = true ∧ d.py.showable = true ∧ d.py.hasDict = false
  | .non, _ => ⟨rfl, rfl, rfl⟩
  | .bl _, _ => ⟨rfl, rfl, rfl⟩
  | .int i, h => by
    have h' : i.natAbs < 1000000000000 := of_decide_eq_true h
    refine ⟨decide_eq_true (PyData.shown_int_le h'), decide_eq_true (nat_log h'), rfl⟩
  | .str x, h => by
    refine ⟨?_, rfl, rfl⟩
    have h' : (x.cps.toList.all fun c => decide (c < 1000000)) = true := h
    show (x.cps.toList.all fun c => decide (c < 16 ^ 8)) = true
    rw [List.all_eq_true] at h' ⊢
    intro c hc
    have := of_decide_eq_true (h' c hc)
    exact decide_eq_true (by omega)
  | .lst ds, h => Dat.pys_short ds h
  | .tup ds, h => Dat.pys_short ds h
theorem Dat.pys_short : ∀ ds : List Dat, Dat.shws ds = true → PyData.leavesShortAll 13 (Dat.pys ds) = true ∧ PyData.showableAll (Dat.pys ds) = true ∧ PyData.hasDictAll (Dat.pys ds) = false
  | [], _ => ⟨rfl, rfl, rfl⟩
  | d :: ds, h => by
    have h' : (d.shw && Dat.shws ds) = true := h
    rw [Bool.and_eq_true] at h'
    obtain ⟨a1, a2, a3⟩ := Dat.py_short d h'.1
    obtain ⟨b1, b2, b3⟩ := Dat.pys_short ds h'.2
    refine ⟨?_, ?_, ?_⟩
    · show (PyData.leavesShort 13 d.py && PyData.leavesShortAll 13 (Dat.pys ds)) = true
      rw [a1, b1]; rfl
    · show (PyData.showable d.py && PyData.showableAll (Dat.pys ds)) = true
      rw [a2, b2]; rfl
    · show (PyData.hasDict d.py || PyData.hasDictAll (Dat.pys ds)) = false
      rw [a3, b3]; rfl
end
mutual
theorem Rep.reads {X : Cx} {pins : List (Addr × Obj)} {σ : St} {H : Hp} {s : Shared} (I : Inv X pins σ H s) : ∀ {d : Dat} {v : V} {u : Value}, Rep X.K H d v → RelV v u → ∃ as, Reads s.heap u d.py as
  | .non, v, u, h, r => by cases (show v = _ from h); cases (show u = _ from r); exact ⟨_, .none⟩
  | .bl b, v, u, h, r => by cases (show v = _ from h); cases (show u = _ from r); exact ⟨_, .bool b⟩
  | .int i, v, u, h, r => by cases (show v = _ from h); obtain ⟨t, rfl⟩ := r; exact ⟨_, .int i t⟩
  | .str x, v, u, h, r => by cases (show v = _ from h); obtain ⟨t, rfl⟩ := r; exact ⟨_, .str x t⟩
  | .lst ds, v, u, h, r => by
    obtain ⟨a, xs, rfl, hx, hr⟩ := h
    cases (show u = _ from r)
    obtain ⟨its, rv, pl, _⟩ := I.list hx
    obtain ⟨o, e, c, n, dd⟩ := pl.isList
    obtain ⟨as, q⟩ := Reps.reads I hr rv
    exact ⟨_, .list e c dd (by simpa using q)⟩
  | .tup ds, v, u, h, r => by
    obtain ⟨a, xs, rfl, hx, hr⟩ := h
    cases (show u = _ from r)
    obtain ⟨its, rv, ⟨o, e, c, n, dd⟩, _⟩ := I.tuple hx
    obtain ⟨as, q⟩ := Reps.reads I hr rv
    exact ⟨_, .tuple e c dd (by simpa using q)⟩
theorem Reps.reads {X : Cx} {pins : List (Addr × Obj)} {σ : St} {H : Hp} {s : Shared} (I : Inv X pins σ H s) : ∀ {ds : List Dat} {xs : List V} {us : List Value}, Reps X.K H ds xs → Vals xs us → ∃ as, ReadsAll s.heap us (Dat.pys ds) as
  | [], xs, us, h, r => by cases (show xs = _ from h); cases r; exact ⟨_, .nil⟩
  | d :: ds, xs, us, h, r => by
    obtain ⟨x, r', rfl, h1, h2⟩ := h
    cases r with
    | cons r1 r2 =>
      obtain ⟨as, q1⟩ := Rep.reads I h1 r1
      obtain ⟨bs, q2⟩ := Reps.reads I h2 r2
      exact ⟨_, .cons q1 q2⟩
end
section
variable {X : Cx}
end
end L2

set_option Elab.async false
set_option linter.all false
set_option maxRecDepth 100000
set_option maxHeartbeats 4000000
namespace L2
open PySem PySem.Spec PyProof.Rows
end L2

set_option Elab.async false
set_option linter.all false
set_option maxRecDepth 100000
set_option maxHeartbeats 4000000
namespace L2
open PySem PySem.Spec PyProof.Rows
section
variable {X : Cx}
end
section
variable {X : Cx} {tg : Expr}
end
section
variable {X : Cx}
def rInsert : V → List V → Hp → VK → Prop := fun x vs H Q => ∃ (l : Addr) (xs : List V) (i : Int) (y : V), x = .ref l ∧ vs = [.int i, y] ∧ H l = some (.lst xs) ∧ 0 ≤ i ∧ i < 2 ^ 62 ∧ xs.length < sizeLine ∧ Q .non (upd H l (.lst (xs.take i.toNat ++ y :: xs.drop i.toNat)))
theorem mt_insert : MtM X "list.insert" rInsert := by
  intro pins s σ H x vs v us Q I rx rv h
  obtain ⟨l, xs, i, y, rfl, rfl, hH, i0, i1, hz, q⟩ := h
  cases rx
  obtain ⟨u1, u2, rfl, r1, r2⟩ := vals2 rv
  obtain ⟨t, rfl⟩ := r1
  obtain ⟨z, its, n, r, hl, e⟩ := I.lstM hH
  have hlen := r.length
  refine call_meets F.slot_list_insert ⟨_, e, rfl⟩ F.entry_list_insert (F.args_list_insert_3 _ _ _) (AutoListH.list_insert_list_int_val_1 l its.toArray n i t u2 ?_ (by rw [List.size_toArray]; omega)) ⟨e, ?_⟩
  · unfold Builtin.List.listFitsIndex
    simp
    omega
  refine ⟨.non, _, I.lset (its' := its.take i.toNat ++ u2 :: its.drop i.toNat) hH e ?_ ((r.take _).append (.cons r2 (r.drop _))) ?_, rfl, q⟩
  · show (have k := if i < 0 then (i + ((its.toArray.size : Nat) : Int)).toNat else min i.toNat its.toArray.size; (its.toArray.extract 0 k).push u2 ++ its.toArray.extract k) = _
    have hk : (if i < 0 then (i + ((its.toArray.size : Nat) : Int)).toNat else min i.toNat its.toArray.size) = min i.toNat its.length := by
      rw [if_neg (by omega), List.size_toArray]
    simp only [hk]
    apply Array.toList_inj.mp
    simp
    by_cases hle : i.toNat ≤ its.length
    · have h1 : (its.drop i.toNat).take (its.length - i.toNat) = its.drop i.toNat := List.take_of_length_le (by rw [List.length_drop]; omega)
      rw [Nat.min_eq_left hle, h1]
    · have h1 : its.length ≤ i.toNat := by omega
      rw [Nat.min_eq_right h1, List.take_of_length_le h1, List.drop_of_length_le h1]
      simp
  · simp only [List.length_append, List.length_take, List.length_cons, List.length_drop]
    omega
theorem vals_pick {xs : List V} {its : List Value} (r : Vals xs its) : ∀ js : List Nat, Vals (js.filterMap (xs[·]?)) (js.filterMap (its[·]?))
  | [] => .nil
  | j :: js => by
    have ih := vals_pick r js
    have hl := r.length
    cases h : xs[j]? with
    | none =>
      have h' : its[j]? = none := by
        rw [List.getElem?_eq_none_iff] at h ⊢; omega
      rw [List.filterMap_cons_none h, List.filterMap_cons_none h']
      exact ih
    | some x =>
      obtain ⟨u, e, ru⟩ := r.get h
      rw [List.filterMap_cons_some h, List.filterMap_cons_some e]
      exact .cons ru ih
variable {e st : Expr} {te : TE} {tk : TO} {pos p2 : Pos}
theorem pe_sliceK (he : PE X e te) (hk : PO X (some st) tk) : PE X (.Subscript e (.Slice none none (some st) p2) pos) (fun σ H Q => te σ H fun x H1 => tk σ H1 fun k H2 => ∃ a xs, x = .ref a ∧ k ≠ some 0 ∧ SqL X.K H2 a xs ∧
    ∀ ys p, (∀ y ∈ ys, y ∈ xs) → ys.length ≤ xs.length → H2 p = none → Q (.ref p) (upd H2 p (.lst ys))) := by
  intro pins s σ H Q I h
  refine Subscript_ (thn (he pins s σ H _ I h) fun v s1 ⟨x, H1, I1, r1, q1⟩ => ?_)
  refine wpAny_Slice ?_
  rw [evalPart_none]
  refine wpAny_pure (wpAny_pure ?_)
  refine thn (hk pins s1 σ H1 _ I1 q1) fun vk s3 ⟨k, H3, I3, pk, q3⟩ => ?_
  obtain ⟨a, xs, rfl, k0, hx, q⟩ := q3
  cases r1
  have I4 : Inv X pins σ H3 { s3 with heap := s3.heap.push { cls := .type "slice", data := .fields #[.none, .none, vk] } } := I3.kept (t' := s3.toks) fun b ob q => Heap.get?_push_of_some _ q
  obtain ⟨its, r, ht, hz⟩ := I4.list hx
  have hlen := r.length
  show wpAny (model X.prog X.w) X.A (subscriptTail e (.Slice none none (some st) p2) (.ref a) (.ref s3.heap.objs.size)) (EP X pins σ Q) X.xe { s3 with heap := s3.heap.push { cls := .type "slice", data := .fields #[.none, .none, vk] } }
  refine tail_any (ops := [.ref a, .ref s3.heap.objs.size]) (T := "list") ht.isList.typeIs slot_list_getitem.lookup ?_ (by with_unfolding_all rfl)
  refine wpAny_getItem_list_slice (lo := none) (hi := none) (st := k) ht.isList (Heap.IsSliceOf.new ..) .none .none pk k0 ?_ (by rw [List.size_toArray] <;> omega)
  have hsz := slicePick_size_le its.toArray none none k
  unfold slicePick at hsz ⊢
  generalize (sliceRange (sliceBounds none none k its.toArray.size).1 (sliceBounds none none k its.toArray.size).2.1 (sliceBounds none none k its.toArray.size).2.2) = js at hsz ⊢
  have e1 : js.filterMap (its.toArray[·]?) = js.filterMap (its[·]?) := by simp
  rw [e1] at hsz ⊢
  have rv := vals_pick r js
  have hl2 := rv.length
  simp only [List.size_toArray] at hsz
  refine ⟨.ref _, _, I4.laid (t' := s3.toks) (o := .lst (js.filterMap (xs[·]?))) (fun b ob q => Heap.get?_push_of_some _ q) (Nat.le_refl _) ?_, rfl, q _ _ (fun y hy => ?_) (by omega) (I4.hok.fresh (Nat.le_refl _))⟩
  · exact ⟨by omega, _, 0, rv, Heap.get?_push_size _ rfl⟩
  · obtain ⟨j, _, hj⟩ := List.mem_filterMap.mp hy
    exact List.mem_of_getElem? hj
end
end L2

set_option Elab.async false
set_option linter.all false
set_option maxRecDepth 100000
set_option maxHeartbeats 4000000
namespace L2
open PySem PySem.Spec PyProof.Rows
theorem lc_list {K : PySem.W.Frag} {a : Addr} {xs : List V} {g : TG} {tf : TT} {te : TE} {σ0 : St} {n : Nat} {R : List V → Hp → Prop} {H : Hp} (Pv : Nat → List V → Hp → Prop) (h0 : Pv 0 [] H)
    (h1 : ∀ i zs H, Pv i zs H → SqL K H a xs)
    (hs : ∀ i x zs H, xs[i]? = some x → Pv i zs H → g x σ0 H fun σ4 H4 => σ4.drop n = σ0.drop n ∧ tf σ4 H4 fun b H5 =>
      if b = true then te σ4 H5 fun v H6 => zs.length < sizeLine ∧ Pv (i + 1) (zs ++ [v]) H6 else Pv (i + 1) zs H5)
    (hd : ∀ zs H, Pv xs.length zs H → zs.length ≤ sizeLine ∧ R zs H) :
    ∃ W : Nat → Nat → List V → Hp → Prop, (∃ m, W 0 m [] H) ∧ ∀ i m zs H2, W i m zs H2 →
      ((Itl K a).stop i H2 ∧ zs.length ≤ sizeLine ∧ R zs H2) ∨
      ((Itl K a).go i H2 ∧ ∃ N : List V → Hp → Prop, (∀ zs H', N zs H' → ∃ m', m' < m ∧ W (i + 1) m' zs H') ∧ ∀ x H3, (Itl K a).yld i H2 x H3 → g x σ0 H3 fun σ4 H4 => σ4.drop n = σ0.drop n ∧ tf σ4 H4 fun b H5 =>
        if b = true then te σ4 H5 fun y H6 => zs.length < sizeLine ∧ N (zs ++ [y]) H6 else N zs H5) := by
  refine ⟨fun i m zs H2 => m = xs.length - i ∧ i ≤ xs.length ∧ Pv i zs H2, ⟨_, rfl, Nat.zero_le _, h0⟩, ?_⟩
  rintro i m zs H2 ⟨rfl, hi, p⟩
  have q := h1 i zs H2 p
  by_cases hlt : i < xs.length
  · refine .inr ⟨⟨xs, xs[i], q, by simp [hlt]⟩, Pv (i + 1), fun zs' H' p' => ⟨_, by omega, rfl, hlt, p'⟩, fun x H3 y => ?_⟩
    obtain ⟨e, y⟩ := y
    subst e
    exact hs i x zs _ (y xs q) p
  · have e : i = xs.length := by omega
    subst e
    obtain ⟨z1, z2⟩ := hd zs H2 p
    exact .inl ⟨⟨xs, q, Nat.le_refl _⟩, z1, z2⟩
/-! ## plain things, no text and no row longer than n -/
inductive DV (K : PySem.W.Frag) (F : Hp) (n : Nat) : V → Prop
  | non : DV K F n .non
  | bl (b : Bool) : DV K F n (.bl b)
  | int (i : Int) (h : i.natAbs ≤ 10000000000 + n) : DV K F n (.int i)
  | str (x : Str) (h : x.length ≤ n) : DV K F n (.str x)
  | lst (a : Addr) (xs : List V) (h : SqL K F a xs) (hl : xs.length ≤ n) (all : ∀ x ∈ xs, DV K F n x) : DV K F n (.ref a)
  | tup (a : Addr) (xs : List V) (h : SqT K F a xs) (hl : xs.length ≤ n) (all : ∀ x ∈ xs, DV K F n x) : DV K F n (.ref a)
theorem DV.up {K : PySem.W.Frag} {F F' : Hp} {n m : Nat} {v : V} (h : DV K F n v) (s : Same F F') (hm : n ≤ m) : DV K F' m v := by
  induction h with
  | non => exact .non
  | bl b => exact .bl b
  | int i h => exact .int i (by omega)
  | str x h => exact .str x (by omega)
  | lst a xs h hl all ih => exact .lst a xs (s.seq h) (by omega) ih
  | tup a xs h hl all ih => exact .tup a xs (s.sqT h) (by omega) ih
def WX (ex : List Addr) (H : Hp) : Hp := fun c => if c ∈ ex then none else H c
theorem WX.le {ex : List Addr} {H : Hp} : Same (WX ex H) H := fun c o e => by
  unfold WX at e
  split at e
  · cases e
  · exact e
theorem WX.new {ex : List Addr} {H : Hp} {p : Addr} {o : HO} (h : H p = none) : Same (WX ex H) (WX ex (upd H p o)) := fun c u e => by
  unfold WX at e ⊢
  split at e
  · cases e
  · rename_i hc
    rw [if_neg hc, upd_ne (ne_of_none e h)]
    exact e
theorem WX.same {ex : List Addr} {H H' : Hp} (h : Same H H') : Same (WX ex H) (WX ex H') := fun c u e => by
  unfold WX at e ⊢
  split at e
  · cases e
  · rename_i hc
    rw [if_neg hc]
    exact h c u e
theorem WX.cons {ex : List Addr} {H : Hp} {m : Addr} : Same (WX (m :: ex) H) (WX ex H) := fun c u e => by
  unfold WX at e ⊢
  split at e
  · cases e
  · rename_i hc
    rw [if_neg (fun z => hc (List.mem_cons_of_mem _ z))]
    exact e
theorem WX.fresh {ex : List Addr} {H : Hp} {m : Addr} (h : H m = none) (o : HO) : Same (WX ex H) (WX (m :: ex) (upd H m o)) := fun c u e => by
  unfold WX at e ⊢
  split at e
  · cases e
  · rename_i hc
    have hm : c ≠ m := ne_of_none e h
    rw [if_neg (fun z => (List.mem_cons.mp z).elim hm hc), upd_ne hm]
    exact e
theorem WX.put {ex : List Addr} {H : Hp} {m : Addr} {o : HO} (h : m ∈ ex) : Same (WX ex H) (WX ex (upd H m o)) := fun c u e => by
  unfold WX at e ⊢
  split at e
  · cases e
  · rename_i hc
    rw [if_neg hc, upd_ne (show c ≠ m from fun z => hc (by rw [z]; exact h))]
    exact e
theorem WX.at {ex : List Addr} {H : Hp} {c : Addr} {o : HO} (h : c ∉ ex) (e : H c = some o) : WX ex H c = some o := by
  unfold WX; rw [if_neg h]; exact e
theorem intStr_len {i : Int} (h : i.natAbs < 1000000000000) : (Str.ofString (toString i)).length ≤ 13 := PyData.shown_int_le h
end L2

set_option Elab.async false
set_option linter.all false
set_option maxRecDepth 100000
set_option maxHeartbeats 4000000
namespace L2
open PySem PySem.Spec PyProof.Rows
def nStar : Expr → Bool
  | .Starred _ _ => false
  | _ => true
theorem star_cons {e : Expr} {es : List Expr} {env : Env} (h : nStar e = true) : starEach (e :: es) env = (false, eval e env) :: starEach es env := by
  cases e <;> first | rfl | cases h
theorem pa6 {X : Cx} {e0 e1 e2 e3 e4 e5 : Expr} {t0 t1 t2 t3 t4 t5 : TE} (h0 : PE X e0 t0) (h1 : PE X e1 t1) (h2 : PE X e2 t2) (h3 : PE X e3 t3) (h4 : PE X e4 t4) (h5 : PE X e5 t5) (h : ([e0, e1, e2, e3, e4, e5]).all nStar = true := by rfl) : PA X [e0, e1, e2, e3, e4, e5] (tCons t0 (tCons t1 (tCons t2 (tCons t3 (tCons t4 (tCons t5 tNil)))))) := by
  have hz := List.all_eq_true.mp h
  exact (pa_cons h0 (pa_cons h1 (pa_cons h2 (pa_cons h3 (pa_cons h4 (pa_cons h5 pa_nil (star_cons (hz _ (by simp)))) (star_cons (hz _ (by simp)))) (star_cons (hz _ (by simp)))) (star_cons (hz _ (by simp)))) (star_cons (hz _ (by simp)))) (star_cons (hz _ (by simp))))
end L2

set_option Elab.async false
set_option linter.all false
set_option maxRecDepth 100000
set_option maxHeartbeats 4000000
namespace L2
open PySem PySem.Spec PyProof.Rows
section
variable {X : Cx} {elt tg iter : Expr} {ifs : List Expr} {scope : Scope} {pos : Pos} {wi : TI} {g : TG} {tf : TT} {te : TE}

theorem ps_lc {y : Str} {py spos : Pos} {g2 : TG} (own fr : List Str) (js : List Nat) (hc : X.calm = true) (hk : scope.kind = .function) (hb : blkOk scope.names X.env.scope.names X.N fr js = true) (hi : PI X tg iter wi)
    (hg : ∀ C s H ex, PG (cxBlk X (own ++ fr) scope C s H ex) tg g) (hf : ∀ C s H ex, PF (cxBlk X (own ++ fr) scope C s H ex) ifs tf) (he : ∀ C s H ex, PE (cxBlk X (own ++ fr) scope C s H ex) elt te)
    (hg2 : PG X (.Name y py) g2) (hsw : swapsWith (.ListComp elt [⟨tg, iter, ifs, 0⟩] scope pos) (some (.Name y py)) spos.line X.env = pure true := by rfl)
    (hs : ∀ x, foldedSetIterable iter X.env x = pure x := by intro _; rfl) : PS X (.Assign [.Name y py] (.ListComp elt [⟨tg, iter, ifs, 0⟩] scope pos) spos) (tAsg (tLC wi own.length js g tf te) g2) := by
  intro pins s σ H Dn I h
  have B := blkOk_of hb
  have hasF : ∀ y ∈ scope.names, y.2 = NameKind.free → ∃ c, X.env.cells.lookup y.1 = some c := fun y hy e => I.ok.has y.1 (B.free y hy e)
  rw [exec_Assign_Name_used _ _ _ _ hsw]
  refine wpAny_bind (wpAny_standAt (wpAny_bind ?_))
  show wpAny _ X.A (do let _ ← comprehension (.ListComp elt [⟨tg, iter, ifs, 0⟩] scope pos) scope X.env _ (newList []) false (eval iter X.env) (some (assign (.Name y py) X.env))) _ _ s
  refine wpAny_bind (wpAny_mono (wpAny_comprehension_free (use := some (assign (.Name y py) X.env)) (Q := fun _ s' => ∃ σ' H', Inv X pins σ' H' s' ∧ Dn.nx σ' H') rfl hs (clos_eq hasF) hk (fun y hy e => B.loc y hy e) (thn (hi pins s σ H _ I h) fun v s1 h1 => thn h1 fun itv s2 h2 => ?_)) (fun _ s' hq => wpAny_pure (wpAny_pure hq)) fun _ _ e => e)
  obtain ⟨it, fp, tn, J, H2, e, I2, T, st2, f2, W, ⟨m0, w0⟩, turn⟩ := h2
  subst e
  have fl : ∀ b ∈ fp, b < s2.heap.objs.size := fun b hb => let ⟨o, e, _⟩ := T.obj _ _ st2 b hb; Heap.lt_size e
  refine wpAny_newObj_type (wpAny_newFunctionEnv B.cell (by intro y hy; simp at hy) (fun h1 hns hsb => ?_) hk)
  dsimp only at hns hsb ⊢
  generalize e3 : s2.heap.push { cls := .type "list", dict := none, data := .seq ([] : List Value).toArray } = h3 at hns hsb ⊢
  have k3 : ∀ b o, s2.heap.get? b = some o → h3.get? b = some o := fun b o e => by rw [← e3]; exact Heap.get?_push_of_some _ e
  have k4 : ∀ b o, h3.get? b = some o → h1.get? b = some o := fun b o e => hsb.extBut b o (Nat.ne_of_lt (Heap.lt_size e)) (Heap.get?_push_of_some _ e)
  have I4 : Inv (cxBlk X (own ++ fr) scope h3.objs.size { s2 with heap := h3 } H2 (s2.heap.objs.size :: fp)) [] (upS own.length js σ) H2 { s2 with heap := h1, toks := s2.toks + ([] : List (Str × Value)).length } :=
    blk_start own fr js I2 B hk f2 fl rfl e3.symm rfl hns k4
  have I3 : Inv X pins σ H2 { s2 with heap := h3 } := I2.kept (t' := s2.toks) k3
  have hz : h3.objs.size = s2.heap.objs.size + 1 := by rw [← e3, Heap.size_push]
  have hDl : s2.heap.objs.size ≠ h3.objs.size := by rw [hz]; exact Nat.ne_of_lt (Nat.lt_succ_self _)
  have hacc : h1.get? s2.heap.objs.size = some { cls := .type "list", data := .seq ([] : List Value).toArray } := k4 _ _ (by rw [← e3]; exact Heap.get?_push_size _ rfl)
  have fpC := (I3.fpOk (b := h3.objs.size) (Nat.le_refl _) (I3.hok.fresh (Nat.le_refl _))).2
  generalize eD : s2.heap.objs.size = D at *
  generalize eC : h3.objs.size = C at *
  have fD : ∀ b ∈ fp, D ≠ b := fun b hb => Nat.ne_of_gt (fl b hb)
  have hx : ∀ x c, (closL X.env.cells scope.names []).lookup x = some c → c ≠ D := fun x c e => by
    obtain ⟨v, q⟩ := I2.cell x c (closL_some e hasF)
    rw [← eD]; exact Nat.ne_of_lt q.lt
  have hx2 : ∀ b ∈ fp, ∀ x c, (closL X.env.cells scope.names []).lookup x = some c → c ≠ b := fun b hb x c e => (f2 b hb).2.2.2.2.1 x c (closL_some e hasF)
  have nfs : ∀ b ∈ D :: fp, b ∉ frs X.stack := I4.ok.exfs
  -- the footprint within the block
  have fpB : ∀ {pins' : List (Addr × Obj)} {H' : Hp} {b : Addr}, b ∈ fp → H' b = none → (∀ p ∈ pins', p.1 ≠ b) → FpOk (cxBlk X (own ++ fr) scope C { s2 with heap := h3 } H2 (D :: fp)) pins' H' b := fun {pins' H' b} hb hn hp =>
    ⟨hn, (I4.ok.exf b (List.mem_cons_of_mem _ hb)).1, nfs b (List.mem_cons_of_mem _ hb), .inl (List.mem_cons_of_mem _ hb), fun x c e => hx2 b hb x c e, fun p h => hp p (by simpa using h)⟩
  have fpD : ∀ {pins' : List (Addr × Obj)} {H' : Hp}, H' D = none → (∀ p ∈ pins', p.1 ≠ D) → FpOk (cxBlk X (own ++ fr) scope C { s2 with heap := h3 } H2 (D :: fp)) pins' H' D := fun {pins' H'} hn hp =>
    ⟨hn, hDl, nfs D List.mem_cons_self, .inl List.mem_cons_self, fun x c e => hx x c e, fun p h => hp p (by simpa using h)⟩
  have loop : ∀ s4 : Shared, s4 = { s2 with heap := h1, toks := s2.toks + ([] : List (Str × Value)).length } →
      codeAny (model X.prog X.w) X.A (.compLoop (.ListComp elt [⟨tg, iter, ifs, 0⟩] scope pos) 0 (.ref it) (.ref D) (compEnvC scope (closL X.env.cells scope.names []) C X.env))
        (compPost (model X.prog X.w) X.A X.xe (some (assign (.Name y py) X.env)) (fun _ s' => ∃ σ' H', Inv X pins σ' H' s' ∧ Dn.nx σ' H') (.ref D) C) s4 := by
    intro s4 e4
    refine blk_loop (fun n s' => ∃ i ys its H', ∃ z : Nat, Inv (cxBlk X (own ++ fr) scope C { s2 with heap := h3 } H2 (D :: fp)) [] (upS own.length js σ) H' s' ∧ tn i s'.heap ∧ (∀ b ∈ fp, H' b = none) ∧ H' D = none ∧
      s'.heap.get? D = some { cls := .type "list", data := .seq (its : List Value).toArray z } ∧ Vals ys its ∧ W i n ys H') ?_ m0 ?_
    · rintro n s5 ⟨i, ys, its, H5, z5, I5, st5, fr5, hD5, ho5, rv5, w5⟩
      have I5' := I5.pinned (fp := [D]) (fun b hb => by rw [List.mem_singleton.mp hb]; exact fpD hD5 (fun p hp => absurd hp (by simp))) (fun b hb => by
        rw [List.mem_singleton.mp hb]; exact ⟨_, ho5, fun v q => nomatch q⟩)
      have pD : ∀ p ∈ [] ++ pinsAt [D] s5.heap, p.1 = D := fun p hp => by
        rw [List.nil_append] at hp
        exact List.mem_singleton.mp (of_pinsAt hp).1
      have mD : (D, ({ cls := .type "list", data := .seq its.toArray z5 } : Obj)) ∈ [] ++ pinsAt [D] s5.heap := by
        rw [List.nil_append]; exact mem_pinsAt (List.mem_singleton.mpr rfl) ho5
      have fp5 : ∀ {H' : Hp}, (∀ b ∈ fp, H' b = none) → ∀ b ∈ fp, FpOk (cxBlk X (own ++ fr) scope C { s2 with heap := h3 } H2 (D :: fp)) ([] ++ pinsAt [D] s5.heap) H' b := fun hn b hb => fpB hb (hn b hb) fun p hp => by
        rw [pD p hp]; exact fD b hb
      rcases turn i n ys H5 w5 with ⟨stop, hlen, q⟩ | ⟨go, N, hN, step⟩
      · refine thn (T.done (cxBlk X (own ++ fr) scope C { s2 with heap := h3 } H2 (D :: fp)) rfl rfl rfl hc i _ s5 _ H5 _ I5' (fp5 fr5) st5 stop) fun r s6 ⟨hr, I6⟩ => ?_
        subst hr
        obtain ⟨m6, hn6, _⟩ := I6.loc
        obtain ⟨o6, nD6, _⟩ := I6.pin (D, _) (List.mem_append_right _ mD)
        have k7 : ∀ b o, b ≠ C → s6.heap.get? b = some o → s6.heap.get? b = some o := fun b o _ e => e
        have J0 : Inv X pins σ (upd H5 D (.lst ys)) s6 := by
          refine I3.call' (s' := s6) (ch := D :: fp) I6.os (un_track (un_but I6.base (Nat.le_of_eq eC) k7) List.mem_cons_self (I2.hok.fresh ?_)) (hok_track (hok_but I6.hok I6.free k7) nD6 ⟨hlen, its, z5, rv5, k7 D _ hDl o6⟩) I6.bare fun b hb => ?_
          · rw [← eD]; exact Nat.le_refl _
          · rcases List.mem_cons.mp hb with y | hb
            · subst y
              refine ⟨.inr (by rw [← eD]; exact I2.sz), by rw [← eD]; exact Nat.ne_of_gt I2.lt, fun x c e => ?_, fun p hp => ?_⟩
              · obtain ⟨v, q⟩ := I2.cell x c e
                rw [← eD]; exact Nat.ne_of_lt q.lt
              · rw [← eD]; exact Nat.ne_of_lt (Heap.lt_size (I2.pin p hp).1)
            · obtain ⟨_, g1, _, g3, g4, g5⟩ := f2 b hb
              exact ⟨g3, g1, g4, g5⟩
        obtain ⟨oC, eoC, dC⟩ : ∃ o, s6.heap.get? C = some o ∧ ∀ v, o.data ≠ .cell v := by
          obtain ⟨o, es, ep, ho, hd, _⟩ := hn6
          exact ⟨o, ho, fun v z => by rw [hd] at z; cases z⟩
        have hC0 : (upd H5 D (.lst ys)) C = none := by
          rw [upd_ne (Ne.symm hDl)]; exact I6.free
        have J1 := J0.pinned (fp := [C]) (fun b hb => by rw [List.mem_singleton.mp hb]; exact ⟨hC0, fpC⟩) (fun b hb => by rw [List.mem_singleton.mp hb]; exact ⟨oC, eoC, dC⟩)
        have mC : (C, oC) ∈ pins ++ pinsAt [C] s6.heap := List.mem_append_right _ (mem_pinsAt (List.mem_singleton.mpr rfl) eoC)
        refine thn (hg2 _ s6 σ _ (.ref D) (.ref D) _ J1 rfl (q D nD6)) fun _ s8 ⟨σ8, H8, I8, q8⟩ => ?_
        obtain ⟨e8, n8, _⟩ := I8.pin (C, oC) (List.mem_append_right _ mC)
        refine ⟨m6, ?_, fun h9 hs9 => ⟨σ8, H8, ?_, q8⟩⟩
        · obtain ⟨o, es, ep, ho, r⟩ := hn6
          have ho' : s6.heap.get? C = some o := ho
          rw [eoC] at ho'; cases ho'
          exact ⟨oC, es, ep, e8, r⟩
        · obtain ⟨g1, _, g3, g4, g5⟩ := fpC
          exact (I8.unpinned).turned (t' := s8.toks) (it := C) (fun b o hb e => hs9.extBut b o hb e) n8 g1 g3 g4 g5
      · refine thn (T.item (cxBlk X (own ++ fr) scope C { s2 with heap := h3 } H2 (D :: fp)) rfl rfl rfl hc i _ s5 _ H5 _ I5' (fp5 fr5) st5 go) fun r s6 ⟨u, hr, h6⟩ => ?_
        subst hr
        refine thn h6 fun _ s7 ⟨x, H7, I7, r7, y7, st7, fr7⟩ => ?_
        have I7' := I7.pinned (fp5 fr7) (T.obj _ _ st7)
        refine thn (hg _ _ _ _ _ s7 _ H7 x u _ I7' r7 (step x H7 y7)) fun _ s8 ⟨σ8, H8, I8, hd8, q8⟩ => ?_
        refine thn (hf _ _ _ _ _ s8 σ8 H8 _ I8 q8) fun ok s9 ⟨H9, I9, q9⟩ => ?_
        have weak : ∀ {H' : Hp} {s' : Shared}, Inv (cxBlk X (own ++ fr) scope C { s2 with heap := h3 } H2 (D :: fp)) (([] ++ pinsAt [D] s5.heap) ++ pinsAt fp s7.heap) σ8 H' s' →
            Inv (cxBlk X (own ++ fr) scope C { s2 with heap := h3 } H2 (D :: fp)) [] (upS own.length js σ) H' s' := fun {H' s'} J => by
          refine (J.unpinned).unpinned.weak (I5.len.trans J.len.symm) fun k v e => ?_
          obtain ⟨hn, e1, _⟩ := upS_drop e
          rw [← hd8, List.getElem?_drop] at e1
          rw [← e1]
          congr 1
          omega
        have mF : ∀ b ∈ fp, ∀ o, s7.heap.get? b = some o → (b, o) ∈ ([] ++ pinsAt [D] s5.heap) ++ pinsAt fp s7.heap := fun b hb o e => List.mem_append_right _ (mem_pinsAt hb e)
        have mD' := List.mem_append_left (pinsAt fp s7.heap) mD
        have frB : ∀ {H' : Hp} {s' : Shared}, Inv (cxBlk X (own ++ fr) scope C { s2 with heap := h3 } H2 (D :: fp)) (([] ++ pinsAt [D] s5.heap) ++ pinsAt fp s7.heap) σ8 H' s' → ∀ b ∈ fp, H' b = none := fun {H' s'} J b hb => by
          obtain ⟨o, e, _⟩ := T.obj _ _ st7 b hb
          exact (J.pin (b, o) (List.mem_append_right _ (mF b hb o e))).2.1
        cases ok with
        | false =>
          have q9' : N ys H9 := by simpa using q9
          obtain ⟨m', hm, w'⟩ := hN _ _ q9'
          obtain ⟨o9, nD9, _⟩ := I9.pin (D, _) (List.mem_append_right _ mD')
          exact ⟨m', hm, i + 1, ys, its, H9, z5, weak I9, T.keep _ _ _ st7 fun b hb o e => (I9.pin (b, o) (List.mem_append_right _ (mF b hb o e))).1, frB I9, nD9, o9, rv5, w'⟩
        | true =>
          have q9' : te σ8 H9 fun y H6 => ys.length < sizeLine ∧ N (ys ++ [y]) H6 := by simpa using q9
          refine thn (he _ _ _ _ _ s9 σ8 H9 _ I9 q9') fun yv s10 ⟨y, H10, I10, r10, hlt, w10⟩ => ?_
          obtain ⟨m', hm, w'⟩ := hN _ _ w10
          obtain ⟨o10, nD10, _⟩ := I10.pin (D, _) (List.mem_append_right _ mD')
          refine wpAny_list_append_plain (l := D) (items := its.toArray) (hsz := by rw [List.size_toArray, ← rv5.length]; exact Nat.le_of_lt hlt) ⟨_, o10⟩ fun h11 hl11 hs11 => ?_
          obtain ⟨z11, e11⟩ := hl11
          refine ⟨m', hm, i + 1, ys ++ [y], its ++ [yv], H10, z11, ?_, T.keep _ _ _ st7 fun b hb o e => hs11.extBut b o (Ne.symm (fD b hb)) (I10.pin (b, o) (List.mem_append_right _ (mF b hb o e))).1, frB I10, nD10, ?_, rv5.append (.cons r10 .nil), w'⟩
          · exact (weak I10).turned (t' := s10.toks) (it := D) (fun b o hb e => hs11.extBut b o hb e) nD10 hDl (.inl List.mem_cons_self) (fun x c e => hx x c e) fun p hp => absurd (show p ∈ ([] : List (Addr × Obj)) from hp) (by simp)
          · rw [e11]; simp
    · subst e4
      exact ⟨0, [], [], H2, 0, I4, T.keep _ _ _ st2 fun b hb o e => k4 b o (k3 b o e), fun b hb => (f2 b hb).1, I2.hok.fresh (by rw [← eD]; exact Nat.le_refl _), hacc, .nil, w0⟩
  exact codeAny_compStart_list (loop _ rfl) (T.self X.A 0 _ _ _ (T.keep _ _ _ st2 fun b hb o e => k4 b o (k3 b o e)) (loop _ rfl))
theorem ps_lc1 {x y : Str} {px py spos : Pos} {g2 : TG} (fr : List Str) (js : List Nat) (hc : X.calm = true) (hk : scope.kind = .function) (hb : blkOkT scope.names X.env.scope.names X.N [x] fr js = true) (hi : PI X (.Name x px) iter wi)
    (hf : ∀ C s H ex, PF (cxBlk X ([x] ++ fr) scope C s H ex) ifs tf) (he : ∀ C s H ex, PE (cxBlk X ([x] ++ fr) scope C s H ex) elt te)
    (hg2 : PG X (.Name y py) g2) (hsw : swapsWith (.ListComp elt [⟨.Name x px, iter, ifs, 0⟩] scope pos) (some (.Name y py)) spos.line X.env = pure true := by rfl)
    (hs : ∀ x, foldedSetIterable iter X.env x = pure x := by intro _; rfl) : PS X (.Assign [.Name y py] (.ListComp elt [⟨.Name x px, iter, ifs, 0⟩] scope pos) spos) (tAsg (tLC wi 1 js (gName 0) tf te) g2) := by
  obtain ⟨h1, h2, h3⟩ := blkOkT_of hb
  exact ps_lc [x] fr js hc hk h1 hi (fun C s H ex => pg_blk (h2 x (by simp)) h3 rfl) hf he hg2 hsw hs
end
end L2

set_option Elab.async false
set_option linter.all false
set_option maxRecDepth 100000
set_option maxHeartbeats 4000000
namespace L2
open PySem PySem.Spec PyProof.Rows
theorem Vals.mem {u : Value} : ∀ {xs : List V} {us : List Value}, Vals xs us → u ∈ us → ∃ x ∈ xs, RelV x u
  | _, _, .nil, h => by cases h
  | x :: xs, v :: vs, .cons r t, h => by
    rcases List.mem_cons.mp h with e | h
    · rw [e]; exact ⟨x, List.mem_cons_self, r⟩
    · obtain ⟨y, hy, ry⟩ := Vals.mem t h
      exact ⟨y, List.mem_cons_of_mem _ hy, ry⟩
section
variable {X : Cx}
theorem op_eqNil (hu : X.A.units < cLine) : OpR X (compareOp .Eq) (fun x y H Q => ∃ (a b : Addr) (xs : List V), x = .ref a ∧ y = .ref b ∧ SqL X.K H a xs ∧ SqL X.K H b [] ∧ Q (.bl xs.isEmpty) H) := by
  intro pins s σ H x y v u Q I rx ry h
  obtain ⟨a, b, xs, rfl, rfl, hx, hy, q⟩ := h
  cases rx
  cases ry
  obtain ⟨its1, r1, p1, z1⟩ := I.list hx
  obtain ⟨its2, r2, p2, z2⟩ := I.list hy
  cases r2
  cases r1 with
  | nil => exact SeqAt.RcAt.lists (e := fun _ => true) p1.isList p2.isList rfl hu (fun j h1 _ => by simp at h1) _ _ _ _ ⟨.bl _, H, I, rfl, q⟩
  | cons r t => exact SeqAt.RcAt.lists_lengths p1.isList p2.isList (by simp) hu _ _ _ _ ⟨.bl _, H, I, rfl, q⟩
end
end L2

set_option Elab.async false
set_option linter.all false
set_option maxRecDepth 100000
set_option maxHeartbeats 4000000
namespace L2
open PySem PySem.Spec PyProof.Rows
section
variable {prog : Program} {w : World} {A : Around} {E : Value → Shared → Prop} {s : Shared}
end
end L2

set_option Elab.async false
set_option linter.all false
set_option maxRecDepth 100000
set_option maxHeartbeats 4000000
namespace L2
open PySem PySem.Spec PyProof.Rows
def Tups (H : Hp) (xs ys : List V) (Ts : List Addr) : Prop := ∀ (j : Nat) (T : Addr), Ts[j]? = some T → ∃ x y, xs[j]? = some x ∧ ys[j]? = some y ∧ H T = some (.tup [x, y])
theorem Tups.same {H H' : Hp} {xs ys : List V} {Ts : List Addr} (h : Tups H xs ys Ts) (s : Same H H') : Tups H' xs ys Ts := fun j T e => let ⟨x, y, a, b, c⟩ := h j T e; ⟨x, y, a, b, s _ _ c⟩
theorem Tups.snoc {H : Hp} {xs ys : List V} {Ts : List Addr} {T : Addr} {x y : V} (h : Tups H xs ys Ts) (hx : xs[Ts.length]? = some x) (hy : ys[Ts.length]? = some y) (hT : H T = some (.tup [x, y])) : Tups H xs ys (Ts ++ [T]) := fun j U e => by
  by_cases hj : j < Ts.length
  · rw [List.getElem?_append_left hj] at e
    exact h j U e
  · rw [List.getElem?_append_right (by omega)] at e
    have : j = Ts.length := by
      have := (List.getElem?_eq_some_iff.mp e).1
      simp at this; omega
    subst this
    simp at e
    subst e
    exact ⟨x, y, hx, hy, hT⟩
section
variable {X : Cx} {A : Around} {R : Result → Shared → Prop}
end
end L2

set_option Elab.async false
set_option linter.all false
set_option maxRecDepth 100000
set_option maxHeartbeats 4000000
namespace L2
open PySem PySem.Spec PyProof.Rows
section
variable {X : Cx}
end
end L2

set_option Elab.async false
set_option linter.all false
set_option maxRecDepth 100000
set_option maxHeartbeats 4000000
namespace L2
open PySem PySem.Spec PyProof.Rows
/-! the rules that name the constants' fragment, for use within comprehensions -/
section
variable {X : Cx}
theorem ix_listB {K : PySem.W.Frag} (h : X.K = K) : IxR X (rIxL K) := by rw [← h]; exact ix_list
theorem ix_tupB {K : PySem.W.Frag} (h : X.K = K) : IxR X (rIxT K) := by rw [← h]; exact ix_tup
theorem call_len_seqB {K : PySem.W.Frag} (h : X.K = K) : CallR X (.builtin "len") (fun xs H Q => ∃ p ys, xs = [.ref p] ∧ (SqL K H p ys ∨ SqT K H p ys) ∧ Q (.int ys.length) H) := by rw [← h]; exact call_len_seq
theorem call_isiB {K : PySem.W.Frag} (h : X.K = K) : CallR X (.builtin "isinstance") (fun xs H Q => ∃ x T C, xs = [x, .ty C] ∧ TyN K H x T ∧ C ∈ clNames ∧ Q (.bl (subT T C)) H) := by rw [← h]; exact call_isi
end
end L2

set_option Elab.async false
set_option linter.all false
set_option maxRecDepth 100000
set_option maxHeartbeats 4000000
namespace L2
open PySem PySem.Spec PyProof.Rows
section
variable {X : Cx}
end
end L2

set_option Elab.async false
set_option linter.all false
set_option maxRecDepth 100000
set_option maxHeartbeats 4000000
namespace L2
open PySem PySem.Spec PyProof.Rows

/-! ## enumerate of a tuple -/
section
open AutoSeq1 (wpAny_loadPart')
end
section
variable {prog : Program} {w : World} {A : Around} {E : Value → Shared → Prop} {s : Shared}
theorem Draws.tuple {prog : Program} {w : World} {A : Around} (hh : A.handled = none) (it l : Addr) (hne : l ≠ it) (items : Array Value) :
    Draws prog w A it [it, l] items.size (fun i v => items[i]? = some v) (fun i h => h.IsTupleIter it l i ∧ h.IsTuple l items) where
  live := fun _ _ st => let ⟨o, ho, _⟩ := st.1; ⟨o, ho⟩
  frame := fun _ _ _ st hk => ⟨ItrK.at (kd := false) st.1 fun o e => hk it (by simp) o e, SeqK.at (kd := false) st.2 fun o e => hk l (by simp) o e⟩
  item := fun i s Q E hi st hQ => by
    refine nextK_item (kd := false) st.1 st.2 (x := items[i]) (by simp [hi]) fun h' hit' hs' => ?_
    exact hQ _ h' s.toks (by simp [hi]) ⟨hit', SeqK.at (kd := false) st.2 fun o e => hs'.extBut l o hne e⟩ hs'
  done := fun s Q E st hE => nextK_end (kd := false) hh st.1 st.2 (by simp) hE
end
section
variable {X : Cx}
end

end L2

set_option Elab.async false
set_option linter.all false
set_option maxRecDepth 100000
set_option maxHeartbeats 4000000
namespace L2
open PySem PySem.Spec PyProof.Rows

/-! ## comprehensions with two fors -/
section
variable {prog : Program} {w : World} {A : Around} {R : Result → Shared → Prop} {s : Shared}
end
def Sub : St → St → Prop
  | [], [] => True
  | none :: r, _ :: r' => Sub r r'
  | some v :: r, x :: r' => x = some v ∧ Sub r r'
  | _, _ => False
theorem Sub.len : ∀ {a b : St}, Sub a b → a.length = b.length
  | [], [], _ => rfl
  | [], _ :: _, h => h.elim
  | none :: _, [], h => h.elim
  | some _ :: _, [], h => h.elim
  | none :: r, _ :: r', h => by rw [List.length_cons, List.length_cons, Sub.len (a := r) (b := r') h]
  | some _ :: r, _ :: r', h => by rw [List.length_cons, List.length_cons, Sub.len (a := r) (b := r') h.2]
theorem Sub.get : ∀ {a b : St} {i : Nat} {v : V}, Sub a b → a[i]? = some (some v) → b[i]? = some (some v)
  | [], [], _, _, _, e => e
  | [], _ :: _, _, _, h, _ => h.elim
  | none :: _, [], _, _, h, _ => h.elim
  | some _ :: _, [], _, _, h, _ => h.elim
  | none :: r, _ :: r', 0, v, h, e => by simp at e
  | none :: r, _ :: r', i + 1, v, h, e => by
    rw [List.getElem?_cons_succ] at e ⊢
    exact Sub.get (a := r) (b := r') h e
  | some _ :: r, _ :: r', 0, v, h, e => by
    rw [List.getElem?_cons_zero] at e ⊢
    rw [h.1]; exact e
  | some _ :: r, _ :: r', i + 1, v, h, e => by
    rw [List.getElem?_cons_succ] at e ⊢
    exact Sub.get (a := r) (b := r') h.2 e
section
variable {X : Cx} {elt tg1 iter1 : Expr} {ifs1 : List Expr} {tg iter : Expr} {ifs : List Expr} {scope : Scope} {pos : Pos} {wi wi1 : TI} {g g1 : TG} {tf tf1 : TT} {te : TE}
end
end L2

set_option Elab.async false
set_option linter.all false
set_option maxRecDepth 100000
set_option maxHeartbeats 4000000
namespace L2
open PySem PySem.Spec PyProof.Rows
section
variable {X : Cx} {elt tg1 iter1 : Expr} {ifs1 : List Expr} {tg iter : Expr} {ifs : List Expr} {scope : Scope} {pos : Pos} {wi wi1 : TI} {g g1 : TG} {tf tf1 : TT} {te : TE}
end
end L2

set_option Elab.async false
set_option linter.all false
set_option maxRecDepth 100000
set_option maxHeartbeats 4000000
namespace L2
open PySem PySem.Spec PyProof.Rows

/-! ## any, count, remove -/
section
variable {X : Cx}
theorem call_anyL (hc : X.calm = true) : CallR X (.builtin "any") (fun xs H Q => ∃ (p : Addr) (bs : List Bool), xs = [.ref p] ∧ SqL X.K H p (bs.map V.bl) ∧ Q (.bl (bs.any id)) H) := by
  intro pins s σ H xs us Q I r h
  obtain ⟨p, bs, rfl, hq, q⟩ := h
  obtain ⟨u, rfl, ru⟩ := vals1 r
  cases ru
  obtain ⟨its, rv, pl, hz⟩ := I.list hq
  have hl := pl.isList
  have hpl : p ≠ s.heap.objs.size := by
    obtain ⟨o, e, _⟩ := hl
    exact Nat.ne_of_lt (Heap.lt_size e)
  refine call_any_walk (wpAny_pyIter_list hl ?_)
  refine ⟨s.heap.objs.size, _, _, _, _, _, fun i => bs.getD i false, rfl, Walks.list (prog := X.prog) (w := X.w) (A := X.A.in1) (I.ok.hd hc) _ p hpl its.toArray, ⟨⟨_, Heap.get?_push_size _ rfl, rfl, rfl⟩, hl.push _⟩, ?_, fun h' tk hk => ?_⟩
  · intro i v s' Q' E' hP hQ
    have hP : its.toArray[i]? = some v := hP
    have e1 : its[i]? = some v := by simpa using hP
    have hi : i < bs.length := by
      have h1 := (List.getElem?_eq_some_iff.mp e1).1
      have h2 := rv.length
      rw [List.length_map] at h2
      omega
    have e2 : (bs.map V.bl)[i]? = some (.bl bs[i]) := by simp [hi]
    obtain ⟨u', eu, ru⟩ := rv.get e2
    rw [e1] at eu
    cases eu
    cases ru
    have e3 : bs.getD i false = bs[i] := by simp [hi]
    have hQ2 : Q' (bs.getD i false) s' := hQ
    rw [e3] at hQ2
    exact wpAny_truthy_bool hQ2
  · have k : ∀ b o, s.heap.get? b = some o → h'.get? b = some o := fun b o e => hk b o (by simp; exact Nat.ne_of_lt (Heap.lt_size e)) (Heap.get?_push_of_some _ e)
    have ea : (List.range its.toArray.size).any (fun i => bs.getD i false) = bs.any id := by
      have hlen : its.toArray.size = bs.length := by
        have := rv.length
        rw [List.length_map] at this
        simp only [List.size_toArray]; omega
      rw [hlen, Bool.eq_iff_iff, List.any_eq_true, List.any_eq_true]
      constructor
      · rintro ⟨i, hi, e⟩
        have hi := List.mem_range.mp hi
        exact ⟨bs[i], List.getElem_mem hi, by simpa [hi] using e⟩
      · rintro ⟨b, hb, e⟩
        obtain ⟨i, hi, rfl⟩ := List.mem_iff_getElem.mp hb
        exact ⟨i, List.mem_range.mpr hi, by simpa [hi] using e⟩
    exact ⟨.bl (bs.any id), H, I.kept k, by rw [ea]; rfl, q⟩
theorem boot_any : bootBuiltins "any" = some (.builtin "any") := by decide +kernel
end
end L2

set_option Elab.async false
set_option linter.all false
set_option maxRecDepth 100000
set_option maxHeartbeats 4000000
namespace L2
open PySem PySem.Spec PyProof.Rows
section
variable {X : Cx} {elt iter1 : Expr} {ifs1 : List Expr} {iter : Expr} {ifs : List Expr} {scope : Scope} {pos : Pos} {wi wi1 : TI} {tf tf1 : TT} {te : TE} {x y z : Str} {px py pz tp tp2 : Pos} {kk kk2 : Nat}
end
end L2

set_option Elab.async false
set_option linter.all false
set_option maxRecDepth 100000
set_option maxHeartbeats 4000000
namespace L2
open PySem PySem.Spec PyProof.Rows
section
variable {X : Cx}
end
end L2

set_option Elab.async false
set_option linter.all false
set_option maxRecDepth 100000
set_option maxHeartbeats 4000000
namespace L2
open PySem PySem.Spec PyProof.Rows
theorem pa17 {X : Cx} {e0 e1 e2 e3 e4 e5 e6 e7 e8 e9 e10 e11 e12 e13 e14 e15 e16 : Expr} {t0 t1 t2 t3 t4 t5 t6 t7 t8 t9 t10 t11 t12 t13 t14 t15 t16 : TE} (h0 : PE X e0 t0) (h1 : PE X e1 t1) (h2 : PE X e2 t2) (h3 : PE X e3 t3) (h4 : PE X e4 t4) (h5 : PE X e5 t5) (h6 : PE X e6 t6) (h7 : PE X e7 t7) (h8 : PE X e8 t8) (h9 : PE X e9 t9) (h10 : PE X e10 t10) (h11 : PE X e11 t11) (h12 : PE X e12 t12) (h13 : PE X e13 t13) (h14 : PE X e14 t14) (h15 : PE X e15 t15) (h16 : PE X e16 t16) (h : ([e0, e1, e2, e3, e4, e5, e6, e7, e8, e9, e10, e11, e12, e13, e14, e15, e16]).all nStar = true := by rfl) : PA X [e0, e1, e2, e3, e4, e5, e6, e7, e8, e9, e10, e11, e12, e13, e14, e15, e16] (tCons t0 (tCons t1 (tCons t2 (tCons t3 (tCons t4 (tCons t5 (tCons t6 (tCons t7 (tCons t8 (tCons t9 (tCons t10 (tCons t11 (tCons t12 (tCons t13 (tCons t14 (tCons t15 (tCons t16 tNil))))))))))))))))) := by
  have hz := List.all_eq_true.mp h
  exact (pa_cons h0 (pa_cons h1 (pa_cons h2 (pa_cons h3 (pa_cons h4 (pa_cons h5 (pa_cons h6 (pa_cons h7 (pa_cons h8 (pa_cons h9 (pa_cons h10 (pa_cons h11 (pa_cons h12 (pa_cons h13 (pa_cons h14 (pa_cons h15 (pa_cons h16 pa_nil (star_cons (hz _ (by simp)))) (star_cons (hz _ (by simp)))) (star_cons (hz _ (by simp)))) (star_cons (hz _ (by simp)))) (star_cons (hz _ (by simp)))) (star_cons (hz _ (by simp)))) (star_cons (hz _ (by simp)))) (star_cons (hz _ (by simp)))) (star_cons (hz _ (by simp)))) (star_cons (hz _ (by simp)))) (star_cons (hz _ (by simp)))) (star_cons (hz _ (by simp)))) (star_cons (hz _ (by simp)))) (star_cons (hz _ (by simp)))) (star_cons (hz _ (by simp)))) (star_cons (hz _ (by simp)))) (star_cons (hz _ (by simp))))
section
variable {X : Cx}
theorem call_reprD (hg : X.A.guards = some []) (hu : X.A.units + 64 < cLine) : CallR X (.builtin "repr") (fun xs H Q => ∃ (v : V) (d : Dat), xs = [v] ∧ Rep X.K H d v ∧ d.shw = true ∧ d.blk ≤ 1048576 ∧ d.py.depth ≤ 60 ∧ Q (.str d.py.shown) H) := by
  intro pins s σ H xs us Q I r h
  obtain ⟨v, d, rfl, hr, h1, h2, h3, q⟩ := h
  obtain ⟨u, rfl, ru⟩ := vals1 r
  obtain ⟨s1, s2, s3⟩ := Dat.py_short d h1
  have fits : d.py.shown.length ≤ sizeLine := PyData.shown_fits_bulk (B := 13) (by decide) (by decide) s1 (by rw [Dat.py_blk]; exact h2)
  have onRef : ∀ (a : Addr), v = .ref a → wpAny (model X.prog X.w) X.A (call (.builtin "repr") [u]) (EP X pins σ Q) X.xe s := fun a e => by
    subst e
    obtain ⟨as, q1⟩ := hr.reads I ru
    cases (show u = _ from ru)
    exact repr_of_reads' q1 s2 (PyData.noDict_hsm s3) hg (by omega) (fun _ _ e => e) (fun h' u tk hk => ⟨.str d.py.shown, H, I.kept hk, ⟨u, rfl⟩, q⟩) fits
  cases d with
  | non =>
    cases (show v = _ from hr)
    cases (show u = _ from ru)
    exact P.repr_of_none ⟨.str _, H, I.tok _, ⟨_, rfl⟩, q⟩
  | bl b =>
    cases (show v = _ from hr)
    cases (show u = _ from ru)
    refine P.repr_of_bool ⟨.str _, H, I.tok _, ⟨s.toks, ?_⟩, q⟩
    cases b <;> rfl
  | int i =>
    cases (show v = _ from hr)
    obtain ⟨t, rfl⟩ := ru
    exact P.repr_of_int (nat_log (of_decide_eq_true h1)) ⟨.str _, H, I.tok _, ⟨_, rfl⟩, q⟩
  | str x =>
    cases (show v = _ from hr)
    obtain ⟨t, rfl⟩ := ru
    exact P.repr_of_str ⟨.str _, H, I.tok _, ⟨_, rfl⟩, q⟩ fits
  | lst ds => obtain ⟨a, _, e, _⟩ := id hr; exact onRef a e
  | tup ds => obtain ⟨a, _, e, _⟩ := id hr; exact onRef a e
theorem boot_repr : bootBuiltins "repr" = some (.builtin "repr") := by decide +kernel
end
end L2

set_option Elab.async false
set_option linter.all false
set_option maxRecDepth 100000
set_option maxHeartbeats 4000000
namespace L2
open PySem PySem.Spec PyProof.Rows
section
variable {X : Cx} {elt tg1 iter1 : Expr} {ifs1 : List Expr} {tg iter : Expr} {ifs : List Expr} {scope : Scope} {pos : Pos} {wi wi1 : TI} {g g1 : TG} {tf tf1 : TT} {te : TE} {x z : Str} {px pz tp tp2 : Pos} {kk kk2 : Nat}
end
end L2

set_option Elab.async false
set_option linter.all false
set_option maxRecDepth 100000
set_option maxHeartbeats 4000000
namespace L2
open PySem PySem.Spec PyProof.Rows

/-! ### lists of pairs as tables -/
section
variable {κ : Type} [DecidableEq κ]
def valV (kvs : List (κ × V)) (k : κ) : Option V := (kvs.find? fun kv => decide (kv.1 = k)).map (·.2)
def putK (kvs : List (κ × V)) (k : κ) (v : V) : List (κ × V) :=
  if (kvs.any fun kv => decide (kv.1 = k)) = true then kvs.map (fun kv => if kv.1 = k then (kv.1, v) else kv) else kvs ++ [(k, v)]
def dropK (kvs : List (κ × V)) (k : κ) : List (κ × V) := kvs.filter fun kv => decide (kv.1 ≠ k)

theorem valV_pos {p : κ × V} {r : List (κ × V)} {k : κ} (e : p.1 = k) : valV (p :: r) k = some p.2 := by simp [valV, List.find?_cons, e]
theorem valV_neg {p : κ × V} {r : List (κ × V)} {k : κ} (e : ¬ p.1 = k) : valV (p :: r) k = valV r k := by simp [valV, List.find?_cons, e]
theorem valV_any (k : κ) : ∀ kvs : List (κ × V), (kvs.any fun kv => decide (kv.1 = k)) = (valV kvs k).isSome
  | [] => rfl
  | p :: r => by
    rw [List.any_cons]
    by_cases e : p.1 = k
    · simp only [valV_pos e, decide_eq_true e, Bool.true_or, Option.isSome_some]
    · rw [valV_neg e, decide_eq_false e, Bool.false_or]; exact valV_any k r
theorem valV_map (k j : κ) (y : V) : ∀ kvs : List (κ × V), valV (kvs.map fun kv => if kv.1 = k then (kv.1, y) else kv) j = (valV kvs j).map fun x => if j = k then y else x
  | [] => rfl
  | p :: r => by
    have ih := valV_map k j y r
    rw [List.map_cons]
    by_cases h : p.1 = k
    · rw [if_pos h]
      by_cases e : p.1 = j
      · rw [valV_pos (p := (p.1, y)) e, valV_pos e, Option.map_some, if_pos (e.symm.trans h)]
      · rw [valV_neg (p := (p.1, y)) e, valV_neg e, ih]
    · rw [if_neg h]
      by_cases e : p.1 = j
      · rw [valV_pos (p := p) e, valV_pos e, Option.map_some, if_neg (fun z => h (e.trans z))]
      · rw [valV_neg (p := p) e, valV_neg e, ih]
theorem valV_snoc (k j : κ) (y : V) : ∀ kvs : List (κ × V), valV kvs k = none → valV (kvs ++ [(k, y)]) j = if j = k then some y else valV kvs j
  | [], _ => by
    by_cases e : k = j
    · rw [if_pos e.symm]; exact valV_pos (p := (k, y)) e
    · rw [if_neg (fun z => e z.symm)]; exact valV_neg (p := (k, y)) e
  | p :: r, hn => by
    rw [List.cons_append]
    have hk : ¬ p.1 = k := fun z => by rw [valV_pos z] at hn; cases hn
    rw [valV_neg hk] at hn
    have ih := valV_snoc k j y r hn
    by_cases e : p.1 = j
    · rw [valV_pos e, valV_pos e, if_neg (fun z => hk (e.trans z))]
    · rw [valV_neg e, valV_neg e, ih]
theorem valV_put (kvs : List (κ × V)) (k j : κ) (y : V) : valV (putK kvs k y) j = if j = k then some y else valV kvs j := by
  unfold putK
  by_cases a : (kvs.any fun kv => decide (kv.1 = k)) = true
  · rw [if_pos a, valV_map]
    rw [valV_any] at a
    by_cases e : j = k
    · obtain ⟨x, hx⟩ := Option.isSome_iff_exists.mp a
      rw [if_pos e, e, hx, Option.map_some, if_pos rfl]
    · rw [if_neg e]
      cases valV kvs j with
      | none => rfl
      | some x => rw [Option.map_some, if_neg e]
  · rw [if_neg a]
    refine valV_snoc k j y kvs ?_
    rw [valV_any] at a
    cases q : valV kvs k with
    | none => rfl
    | some x => rw [q] at a; exact (a rfl).elim
theorem length_putK (kvs : List (κ × V)) (k : κ) (v : V) : (putK kvs k v).length ≤ kvs.length + 1 := by
  unfold putK
  split
  · rw [List.length_map]; omega
  · rw [List.length_append, List.length_cons, List.length_nil]; omega
theorem RelO.isSome_eq {o : Option V} {u : Option Value} (r : RelO o u) : o.isSome = u.isSome := by
  cases o with
  | none => cases u with
    | none => rfl
    | some _ => exact (show False from r).elim
  | some _ => cases u with
    | none => exact (show False from r).elim
    | some _ => rfl
theorem RelO.getD {o : Option V} {u : Option Value} {d : V} {d' : Value} (r : RelO o u) (rd : RelV d d') : RelV (o.getD d) (u.getD d') := by
  cases o with
  | none => cases u with
    | none => exact rd
    | some _ => exact (show False from r).elim
  | some _ => cases u with
    | none => exact (show False from r).elim
    | some _ => exact r

theorem KV.val {kvs : List (κ × V)} {vs : List (κ × Value)} (r : KV kvs vs) (k : κ) : RelO (valV kvs k) (valueAt vs k) := by
  unfold KV at r
  induction r with
  | nil => exact True.intro
  | @cons p q ps qs h t ih =>
    obtain ⟨h1, h2⟩ := h
    by_cases e : p.1 = k
    · have e' : q.1 = k := h1.symm.trans e
      have b : valueAt (q :: qs) k = some q.2 := by simp [valueAt, List.find?_cons, e']
      rw [valV_pos e, b]; exact h2
    · have e' : ¬ q.1 = k := fun z => e (h1.trans z)
      have b : valueAt (q :: qs) k = valueAt qs k := by simp [valueAt, List.find?_cons, e']
      rw [valV_neg e, b]; exact ih
theorem KV.any {kvs : List (κ × V)} {vs : List (κ × Value)} (r : KV kvs vs) (k : κ) : (kvs.any fun kv => decide (kv.1 = k)) = vs.any fun kv => decide (kv.1 = k) := by
  unfold KV at r
  induction r with
  | nil => rfl
  | cons h t ih => rw [List.any_cons, List.any_cons, ih, h.1]
theorem KV.repl {kvs : List (κ × V)} {vs : List (κ × Value)} (r : KV kvs vs) (k : κ) {y : V} {u : Value} (ry : RelV y u) :
    KV (kvs.map fun kv => if kv.1 = k then (kv.1, y) else kv) (vs.map fun kv => if kv.1 = k then (kv.1, u) else kv) := by
  unfold KV at r ⊢
  induction r with
  | nil => exact .nil
  | @cons p q ps qs h t ih =>
    rw [List.map_cons, List.map_cons]
    refine .cons ?_ ih
    obtain ⟨h1, h2⟩ := h
    by_cases e : p.1 = k
    · rw [if_pos e, if_pos (h1.symm.trans e)]; exact ⟨h1, ry⟩
    · rw [if_neg e, if_neg (fun z => e (h1.trans z))]; exact ⟨h1, h2⟩
theorem KV.put {kvs : List (κ × V)} {vs : List (κ × Value)} (r : KV kvs vs) (k : κ) {y : V} {u : Value} (ry : RelV y u) : KV (putK kvs k y) (stored vs k u) := by
  unfold putK stored
  rw [r.any k]
  by_cases e : (vs.any fun kv => decide (kv.1 = k)) = true
  · rw [if_pos e, if_pos e]; exact r.repl k ry
  · rw [if_neg e, if_neg e]; exact Paired.snoc r ⟨rfl, ry⟩
theorem KV.drop {kvs : List (κ × V)} {vs : List (κ × Value)} (r : KV kvs vs) (k : κ) : KV (dropK kvs k) (without vs k) := by
  unfold KV at r ⊢
  unfold dropK without
  induction r with
  | nil => exact .nil
  | @cons p q ps qs h t ih =>
    obtain ⟨h1, h2⟩ := h
    rw [List.filter_cons, List.filter_cons]
    by_cases e : p.1 = k
    · have a : ¬ decide (p.1 ≠ k) = true := by simp [e]
      have b : ¬ decide (q.1 ≠ k) = true := by simp [h1.symm.trans e]
      rw [if_neg a, if_neg b]; exact ih
    · have e' : ¬ q.1 = k := fun z => e (h1.trans z)
      have a : decide (p.1 ≠ k) = true := by simp [e]
      have b : decide (q.1 ≠ k) = true := by simp [e']
      rw [if_pos a, if_pos b]; exact .cons ⟨h1, h2⟩ ih
theorem KV.keys {kvs : List (κ × V)} {vs : List (κ × Value)} (r : KV kvs vs) : kvs.map (·.1) = vs.map (·.1) := by
  unfold KV at r
  induction r with
  | nil => rfl
  | cons h t ih => rw [List.map_cons, List.map_cons, ih, h.1]
theorem KV.length {kvs : List (κ × V)} {vs : List (κ × Value)} (r : KV kvs vs) : kvs.length = vs.length := Paired.length r
end


/-! ### a tracked dict, its keys ints and texts or tuples of these -/
theorem kV_is {P : Program} {w : World} {k : Key} {u : Value} (r : RelV (kV k) u) : (mixKind P w).is k u = true := by
  cases k with
  | inl i => obtain ⟨t, e⟩ := (show ∃ t, u = Value.int i t from r); subst e; exact mixKind_int P w i t
  | inr x => obtain ⟨t, e⟩ := (show ∃ t, u = Value.str x t from r); subst e; exact mixKind_str P w x t
theorem items_are {P : Program} {w : World} : ∀ {ks : List Key} {us : List Value}, Vals (ks.map kV) us → ItemsAre (mixKind P w) ks us
  | [], _, r => by rw [List.map_nil] at r; cases r; exact .nil
  | k :: ks, _, r => by
    rw [List.map_cons] at r
    cases r with
    | cons h t => exact .cons (kV_is h) (items_are t)

abbrev KT (H : Hp) : List (List Key × V) → List (List Key × Addr × Value) → Prop := Paired fun p q => p.1 = q.1 ∧ H q.2.1 = some (.tup (p.1.map kV)) ∧ RelV p.2 q.2.2
theorem KT.val {H : Hp} {kvs : List (List Key × V)} {xs : List (List Key × Addr × Value)} (r : KT H kvs xs) (k : List Key) : RelO (valV kvs k) ((atKey xs k).map (·.2)) := by
  induction r with
  | nil => exact True.intro
  | @cons p q ps qs h t ih =>
    obtain ⟨h1, _, h2⟩ := h
    by_cases e : p.1 = k
    · have e' : q.1 = k := h1.symm.trans e
      have b : atKey (q :: qs) k = some q.2 := by simp [atKey, List.find?_cons, e']
      rw [valV_pos e, b]; exact h2
    · have e' : ¬ q.1 = k := fun z => e (h1.trans z)
      have b : atKey (q :: qs) k = atKey qs k := by simp [atKey, List.find?_cons, e']
      rw [valV_neg e, b]; exact ih
theorem KT.repl {H : Hp} {kvs : List (List Key × V)} {xs : List (List Key × Addr × Value)} (r : KT H kvs xs) (k : List Key) {y : V} {u : Value} (ry : RelV y u) :
    KT H (kvs.map fun kv => if kv.1 = k then (kv.1, y) else kv) (xs.map (putAt k u)) := by
  induction r with
  | nil => exact .nil
  | @cons p q ps qs h t ih =>
    rw [List.map_cons, List.map_cons]
    refine .cons ?_ ih
    obtain ⟨h1, h2, h3⟩ := h
    unfold putAt
    by_cases e : p.1 = k
    · rw [if_pos e, if_pos (h1.symm.trans e)]; exact ⟨h1, h2, ry⟩
    · rw [if_neg e, if_neg (fun z => e (h1.trans z))]; exact ⟨h1, h2, h3⟩
theorem KT.put {H : Hp} {kvs : List (List Key × V)} {xs : List (List Key × Addr × Value)} (r : KT H kvs xs) (k : List Key) {b : Addr} {y : V} {u : Value} (hb : H b = some (.tup (k.map kV))) (ry : RelV y u) :
    KT H (putK kvs k y) (storedH xs k b u) := by
  have e : (kvs.any fun kv => decide (kv.1 = k)) = (atKey xs k).isSome := by
    rw [valV_any, (r.val k).isSome_eq, Option.isSome_map]
  unfold putK storedH
  rw [e]
  by_cases q : (atKey xs k).isSome = true
  · rw [if_pos q, if_pos q]; exact r.repl k ry
  · rw [if_neg q, if_neg q]; exact Paired.snoc r ⟨rfl, hb, ry⟩
theorem KT.keeps {H H' : Hp} {kvs : List (List Key × V)} {xs : List (List Key × Addr × Value)} (r : KT H kvs xs) (ht : ∀ b ys, H b = some (.tup ys) → H' b = some (.tup ys)) : KT H' kvs xs :=
  Paired.mapP r fun _ _ z => ⟨z.1, ht _ _ z.2.1, z.2.2⟩

section
variable {P : Program} {w : World} {H : Hp} {h : Heap} {a : Addr}
theorem rd_of {u : HO} (ok : HOk P w H h) (e : Rd H a u) : ObjOk P w H h a u := e.ok ok
theorem dk_rd {kvs : List (Key × V)} (ok : HOk P w H h) (e : Rd H a (.dK kvs)) : kvs.length ≤ sizeLine ∧ (a == sysModules) = false ∧ ∃ vs, KV kvs vs ∧ h.DictOf (mixKind P w) a vs :=
  show ObjOk P w H h a (.dK kvs) from rd_of ok e
theorem dk_of {kvs : List (Key × V)} (ok : HOk P w H h) (e : H a = some (.dK kvs)) : kvs.length ≤ sizeLine ∧ (a == sysModules) = false ∧ ∃ vs, KV kvs vs ∧ h.DictOf (mixKind P w) a vs := dk_rd ok (.inl e)
theorem key_of {ks : List Key} (ok : HOk P w H h) (e : H a = some (.tup (ks.map kV))) : (tupleKind (mixKind P w)).is h ks a := by
  obtain ⟨_, its, r, o, h1, h2, n, h3⟩ := (show ObjOk P w H h a (.tup (ks.map kV)) from ok a _ e)
  exact ⟨o, its.toArray, n, h1, h2, h3, by simpa using items_are r⟩
theorem dt_rd {kvs : List (List Key × V)} (ok : HOk P w H h) (e : Rd H a (.dT kvs)) : kvs.length ≤ sizeLine ∧ (a == sysModules) = false ∧
    ∃ xs, KT H kvs xs ∧ h.DictOfH (tupleKind (mixKind P w)) a xs := by
  obtain ⟨z, y, xs, r, o, es, ep, h1, h2, h3, h4, h5⟩ := (show ObjOk P w H h a (.dT kvs) from rd_of ok e)
  refine ⟨z, y, xs, r, o, es, ep, h1, h2, h3, h4, fun x hx => ?_, h5⟩
  have all : ∀ {l : List (List Key × V)} {m : List (List Key × Addr × Value)}, KT H l m → ∀ x ∈ m, (tupleKind (mixKind P w)).is h x.1 x.2.1 := by
    intro l m q
    induction q with
    | nil => intro x hx; exact nomatch hx
    | @cons p q ps qs hq t ih =>
      intro x hx
      rcases List.mem_cons.mp hx with e | hx
      · subst e
        exact key_of ok (by rw [← hq.1]; exact hq.2.1)
      · exact ih x hx
  exact all r x hx
theorem dt_of {kvs : List (List Key × V)} (ok : HOk P w H h) (e : H a = some (.dT kvs)) : kvs.length ≤ sizeLine ∧ (a == sysModules) = false ∧
    ∃ xs, KT H kvs xs ∧ h.DictOfH (tupleKind (mixKind P w)) a xs := dt_rd ok (.inl e)
end

def DGet (H : Hp) (a : Addr) (y : V) (r : Option V) : Prop :=
  (∃ kvs k, Rd H a (.dK kvs) ∧ y = kV k ∧ r = valV kvs k) ∨ ∃ kvs k b, Rd H a (.dT kvs) ∧ y = .ref b ∧ H b = some (.tup (k.map kV)) ∧ r = valV kvs k
def DPut (H : Hp) (a : Addr) (y v : V) (H' : Hp) : Prop :=
  (∃ kvs k, H a = some (.dK kvs) ∧ y = kV k ∧ kvs.length < sizeLine ∧ H' = upd H a (.dK (putK kvs k v))) ∨
  ∃ kvs k b, H a = some (.dT kvs) ∧ y = .ref b ∧ H b = some (.tup (k.map kV)) ∧ kvs.length < sizeLine ∧ H' = upd H a (.dT (putK kvs k v))
theorem DGet.k {H : Hp} {a : Addr} {kvs : List (Key × V)} {k : Key} (e : H a = some (.dK kvs)) : DGet H a (kV k) (valV kvs k) := .inl ⟨kvs, k, .inl e, rfl, rfl⟩
theorem DGet.t {H : Hp} {a b : Addr} {kvs : List (List Key × V)} {k : List Key} (e : H a = some (.dT kvs)) (eb : H b = some (.tup (k.map kV))) : DGet H a (.ref b) (valV kvs k) := .inr ⟨kvs, k, b, .inl e, rfl, eb, rfl⟩
theorem DPut.k {H : Hp} {a : Addr} {kvs : List (Key × V)} {k : Key} {v : V} (e : H a = some (.dK kvs)) (hl : kvs.length < sizeLine) : DPut H a (kV k) v (upd H a (.dK (putK kvs k v))) := .inl ⟨kvs, k, e, rfl, hl, rfl⟩
theorem DPut.t {H : Hp} {a b : Addr} {kvs : List (List Key × V)} {k : List Key} {v : V} (e : H a = some (.dT kvs)) (eb : H b = some (.tup (k.map kV))) (hl : kvs.length < sizeLine) :
    DPut H a (.ref b) v (upd H a (.dT (putK kvs k v))) := .inr ⟨kvs, k, b, e, rfl, eb, hl, rfl⟩


section
variable {X : Cx} {pins : List (Addr × Obj)} {σ : St} {H : Hp} {s : Shared} {a : Addr} {y v : V} {u r : Value} {o : Option V} {A : Around} {E : Value → Shared → Prop}

theorem Inv.big (I : Inv X pins σ H s) : sysModules < s.heap.objs.size := by
  have h : mainGlobals < s.heap.objs.size := (I.mod.glob.keeps I.bk).lt
  exact Nat.lt_trans (by decide) h

theorem d_in {Q : Value → Shared → Prop} (hu : A.units + 1 < cLine) (I : Inv X pins σ H s) (g : DGet H a y o) (ry : RelV y u) (h : ∀ s', Inv X pins σ H s' → Q (.bool o.isSome) s') :
    wpAny (model X.prog X.w) A (compareOp .In u (.ref a)) Q E s := by
  rcases g with ⟨kvs, k, e, ey, l⟩ | ⟨kvs, k, b, e, ey, eb, l⟩
  · subst ey
    obtain ⟨z, hd, vs, rel, dd⟩ := dk_rd I.hok e
    refine wpAny_in_of (kV_is ry) hd dd.mapOf ?_
    rw [← (rel.val k).isSome_eq, ← l]
    exact h _ (I.tok _)
  · subst ey
    cases (show u = Value.ref b from ry)
    obtain ⟨z, hd, xs, rel, dd⟩ := dt_rd I.hok e
    refine wpAny_in_heap (tupleKind_room_in1 hu) (key_of I.hok eb) hd dd ?_
    have q := (rel.val k).isSome_eq
    rw [Option.isSome_map] at q
    rw [← q, ← l]
    exact h _ (I.tok _)
theorem d_write {h' : Heap} {t' : Nat} {ob : HO} (I : Inv X pins σ H s) (mu : Mut (H a)) (hs : Heap.SameBut a s.heap h') (he : ∃ q, h'.get? a = some q) (new : ObjOk X.prog X.w (upd H a ob) h' a ob) :
    Inv X pins σ (upd H a ob) { s with heap := h', toks := t' } :=
  I.write (x := a) (e := a) mu (.inl rfl) (fun b q hb z => (hs.2 b hb).trans z) he new
theorem dk_new {P : Program} {w : World} {H' : Hp} {h' : Heap} {kvs : List (Key × V)} {vs : List (Key × Value)} (z : kvs.length ≤ sizeLine) (hd : (a == sysModules) = false) (rel : KV kvs vs) (dd : h'.DictOf (mixKind P w) a vs) :
    ObjOk P w H' h' a (.dK kvs) := ⟨z, hd, vs, rel, dd⟩
theorem d_setItem {H' : Hp} {Q : Unit → Shared → Prop} (hu : A.units + 1 < cLine) (I : Inv X pins σ H s) (g : DPut H a y v H') (ry : RelV y u) (rv : RelV v r) (h : ∀ s', Inv X pins σ H' s' → Q () s') :
    wpAny (model X.prog X.w) A (setItem (.ref a) u r) Q E s := by
  rcases g with ⟨kvs, k, e, ey, l, eH⟩ | ⟨kvs, k, b, e, ey, eb, l, eH⟩
  · subst ey eH
    obtain ⟨z, hd, vs, rel, dd⟩ := dk_of I.hok e
    have hz : vs.length ≤ sizeLine := by rw [← rel.length]; exact z
    have hl : (putK kvs k v).length ≤ sizeLine := by have := length_putK kvs k v; omega
    refine wpAny_setItem_pairs (hsz := hz) (kV_is ry) dd fun h' dd' hs => h _ ?_
    have he : ∃ q, h'.get? a = some q := let ⟨q, _, _, hq, _⟩ := dd'; ⟨q, hq⟩
    exact d_write I (by rw [e]; exact True.intro) hs he (dk_new hl hd (rel.put k rv) dd')
  · subst ey eH
    cases (show u = Value.ref b from ry)
    obtain ⟨z, hd, xs, rel, dd⟩ := dt_of I.hok e
    have hz : xs.length ≤ sizeLine := by rw [← Paired.length rel]; exact z
    have hl : (putK kvs k v).length ≤ sizeLine := by have := length_putK kvs k v; omega
    refine wpAny_setItem_heap (hsz := hz) (tupleKind_room_in1 hu) (key_of I.hok eb) dd fun h' dd' hs => h _ ?_
    obtain ⟨q, es, ep, hq, h2, h3, h4, _, h5⟩ := dd'
    refine d_write I (by rw [e]; exact True.intro) hs ⟨q, hq⟩ ⟨hl, hd, _, (rel.put k eb rv).keeps fun c ys ec => ?_, q, es, ep, hq, h2, h3, h4, h5⟩
    rw [upd_ne (ne_of ec e (fun z => nomatch z))]
    exact ec
end

section
variable {X : Cx} {pins : List (Addr × Obj)} {σ : St} {H : Hp} {s : Shared} {a : Addr} {kvs : List (Key × V)} {k : Key} {u : Value} {A : Around} {E : Value → Shared → Prop}
end


/-! ### readings and rules -/
def tDIn (ty td : TE) : TE := fun σ H Q => ty σ H fun y H1 => td σ H1 fun x H2 => ∃ a o, x = .ref a ∧ DGet H2 a y o ∧ Q (.bl o.isSome) H2
def sDPut (td ty tv : TE) : TS := fun D σ H => tv σ H fun v H1 => td σ H1 fun x H2 => ty σ H2 fun y H3 => ∃ a H4, x = .ref a ∧ DPut H3 a y v H4 ∧ D.nx σ H4
section
variable {X : Cx} {o i e value : Expr} {pos pos' tpos : Pos} {td ty tv : TE}
theorem pc_din (hu : X.A.units + 1 < cLine) (hi : PE X i ty) (ho : PE X o td) : PC X .In i o (tDIn ty td) := by
  intro pins s σ H Q I h
  refine thn (hi pins s σ H _ I h) fun iv s1 ⟨y, H1, I1, ry, q1⟩ => thn (ho pins s1 σ H1 _ I1 q1) fun u s2 ⟨x, H2, I2, rx, a, ov, ex, g, q2⟩ => ?_
  subst ex
  obtain rfl : u = Value.ref a := rx
  exact d_in hu I2 g ry fun s3 I3 => ⟨.bl ov.isSome, H2, I3, rfl, q2⟩
theorem ps_dput (hu : X.A.units + 1 < cLine) (ho : PE X o td) (hi : PE X i ty) (hv : PE X value tv) (hs : swapsWith value (some (.Subscript o i pos')) pos.line X.env = pure false) :
    PS X (.Assign [.Subscript o i pos'] value pos) (sDPut td ty tv) := by
  intro pins s σ H D I h
  refine wpAny_Assign_Subscript (thn (hv pins s σ H _ I h) fun r s1 ⟨v, H1, I1, rv, q1⟩ => thn (ho pins s1 σ H1 _ I1 q1) fun u s2 ⟨x, H2, I2, rx, q2⟩ => thn (hi pins s2 σ H2 _ I2 q2) fun iv s3 ⟨y, H3, I3, ry, a, H4, ex, g, q3⟩ => ?_) hs
  subst ex
  obtain rfl : u = Value.ref a := rx
  exact d_setItem hu I3 g ry rv fun s4 I4 => ⟨σ, H4, I4, q3⟩
end


/-! ### displays -/
theorem dt_empty {P : Program} {w : World} {H : Hp} (h : Heap) (hb : sysModules < h.objs.size) : ObjOk P w H (h.push { cls := .type "dict", data := .dict #[] }) h.objs.size (.dT []) :=
  ⟨Nat.zero_le _, beq_eq_false_iff_ne.mpr (Ne.symm (Nat.ne_of_lt hb)), [], .nil, _, #[], 0, Heap.get?_push_size _ rfl, ⟨rfl, rfl, rfl⟩, rfl, rfl, List.nodup_nil⟩
def tDNewT : TE := fun _ H Q => ∀ p, H p = none → Q (.ref p) (upd H p (.dT []))
section
variable {X : Cx} {pos : Pos}
theorem pe_dnewT : PE X (.Dict [] [] pos) tDNewT := fun pins s σ H Q I h =>
  wpAny_Dict_empty ⟨.ref s.heap.objs.size, _, I.laid (a := s.heap.objs.size) (o := .dT []) (t' := s.toks) (fun _ _ q => Heap.get?_push_of_some _ q) (Nat.le_refl _) (dt_empty s.heap I.big), rfl, h _ (I.hok.fresh (Nat.le_refl _))⟩
end

/-! ### methods -/
structure M1 (X : Cx) (o : Expr) (m : Str) (apos : Pos) (e : Expr) (cpos : Pos) : Prop where
  base : attributeBase o m X.env (eval o X.env) = eval o X.env
  few : ((backTo cpos (starEach [e] X.env)).all (fun x => !x.1) && (backToKw cpos (keywordEach [] X.env)).all (fun x => x.1.isSome)
    && decide (([e] : List Expr).length + ([] : List Keyword).length + (if ([] : List Keyword).isEmpty then 0 else 1) < 30)) = true
  line : (apos.endLine == cpos.line) = true
  trees : backTo cpos (starEach [e] X.env) = [(false, eval e X.env)]
structure M2 (X : Cx) (o : Expr) (m : Str) (apos : Pos) (e f : Expr) (cpos : Pos) : Prop where
  base : attributeBase o m X.env (eval o X.env) = eval o X.env
  few : ((backTo cpos (starEach [e, f] X.env)).all (fun x => !x.1) && (backToKw cpos (keywordEach [] X.env)).all (fun x => x.1.isSome)
    && decide (([e, f] : List Expr).length + ([] : List Keyword).length + (if ([] : List Keyword).isEmpty then 0 else 1) < 30)) = true
  line : (apos.endLine == cpos.line) = true
  trees : backTo cpos (starEach [e, f] X.env) = [(false, eval e X.env), (false, eval f X.env)]

section
variable {X : Cx} {pins : List (Addr × Obj)} {σ : St} {H : Hp} {s : Shared} {a : Addr} {y d : V} {u r : Value} {o : Option V} {A : Around} {E : Value → Shared → Prop}
end

section
variable {X : Cx} {o e f : Expr} {apos cpos : Pos} {td ty tx : TE}
end

/-! ### dict(d): a copy -/
section
variable {X : Cx} {pins : List (Addr × Obj)} {σ : St} {H : Hp} {s : Shared} {a : Addr} {kvs : List (Key × V)} {A : Around} {E : Value → Shared → Prop}
end


section
variable {X : Cx} {pins : List (Addr × Obj)} {σ : St} {H : Hp} {s : Shared} {a : Addr} {y : V} {u : Value} {A : Around} {E : Value → Shared → Prop}
end
end L2

set_option Elab.async false
set_option linter.all false
set_option maxRecDepth 100000
set_option maxHeartbeats 4000000
namespace PySem
open PySem PySem.W PySem.Calls PyProof.Rows PyProof.V PySem.Spec
theorem dict_eq_nil (a b : Addr) (es : Array DictEntry) (n n2 : Nat) (dd dd2 : Option Addr) (sl sl2 : Array (Option Value)) (ha : (a == sysModules) = false) (hb : (b == sysModules) = false) :
    Meets (Builtin.«dict.__eq__» ⟨[.ref a, .ref b], []⟩)
      (fun _ R s => s.heap.get? a = some { cls := .type "dict", dict := dd, data := .dict es n, slots := sl } ∧ s.heap.get? b = some { cls := .type "dict", dict := dd2, data := .dict #[] n2, slots := sl2 } ∧
        R (.ok (.ret (.bool es.isEmpty))) s) :=
  .of_wp fun prog w A R s h => by
    obtain ⟨hp, g, d, tk, os⟩ := s; obtain ⟨hl, hb', h⟩ := h
    have f3 : isSubtype (.type "dict") (.type "dict") = pure true := by rw [isSubtype_type]; kernel_rfl
    have hTb : (⟨hp, g, d, tk, os⟩ : Shared).TypeIs (.ref b) "dict" := ⟨_, hb', rfl⟩
    refine wpAny_bind ?_
    refine wpAny_bind (wpAny_notOrdered_dict ⟨_, hl, rfl⟩ ?_)
    refine wpAny_bind (wpAny_pure ?_)
    refine wpAny_pure ?_
    refine wpAny_bind (wpAny_isInstance (T := "dict") (b := true) hTb f3 ?_)
    refine wpAny_ite_split (fun hab => absurd hab (by decide)) (fun _ => ?_)
    refine wpAny_bind (wpAny_pure ?_)
    refine wpAny_bind (wpAny_pure ?_)
    have e1 : (a == sysModules) = true ↔ False := by rw [ha]; simp
    have e2 : (b == sysModules) = true ↔ False := by rw [hb]; simp
    unfold Builtin.Dict.samePairs Builtin.Dict.showsAll
    refine wpAny_bind ?_
    rw [if_neg (by rw [ha]; exact Bool.false_ne_true), if_neg (by rw [hb]; exact Bool.false_ne_true)]
    refine wpAny_bind (wpAny_pure ?_)
    refine wpAny_bind (wpAny_pure ?_)
    refine wpAny_bind (wpAny_dictEntries hl rfl ?_)
    refine wpAny_bind (wpAny_dictEntries hb' rfl ?_)
    cases he : es.isEmpty with
    | true =>
      have hz : es = #[] := by simpa using he
      subst hz
      refine wpAny_ite_split (fun hab => absurd hab (by decide)) (fun _ => ?_)
      refine wpAny_bind (wpAny_dictEpoch hl rfl ?_)
      rw [he] at h
      have hF : ∀ {β : Type} (x : β) (f : Nat → β → Sem (ForInStep β)), forIn [0:(#[] : Array DictEntry).size] x f = pure x := fun x f => by
        rw [Std.Legacy.Range.forIn_eq_forIn_range']
        rfl
      rw [hF]
      refine wpAny_bind (wpAny_pure ?_)
      wp_walk
      exact ⟨_, rfl, h⟩
    | false =>
      have hz : es.size ≠ 0 := fun z => by rw [Array.size_eq_zero_iff.mp z] at he; cases he
      refine wpAny_ite_split (fun _ => ?_) (fun hab => absurd (by simpa using hz) hab)
      rw [he] at h
      wp_walk
      exact ⟨_, rfl, h⟩
end PySem

namespace L2
open PySem PySem.Spec PyProof.Rows
section
variable {X : Cx}
theorem op_eqDE (hu : X.A.units < cLine) : OpR X (compareOp .Eq) (fun x y H Q => ∃ (a b : Addr) (kvs : List (List Key × V)), x = .ref a ∧ y = .ref b ∧ H a = some (.dT kvs) ∧ H b = some (.dT []) ∧ Q (.bl kvs.isEmpty) H) := by
  intro pins s σ H x y v u Q I rx ry h
  obtain ⟨a, b, kvs, rfl, rfl, hx, hy, q⟩ := h
  cases rx
  cases ry
  obtain ⟨_, sa, xs, ra, o, es, ep, h1, ⟨c1, c2, c3⟩, h3, h4, _⟩ := (show ObjOk _ _ H s.heap a (.dT kvs) from rd_of I.hok (.inl hx))
  obtain ⟨_, sb, ys, rb, o', es', ep', h1', ⟨c1', c2', c3'⟩, h3', h4', _⟩ := (show ObjOk _ _ H s.heap b (.dT []) from rd_of I.hok (.inl hy))
  cases rb
  have e0 : es' = #[] := by
    apply Array.toList_inj.mp
    rw [h4']; rfl
  have ez : es.isEmpty = kvs.isEmpty := by
    have l1 : es.size = kvs.length := by rw [← Array.length_toList, h4, List.length_map]; exact (Paired.length ra).symm
    cases kvs with
    | nil => rw [Array.isEmpty_iff_size_eq_zero.mpr l1]; rfl
    | cons p r =>
      cases e : es.isEmpty with
      | false => rfl
      | true => rw [Array.isEmpty_iff_size_eq_zero.mp e] at l1; simp at l1
  obtain ⟨cls, dd, data, sl⟩ := o
  obtain ⟨cls', dd', data', sl'⟩ := o'
  simp only at c1 c2 c3 h3 c1' c2' c3' h3'
  subst c1 c2 c3 h3 c1' c2' c3' h3' e0
  refine richCompare_meets_room (op := .Eq) ⟨_, h1, rfl⟩ ⟨_, h1', rfl⟩ F.slot_dict_eq F.entry_dict_eq (F.args_dict_eq_2 _ _) (PySem.dict_eq_nil a b es ep ep' none none #[] #[] sa sb)
    ⟨h1, h1', show Value.bool es.isEmpty ≠ Value.notImplemented ∧ _ from ⟨(fun x => nomatch x), ?_⟩⟩ hu
  rw [ez]
  exact ⟨.bl _, H, I, rfl, q⟩
theorem op_eqSD (hu : X.A.units < cLine) : OpR X (compareOp .Eq) (fun x y H Q => ∃ (t : Str) (d : Dat), x = .str t ∧ Rep X.K H d y ∧ Q (.bl (match d with | .str z => t == z | _ => false)) H) := by
  intro pins s σ H x y v u Q I rx ry h
  obtain ⟨t, d, rfl, rd, q⟩ := h
  obtain ⟨tk, rfl⟩ := rx
  cases d with
  | non =>
    cases (show y = _ from rd)
    cases (show u = _ from ry)
    exact SeqAt.RcAt.str_none t tk _ _ _ _ ⟨.bl _, H, I, rfl, q⟩
  | bl b =>
    cases (show y = _ from rd)
    cases (show u = _ from ry)
    exact SeqAt.RcAt.str_bool t tk b _ _ _ _ ⟨.bl _, H, I, rfl, q⟩
  | int i =>
    cases (show y = _ from rd)
    obtain ⟨tk', rfl⟩ := ry
    exact SeqAt.RcAt.str_int t tk i tk' _ _ _ _ ⟨.bl _, H, I, rfl, q⟩
  | str z =>
    cases (show y = _ from rd)
    obtain ⟨tk', rfl⟩ := ry
    exact SeqAt.RcAt.str_str t tk z tk' _ _ _ _ ⟨.bl _, H, I, rfl, q⟩
  | lst ds =>
    obtain ⟨a, xs, rfl, hq, _⟩ := id rd
    cases (show u = _ from ry)
    obtain ⟨its, r, pl, hz⟩ := I.list hq
    exact SeqAt.RcAt.str_list t tk pl.isList hu _ _ _ _ ⟨.bl _, H, I, rfl, q⟩
  | tup ds =>
    obtain ⟨a, xs, rfl, hq, _⟩ := id rd
    cases (show u = _ from ry)
    obtain ⟨its, r, pl, hz⟩ := I.tuple hq
    exact SeqAt.RcAt.str_tuple t tk pl hu _ _ _ _ ⟨.bl _, H, I, rfl, q⟩
end
end L2

set_option Elab.async false
set_option linter.all false
set_option maxRecDepth 100000
set_option maxHeartbeats 4000000
namespace L2
open PySem PySem.Spec PyProof.Rows
/-! for k in range(a, b, -1) -/
def Itd (lo : Int) (n : Nat) : It := ⟨fun i _ => i < n, fun i H x H' => H' = H ∧ x = .int (lo - i), fun i _ => n ≤ i⟩
theorem turn_down {P : Program} {w : World} {K : PySem.W.Frag} {tg : Expr} (it : Addr) (lo : Int) (n : Nat) : Turn P w K tg (Itd lo n) [it] it (fun i h => IsRangeIter h it (lo + (i : Nat) * (-1)) ((n : Int) - (i : Nat)) (-1)) where
  mem := by simp
  obj := fun i h st b hb => by
    have e : b = it := by simpa using hb
    subst e
    exact ⟨_, st, fun v z => by
      have z' : Data.fields _ = Data.cell v := z
      cases z'⟩
  keep := fun i h h' st k => k it (by simp) _ st
  item := by
    intro X hP hw hK hc i pins s σ H E I hf st hg
    subst hP hw hK
    obtain ⟨f0, f1, f2, f3, f4, f5⟩ := hf it (by simp)
    have W := Walks.range (prog := X.prog) (w := X.w) (I.ok.hd hc) it lo (-1) n
    refine W.item i s _ _ hg st fun v h' tk hv st' kk => ?_
    obtain ⟨t, rfl⟩ := hv
    have I1 : Inv X pins σ H { s with heap := h', toks := tk } := I.turned (fun b o hb e => kk b o (by simpa using hb) e) f0 f1 f3 f4 f5
    refine ⟨_, rfl, go_of (s := { s with heap := h', toks := tk }) (n := "range_iterator") st' rfl rfl (by decide) ⟨.int (lo - i), H, I1, ⟨t, ?_⟩, ⟨rfl, rfl⟩, st', fun b hb => (hf b hb).1⟩⟩
    rw [show lo + (i : Int) * (-1) = lo - i by omega]
  done := by
    intro X hP hw hK hc i pins s σ H E I hf st hg
    subst hP hw hK
    obtain ⟨f0, f1, f2, f3, f4, f5⟩ := hf it (by simp)
    exact wpAny_pyNext_range_end (I.ok.hd hc) st (by have : n ≤ i := hg; omega) fun h' eb => ⟨rfl, I.turned (t' := s.toks) (fun b o hb e => eb b o hb e) f0 f1 f3 f4 f5⟩
  self := fun _ _ _ _ _ st h => wpAny_pyIter_rangeiter st h
theorem rangeSize_down (a b : Int) : Builtin.Range.rangeSize a b (-1) = if a > b then a - b else 0 := by
  unfold Builtin.Range.rangeSize
  simp only [show ¬ ((-1 : Int) > 0) by decide, if_false, Int.neg_neg, Int.ediv_one]
  split <;> omega
theorem small_down {a b : Int} (ha : -(2 ^ 62) ≤ a) (ha' : a < 2 ^ 62) (hb : -(2 ^ 62) ≤ b) (hb' : b < 2 ^ 62) : Builtin.Range.small a b (-1) = true := by
  unfold Builtin.Range.small
  rw [rangeSize_down]
  simp only [Builtin.Range.rangeFitsLong, Bool.and_eq_true, Bool.or_eq_true, decide_eq_true_eq, beq_iff_eq, show ¬ ((-1 : Int) > 0) by decide, if_false]
  split <;> omega
section
variable {X : Cx} {tg : Expr}
theorem down_it {pins : List (Addr × Obj)} {σ : St} {H : Hp} {s : Shared} {R : It → Hp → Prop} {E : Value → Shared → Prop} {lo hi : Int} {t u v : Tok} {tk : Nat} (I : Inv X pins σ H s) (h1 : -(2 ^ 62) ≤ lo) (h2 : lo < 2 ^ 62) (h3 : -(2 ^ 62) ≤ hi) (h4 : hi < 2 ^ 62)
    (q : R (Itd lo (lo - hi).toNat) H) : wpAny (model X.prog X.w) X.A (pyIter (.ref s.heap.objs.size)) (PIE X pins σ tg R) E { s with heap := s.heap.push { cls := .type "range", data := .fields #[.int lo t, .int hi u, .int (-1) v] }, toks := tk } := by
  refine wpAny_pyIter_range (IsRange.new ..) (small_down h1 h2 h3 h4) ?_
  have I1 : Inv X pins σ H { s with heap := s.heap.push { cls := .type "range", data := .fields #[.int lo t, .int hi u, .int (-1) v] }, toks := tk } := I.kept fun b o e => Heap.get?_push_of_some _ e
  refine ⟨(s.heap.push { cls := .type "range", data := .fields #[.int lo t, .int hi u, .int (-1) v] }).objs.size, [(s.heap.push { cls := .type "range", data := .fields #[.int lo t, .int hi u, .int (-1) v] }).objs.size], _, _, H, rfl,
    I1.kept (t' := tk) fun b o e => Heap.get?_push_of_some _ e, turn_down _ lo (lo - hi).toNat, ?_, fun b hb => ?_, q⟩
  · have e1 : lo + ((0 : Nat) : Int) * (-1) = lo := by simp
    have e2 : (((lo - hi).toNat : Nat) : Int) - ((0 : Nat) : Int) = Builtin.Range.rangeSize lo hi (-1) := by rw [rangeSize_down]; split <;> omega
    show IsRangeIter _ _ (lo + ((0 : Nat) : Int) * (-1)) ((((lo - hi).toNat : Nat) : Int) - ((0 : Nat) : Int)) (-1)
    rw [e1, e2]
    exact Heap.get?_push_size _ rfl
  · have e : b = (s.heap.push { cls := .type "range", data := .fields #[.int lo t, .int hi u, .int (-1) v] }).objs.size := by simpa using hb
    subst e
    exact I1.fpOk (Nat.le_refl _) (I1.hok.fresh (Nat.le_refl _))
def iRngD (ta : TA) : TI := fun σ H R => ta σ H fun vs H1 => ∃ i j : Int, vs = [.int i, .int j, .int (-1)] ∧ (-(2 ^ 62) ≤ i ∧ i < 2 ^ 62 ∧ -(2 ^ 62) ≤ j ∧ j < 2 ^ 62) ∧ R (Itd i (i - j).toNat) H1
theorem pi_range3 {a b c : Expr} {ta : TA} {p pos : Pos} (hg : Gl X "range") (hm : X.mg "range" = none) (ha : PA X [a, b, c] ta) (hs : starEach [a, b, c] X.env = [(false, eval a X.env), (false, eval b X.env), (false, eval c X.env)] := by rfl) (hs2 : starEach [b, c] X.env = [(false, eval b X.env), (false, eval c X.env)] := by rfl) :
    PI X tg (.Call (.Name "range" p) [a, b, c] [] pos) (iRngD ta) := by
  intro pins s σ H R I h
  refine Call_ (ld_blt I hg hm boot_range (PyProof.Rows.callWith_type1 (thn (ha pos pins s σ H _ I h) fun us s1 ⟨vs, H1, I1, r1, q1⟩ => ?_) (by rw [hs, hs2]) (by rw [hs2]; rfl)))
  obtain ⟨i, j, e, ⟨q1, q2, q3, q4⟩, q⟩ := q1
  subst e
  cases r1 with
  | cons r rr =>
    cases rr with
    | cons r' rr =>
      cases rr with
      | cons r'' rr =>
        cases rr
        obtain ⟨t, rfl⟩ := r
        obtain ⟨t', rfl⟩ := r'
        obtain ⟨t'', rfl⟩ := r''
        exact call_range_3 (by decide) (down_it I1 q1 q2 q3 q4 q) (Or.inl (PyProof.noPylong_small (by decide)))
end
theorem for_down {lo : Int} {n : Nat} {g : TG} {tb : TS} {D : Ends} {σ : St} {H : Hp} (Pv : Nat → St → Hp → Prop) (h0 : Pv 0 σ H)
    (hs : ∀ i σ H, i < n → Pv i σ H → g (.int (lo - i)) σ H fun σ2 H2 => tb { D with nx := Pv (i + 1), ct := Pv (i + 1), bk := D.nx } σ2 H2) (hd : ∀ σ H, Pv n σ H → D.nx σ H) :
    ∃ W : Nat → Nat → St → Hp → Prop, (∃ m, W 0 m σ H) ∧ ∀ i m σ H, W i m σ H →
      ((Itd lo n).stop i H ∧ D.nx σ H) ∨ ((Itd lo n).go i H ∧ ∃ N : St → Hp → Prop, (∀ σ' H', N σ' H' → ∃ m', m' < m ∧ W (i + 1) m' σ' H') ∧ ∀ x H', (Itd lo n).yld i H x H' → g x σ H' fun σ2 H2 => tb { D with nx := N, ct := N, bk := D.nx } σ2 H2) := by
  refine ⟨fun i m σ H => m = n - i ∧ i ≤ n ∧ Pv i σ H, ⟨n, by simp, Nat.zero_le _, h0⟩, ?_⟩
  rintro i m σ H ⟨rfl, hi, p⟩
  by_cases hlt : i < n
  · refine .inr ⟨hlt, Pv (i + 1), fun σ' H' p' => ⟨n - (i + 1), by omega, rfl, hlt, p'⟩, fun x H' y => ?_⟩
    obtain ⟨e, y⟩ := y
    subst e y
    exact hs i σ _ hlt p
  · have e : i = n := by omega
    subst e
    exact .inl ⟨Nat.le_refl _, hd σ H p⟩
end L2

set_option Elab.async false
set_option linter.all false
set_option maxRecDepth 100000
set_option maxHeartbeats 4000000
namespace L2
open PySem PySem.Spec PyProof.Rows
section
variable {X : Cx}
theorem eqDS_at {pins : List (Addr × Obj)} {σ : St} {H : Hp} {s : Shared} (I : Inv X pins σ H s) {A : Around} (hu : A.units < cLine) {d : Dat} {v : V} {u : Value} (rd : Rep X.K H d v) (ru : RelV v u) (z : Str) (tk : Tok) : ∃ b, SeqAt.EqAt A s u (.str z tk) b := by
  cases d with
  | non =>
    cases (show v = _ from rd)
    cases (show u = _ from ru)
    exact ⟨_, SeqAt.EqAt.none_str z tk⟩
  | bl c =>
    cases (show v = _ from rd)
    cases (show u = _ from ru)
    exact ⟨_, SeqAt.EqAt.bool_str c z tk⟩
  | int i =>
    cases (show v = _ from rd)
    obtain ⟨t, rfl⟩ := ru
    exact ⟨_, SeqAt.EqAt.int_str i t z tk⟩
  | str x =>
    cases (show v = _ from rd)
    obtain ⟨t, rfl⟩ := ru
    exact ⟨_, SeqAt.EqAt.str_str x t z tk⟩
  | lst ds =>
    obtain ⟨a, xs, rfl, hq, _⟩ := id rd
    cases (show u = _ from ru)
    obtain ⟨its, r, pl, hz⟩ := I.list hq
    exact ⟨_, SeqAt.EqAt.list_str z tk pl.isList hu⟩
  | tup ds =>
    obtain ⟨a, xs, rfl, hq, _⟩ := id rd
    cases (show u = _ from ru)
    obtain ⟨its, r, pl, hz⟩ := I.tuple hq
    exact ⟨_, SeqAt.EqAt.tuple_str z tk pl hu⟩
open Classical in
theorem op_eqLW (hu : X.A.units + 64 < cLine) : OpR X (compareOp .Eq) (fun x y H Q => ∃ (a b : Addr) (xs : List V) (ts : List Str), x = .ref a ∧ y = .ref b ∧ SqL X.K H a xs ∧ (∀ v ∈ xs, ∃ d, Rep X.K H d v) ∧ SqL X.K H b (ts.map V.str) ∧ ∀ r : Bool, Q (.bl r) H) := by
  intro pins s σ H x y v u Q I rx ry h
  obtain ⟨a, b, xs, ts, rfl, rfl, ha, all, hb, q⟩ := h
  cases rx
  cases ry
  obtain ⟨its1, r1, p1, z1⟩ := I.list ha
  obtain ⟨its2, r2, p2, z2⟩ := I.list hb
  have l1 := r1.length
  have l2 := r2.length
  by_cases hsz : its1.toArray.size = its2.toArray.size
  · have ex : ∀ j (h1 : j < its1.toArray.size) (h2 : j < its2.toArray.size), ∃ b, SeqAt.EqAt X.A.in1 s its1.toArray[j] its2.toArray[j] b := fun j h1 h2 => by
      have h1' : j < xs.length := by rw [List.size_toArray] at h1; omega
      have h2' : j < (ts.map V.str).length := by rw [List.size_toArray] at h2; omega
      obtain ⟨w1, e1, q1⟩ := r1.get (i := j) (x := xs[j]) (by simp [h1'])
      obtain ⟨w2, e2, q2⟩ := r2.get (i := j) (x := (ts.map V.str)[j]) (by simp [h2'])
      have g1 : its1.toArray[j] = w1 := by simpa using (List.getElem?_eq_some_iff.mp e1).2
      have g2 : its2.toArray[j] = w2 := by simpa using (List.getElem?_eq_some_iff.mp e2).2
      rw [g1, g2]
      obtain ⟨d, rd⟩ := all xs[j] (List.getElem_mem h1')
      rw [List.getElem_map] at q2
      obtain ⟨tk, rfl⟩ := q2
      exact eqDS_at I (by show X.A.units + 1 < cLine; omega) rd q1 _ tk
    refine SeqAt.RcAt.lists (e := fun j => if h : ∃ b, ∃ (h1 : j < its1.toArray.size) (h2 : j < its2.toArray.size), SeqAt.EqAt X.A.in1 s its1.toArray[j] its2.toArray[j] b then h.choose else false) p1.isList p2.isList hsz (by omega) (fun j h1 h2 => ?_) _ _ _ _ ⟨.bl _, H, I, rfl, q _⟩
    obtain ⟨bb, hbb⟩ := ex j h1 h2
    have hE : ∃ b, ∃ (h1 : j < its1.toArray.size) (h2 : j < its2.toArray.size), SeqAt.EqAt X.A.in1 s its1.toArray[j] its2.toArray[j] b := ⟨bb, h1, h2, hbb⟩
    simp only [hE, dif_pos]
    exact hE.choose_spec.choose_spec.choose_spec
  · exact SeqAt.RcAt.lists_lengths p1.isList p2.isList (by simpa using hsz) (by omega) _ _ _ _ ⟨.bl _, H, I, rfl, q _⟩
end
end L2

set_option Elab.async false
set_option linter.all false
set_option maxRecDepth 100000
set_option maxHeartbeats 4000000
namespace L2
open PySem PySem.Spec PyProof.Rows
def topL (i : Nat) : Stmt := PySem.Challenge.pw_pickboard_k50_moves_spoilt_anywhere.main.body.getD i (.Pass ⟨0, 0, 0, 0⟩)
structure Blt (mg : Str → Option Value) : Prop where
  abs : mg "abs" = none
  all : mg "all" = none
  divmod : mg "divmod" = none
  enumerate : mg "enumerate" = none
  int : mg "int" = none
  isinstance : mg "isinstance" = none
  len : mg "len" = none
  list : mg "list" = none
  max : mg "max" = none
  min : mg "min" = none
  range : mg "range" = none
  str : mg "str" = none
  tuple : mg "tuple" = none
  bool : mg "bool" = none
  zip : mg "zip" = none
  sum : mg "sum" = none
  any : mg "any" = none
  repr : mg "repr" = none
theorem boot_abs : bootBuiltins "abs" = some (.builtin "abs") := by decide +kernel
theorem boot_max : bootBuiltins "max" = some (.builtin "max") := by decide +kernel
theorem boot_divmod : bootBuiltins "divmod" = some (.builtin "divmod") := by decide +kernel
theorem boot_int : bootBuiltins "int" = some (.type "int") := by decide +kernel
theorem boot_list : bootBuiltins "list" = some (.type "list") := by decide +kernel
theorem boot_tuple : bootBuiltins "tuple" = some (.type "tuple") := by decide +kernel
theorem boot_str : bootBuiltins "str" = some (.type "str") := by decide +kernel
theorem boot_bool : bootBuiltins "bool" = some (.type "bool") := by decide +kernel
def absI (i : Int) : Int := if i < 0 then -i else i
end L2

set_option Elab.async false
set_option linter.all false
set_option maxRecDepth 100000
set_option maxHeartbeats 4000000
namespace L2
open PySem PySem.Spec PyProof.Rows
def BoxAt (H : Hp) (b : Addr) (n : Int) : Prop := ∃ b0 b1 b2 : Int, H b = some (.lst [.int b0, .int b1, .int b2]) ∧ 0 ≤ b0 ∧ 0 ≤ b1 ∧ b1 < 2147483648 ∧ 0 ≤ b2 ∧ b2 ≤ n
def SameB (b : Addr) (H H' : Hp) : Prop := ∀ c o, H c = some o → c ≠ b → H' c = some o
theorem cmulL {i j : Int} (h1 : 0 ≤ i) (h2 : i < 18446744073709551616) : CMul i j := by
  have e1 : (-(2 ^ 64) : Int) = -18446744073709551616 := by decide
  have e2 : ((2 ^ 64) : Int) = 18446744073709551616 := by decide
  refine .inl ⟨?_, ?_⟩
  · rw [e1]; omega
  · rw [e2]; exact h2
theorem cmulM {a m j : Int} (h : 0 < m) (h2 : m < 18446744073709551616) : CMul (a % m) j := cmulL (Int.emod_nonneg _ (by omega)) (Int.lt_trans (Int.emod_lt_of_pos _ h) h2)
section
variable {P : Program} {w : World} {K : PySem.W.Frag} {mg : Str → Option Value} {base : Heap}
def spTake : Sp := fun vs H Q _ => ∃ (b : Addr) (size n : Int), vs = [.ref b, .int size] ∧ BoxAt H b n ∧ n < 1099511627776 ∧ 0 < size ∧ size < 1073741824 ∧
  ∀ (r : Int) H', 0 ≤ r → r < size → BoxAt H' b (n + 1) → SameB b H H' → Q (.int r) H'
theorem scTake : FnScope ["_law_box_here", "_law_size", "_law_found", "_law_step", "_law_once", "_law_twice"] ["_law_box_here", "_law_size"] (defScope (topL 9)) := ⟨rfl, rfl, rfl, by decide +kernel, rfl, by decide +kernel, by decide +kernel⟩
theorem ok_take {f : Addr} {fd : FuncData} (F : Fun K "_law_take" "_law_take" (topL 9) f fd) (B : Blt mg) : FnOk P w K mg base CX0 1 f fd ["_law_box_here", "_law_size"] spTake := by
  have nd := scTake.nd
  refine F.ok scTake (fun vs H Q E h => ?_) (fun cdv A outer s H vs Q E hr h => ?_)
  · obtain ⟨b, size, n, rfl, _⟩ := h
    rfl
  · obtain ⟨b, size, n, rfl, ⟨b0, b1, b2, hb, p0, p1, p1', p2, p2'⟩, hn, hs0, hs1, k⟩ := h
    refine ⟨_, (pss_cons (ps_if (pt_cmpR op_gt (pe_ix ix_list (pv 0) pe_int (fun _ _ => rfl)) pe_int (nomark _))
      (pss_cons (ps_asg (pe_callB call_divmod rfl B.divmod boot_divmod (pa_cons (pe_ix ix_list (pv 0) pe_int (fun _ _ => rfl)) (pa_cons (pv 1) pa_nil))) (pg_tup rfl (pgs_cons (pg_sub (pv 0) pe_int set_list) (pgs_cons (pg_name (i := 2) nd rfl (Or.inl rfl)) pgs_nil))))
        (pss_one (ps_ret (pv 2))))
      pss_nil)
      (pss_cons (ps_asg (pe_op op_add (pe_ix ix_list (pv 0) pe_int (fun _ _ => rfl)) pe_int) (pg_sub (pv 0) pe_int set_list))
      (pss_cons (ps_set (i := 3) nd rfl (Or.inl rfl) (pe_op op_add pe_int (pe_op op_mul (pe_ix ix_list (pv 0) pe_int (fun _ _ => rfl)) (pe_ix ix_list (pv 0) pe_int (fun _ _ => rfl)))))
      (pss_cons (ps_set (i := 4) nd rfl (Or.inl rfl) (pe_op op_mod (pe_op op_mul (pe_op op_add (pe_ix ix_list (pv 0) pe_int (fun _ _ => rfl)) (pe_op op_mul pe_int (pe_ix ix_list (pv 0) pe_int (fun _ _ => rfl)))) (pv 3)) pe_int))
      (pss_cons (ps_set (i := 5) nd rfl (Or.inl rfl) (pe_op op_mod (pe_op op_add (pe_op op_mul (pv 4) (pe_op op_add (pe_op op_mod (pv 4) pe_int) pe_int)) (pe_ix ix_list (pv 0) pe_int (fun _ _ => rfl))) pe_int))
      (pss_one (ps_ret (pe_op op_mod (pe_op op_fdiv (pe_op op_mod (pe_op op_mul (pv 5) (pe_op op_add (pe_op op_mod (pv 5) pe_int) pe_int)) pe_int) pe_int) (pv 1))))))))), ?_⟩
    refine ⟨_, rfl, b, _, _, _, rfl, rfl, SqL.of hb, rfl, _, _, rfl, rfl, _, rfl, ?_⟩
    refine ite2 (fun c => ?_) (fun c => ?_)
    · refine ⟨_, rfl, b, _, _, _, rfl, rfl, SqL.of hb, rfl, _, rfl, _, _, rfl, ⟨hs0, hs1⟩, fun p hp => ?_⟩
      have hbp : b ≠ p := ne_of_none hb hp
      refine ⟨p, _, rfl, SqT.of upd_same, rfl, _, _, rfl, _, rfl, b, _, _, _, rfl, rfl, (by rw [upd_ne hbp]; exact hb), rfl, _, _, rfl, rfl, _, rfl, ?_⟩
      refine k _ _ (Int.emod_nonneg _ (by omega)) (Int.emod_lt_of_pos _ hs0) ⟨_, b1, b2, upd_same, Int.ediv_nonneg p0 (by omega), p1, p1', p2, by omega⟩ fun d o e hd => ?_
      rw [upd_ne hd, upd_ne (ne_of_none e hp)]
      exact e
    · refine ⟨_, rfl, b, _, _, _, rfl, rfl, SqL.of hb, rfl, _, _, rfl, rfl, _, rfl, b, _, _, _, rfl, rfl, hb, rfl, ?_⟩
      have hb1 : upd H b (.lst [.int b0, .int b1, .int (b2 + 1)]) b = some (.lst [.int b0, .int b1, .int (b2 + 1)]) := upd_same
      -- step
      refine ⟨_, rfl, b, _, _, _, rfl, rfl, SqL.of hb1, rfl, _, rfl, b, _, _, _, rfl, rfl, SqL.of hb1, rfl, _, _, rfl, rfl, cmulL (by omega) (by omega), _, _, rfl, rfl, ?_⟩
      -- once
      refine ⟨_, rfl, b, _, _, _, rfl, rfl, SqL.of hb1, rfl, _, rfl, b, _, _, _, rfl, rfl, SqL.of hb1, rfl, _, _, rfl, rfl, cmulL (by omega) (by omega), _, _, rfl, rfl, _, rfl, _, _, rfl, rfl, cmulL (by omega) (by omega), _, _, rfl, rfl, (by show (0 : Int) < _; decide), ?_⟩
      -- twice
      refine ⟨_, rfl, _, rfl, _, _, rfl, rfl, (by show (0 : Int) < _; decide), _, _, rfl, rfl, _, _, rfl, rfl, cmulM (by decide) (by decide), _, rfl, b, _, _, _, rfl, rfl, SqL.of hb1, rfl, _, _, rfl, rfl, _, _, rfl, rfl, (by show (0 : Int) < _; decide), ?_⟩
      refine ⟨_, rfl, _, rfl, _, _, rfl, rfl, (by show (0 : Int) < _; decide), _, _, rfl, rfl, _, _, rfl, rfl, cmulM (by decide) (by decide), _, _, rfl, rfl, (by show (0 : Int) < _; decide), _, _, rfl, rfl, ⟨by decide, by decide⟩, _, rfl, _, _, rfl, rfl, hs0, ?_⟩
      refine k _ _ (Int.emod_nonneg _ (by omega)) (Int.emod_lt_of_pos _ hs0) ⟨b0, b1, b2 + 1, hb1, p0, p1, p1', by omega, by omega⟩ fun d o e hd => ?_
      rw [upd_ne hd]
      exact e
def spBox (K : PySem.W.Frag) : Sp := fun vs H Q _ => ∃ (a : Addr) (ns : List Int) (j : Nat), vs = [.ref a, .int j] ∧ SqL K H a (ns.map V.int) ∧ j ≤ 100 ∧ ∀ p o, H p = none → BoxAt (upd H p o) p 0 → Q (.ref p) (upd H p o)
theorem scBox : FnScope ["_law_script", "_law_k", "_law_cell"] ["_law_script", "_law_k"] (defScope (topL 8)) := ⟨rfl, rfl, rfl, by decide +kernel, rfl, by decide +kernel, by decide +kernel⟩
theorem box_fin {c : Int} {j : Nat} (hj : j ≤ 100) : CMul (absI c) (if decide (10 ^ 18 ≤ absI c) = true then 1 else 0) := by
  refine .inr ?_
  split
  · exact ⟨by decide, by decide⟩
  · exact ⟨by decide, by decide⟩
theorem box_nn {c : Int} : 0 ≤ absI c * (if decide (10 ^ 18 ≤ absI c) = true then 1 else 0) := by
  have h : 0 ≤ absI c := by unfold absI; split <;> omega
  split
  · rw [Int.mul_one]; exact h
  · rw [Int.mul_zero]; exact Int.le_refl 0
theorem ok_box {f : Addr} {fd : FuncData} (F : Fun K "_law_box" "_law_box" (topL 8) f fd) (B : Blt mg) : FnOk P w K mg base CX0 1 f fd ["_law_script", "_law_k"] (spBox K) := by
  have nd := scBox.nd
  refine F.ok scBox (fun vs H Q E h => ?_) (fun cdv A outer s H vs Q E hr h => ?_)
  · obtain ⟨a, ns, j, rfl, _⟩ := h
    rfl
  · obtain ⟨a, ns, j, rfl, hS, hj, k⟩ := h
    refine ⟨_, (pss_cons (ps_set (i := 2) nd rfl (Or.inl rfl) (pe_ifExp (pt_cmpR op_lt (pv 1) (pe_callB call_len_seq rfl B.len boot_len (pa_cons (pv 0) pa_nil)) (nomark _)) (pe_ix ix_list (pv 0) (pv 1) (fun _ _ => rfl)) pe_int))
      (pss_one (ps_ret (pe_lst (pa_cons (pe_op op_mul (pe_callB call_abs rfl B.abs boot_abs (pa_cons (pv 2) pa_nil)) (pe_callTy call_int1 rfl B.int boot_int (pa_cons (pe_cmpR op_ge (pe_callB call_abs rfl B.abs boot_abs (pa_cons (pv 2) pa_nil)) (pe_op op_pow pe_int pe_int) (nomark _)) pa_nil))) (pa_cons (pe_op op_mod (pe_op op_mul (pe_op op_add (pe_op op_add (pe_op op_mod (pv 2) pe_int) (pe_op op_mul pe_int (pv 1))) pe_int) pe_int) pe_int) (pa_cons pe_int pa_nil))))))), ?_⟩
    refine ⟨_, rfl, _, rfl, a, _, rfl, .inl hS, _, _, rfl, rfl, _, rfl, ?_⟩
    refine ite2 (fun c => ?_) (fun c => ?_)
    · have hl : j < ns.length := by
        have := of_decide_eq_true c
        rw [List.length_map] at this
        omega
      refine ⟨_, rfl, _, rfl, a, _, _, .int ns[j], rfl, rfl, hS, atI_nat (by simp [hl]), ?_⟩
      generalize ns[j] = z
      refine ⟨_, rfl, _, rfl, _, rfl, _, rfl, _, _, rfl, rfl, ⟨by decide, by decide, by decide⟩, _, _, rfl, rfl, .inr ⟨_, rfl, _, _, rfl, rfl, box_fin hj, _, rfl, _, _, rfl, rfl, (by show (0 : Int) < _; decide), _, rfl, _, _, rfl, rfl, cmulL (by decide) (by decide), _, _, rfl, rfl, _, _, rfl, rfl, _, _, rfl, rfl, ?_, _, _, rfl, rfl, (by show (0 : Int) < _; decide), (by rw [sizeLine_eq]; exact (by decide : 3 ≤ 16777216)), fun p hp => k p _ hp ⟨_, _, _, upd_same, ?_, ?_, ?_, by decide, by decide⟩⟩⟩
      · refine cmulL ?_ ?_
        · have := Int.emod_nonneg z (show (2147483629 : Int) ≠ 0 by decide)
          omega
        · have := Int.emod_lt_of_pos z (show (0 : Int) < 2147483629 by decide)
          omega
      · exact box_nn
      · exact Int.emod_nonneg _ (by decide)
      · exact Int.lt_trans (Int.emod_lt_of_pos _ (by decide)) (by decide)
    · refine ⟨_, rfl, _, rfl, _, rfl, _, rfl, _, _, rfl, rfl, ⟨by decide, by decide, by decide⟩, _, _, rfl, rfl, .inr ⟨_, rfl, _, _, rfl, rfl, box_fin hj, _, rfl, _, _, rfl, rfl, (by show (0 : Int) < _; decide), _, rfl, _, _, rfl, rfl, cmulL (by decide) (by decide), _, _, rfl, rfl, _, _, rfl, rfl, _, _, rfl, rfl, ?_, _, _, rfl, rfl, (by show (0 : Int) < _; decide), (by rw [sizeLine_eq]; exact (by decide : 3 ≤ 16777216)), fun p hp => k p _ hp ⟨_, _, _, upd_same, ?_, ?_, ?_, by decide, by decide⟩⟩⟩
      · refine cmulL ?_ ?_
        · have := Int.emod_nonneg 0 (show (2147483629 : Int) ≠ 0 by decide)
          omega
        · have := Int.emod_lt_of_pos 0 (show (0 : Int) < 2147483629 by decide)
          omega
      · exact box_nn
      · exact Int.emod_nonneg _ (by decide)
      · exact Int.lt_trans (Int.emod_lt_of_pos _ (by decide)) (by decide)
end
end L2

set_option Elab.async false
set_option linter.all false
set_option maxRecDepth 100000
set_option maxHeartbeats 4000000
namespace L2
open PySem PySem.Spec PyProof.Rows
theorem cutV_mem {xs : List V} {lo hi : Option Int} {x : V} (h : x ∈ cutV xs lo hi) : x ∈ xs := List.mem_of_mem_drop (List.mem_of_mem_take h)
theorem ixN_nat {n j : Nat} (h : j < n) : ixN n (j : Int) = some j := by
  unfold ixN
  rw [if_pos (by omega), if_pos (by omega)]; simp
theorem cutV_map (ns : List Int) (lo hi : Option Int) : ∃ ms : List Int, cutV (ns.map V.int) lo hi = ms.map V.int := by
  refine ⟨(ns.drop (HT.sIx ns.length 0 lo)).take (HT.sIx ns.length ns.length hi - HT.sIx ns.length 0 lo), ?_⟩
  unfold cutV
  rw [List.length_map, List.map_take, List.map_drop]
theorem cutV_lo (ns : List Int) (z : Nat) : (cutV (ns.map V.int) none (some (z : Int))).length = min z ns.length := by
  unfold cutV
  rw [HT.sIx_nat, HT.sIx_none, List.length_take, List.length_drop, List.length_map]
  omega
theorem cutV_hi (ns : List Int) (z : Nat) (hi : Option Int) : (cutV (ns.map V.int) (some (z : Int)) hi).length ≤ ns.length - min z ns.length := by
  unfold cutV
  rw [HT.sIx_nat, List.length_take, List.length_drop, List.length_map]
  omega
section
variable {P : Program} {w : World} {K : PySem.W.Frag} {mg : Str → Option Value} {base : Heap}
def spFold (K : PySem.W.Frag) : Sp := fun vs H Q _ => ∃ (a : Addr) (ns : List Int) (z : Nat), vs = [.ref a, .int z] ∧ SqL K H a (ns.map V.int) ∧ ns.length ≤ 63 ∧ 1 ≤ z ∧ z ≤ 63 ∧
  ∀ (p : Addr) (ms : List Int) H', Same H H' → SqL K H' p (ms.map V.int) → ms.length ≤ z → Q (.ref p) H'
theorem scFold : FnScope ["_law_script", "_law_size", "_law_cells", "_law_k", "_law_cell"] ["_law_script", "_law_size"] (defScope (topL 10)) := ⟨rfl, rfl, rfl, by decide +kernel, rfl, by decide +kernel, by decide +kernel⟩
theorem ok_fold {f : Addr} {fd : FuncData} (F : Fun K "_law_folded" "_law_folded" (topL 10) f fd) (B : Blt mg) : FnOk P w K mg base CX0 1 f fd ["_law_script", "_law_size"] (spFold K) := by
  have nd := scFold.nd
  refine F.ok scFold (fun vs H Q E h => ?_) (fun cdv A outer s H vs Q E hr h => ?_)
  · obtain ⟨a, ns, z, rfl, _⟩ := h
    rfl
  · obtain ⟨a, ns, z, rfl, hS, hlen, hz1, hz2, k⟩ := h
    refine ⟨_, (pss_cons (ps_set (i := 2) nd rfl (Or.inl rfl) (pe_callTy call_list_of rfl B.list boot_list (pa_cons (pe_slice sl_list (pv 0) po_none (po_some (pv 1))) pa_nil)))
      (pss_cons (ps_for PassesOwn.never rfl (pi_enum rfl B.enumerate (pa_cons (pe_slice sl_list (pv 0) (po_some (pv 1)) (po_some pe_int)) pa_nil)) (pg_tup rfl (pgs_cons (pg_name (i := 3) nd rfl (Or.inl rfl)) (pgs_cons (pg_name (i := 4) nd rfl (Or.inl rfl)) pgs_nil)))
      (pss_one (ps_asg (pe_op op_add (pe_ix ix_list (pv 2) (pe_op op_mod (pv 3) (pv 1)) (fun _ _ => rfl)) (pe_op op_mul (pv 4) (pe_op op_add (pv 3) pe_int))) (pg_sub (pv 2) (pe_op op_mod (pv 3) (pv 1)) set_list))))
      (pss_one (ps_ret (pv 2))))), ?_⟩
    -- list(script[:size])
    refine ⟨_, rfl, _, rfl, _, rfl, a, _, rfl, hS, fun l hl => ⟨l, _, rfl, .inl (SqL.of upd_same), fun p hp => ?_⟩⟩
    have s1 : Same H (upd (upd H l (.lst (cutV (ns.map V.int) none (some (z : Int))))) p (.lst (cutV (ns.map V.int) none (some (z : Int))))) := (same_upd hl).trans (same_upd hp)
    generalize hH1 : upd (upd H l (.lst (cutV (ns.map V.int) none (some (z : Int))))) p (.lst (cutV (ns.map V.int) none (some (z : Int)))) = H1 at s1
    have hp1 : H1 p = some (.lst (cutV (ns.map V.int) none (some (z : Int)))) := by rw [← hH1]; exact upd_same
    have np : H p = none := (same_upd hl).free hp
    -- for k, cell in enumerate(script[size:63])
    refine ⟨_, rfl, _, rfl, _, rfl, _, rfl, a, _, rfl, s1.seq hS, fun q hq => ⟨q, rfl, ⟨_, SqL.of upd_same⟩, ?_⟩⟩
    have npq : p ≠ q := ne_of_none hp1 hq
    obtain ⟨ms0, hms0⟩ := cutV_map ns none (some (z : Int))
    have lo := cutV_lo ns z
    have hi := cutV_hi ns z (some 63)
    refine for_enum (K := K) (a := q) (xs := cutV (ns.map V.int) (some (z : Int)) (some 63)) (fun i σ H2 => ∃ (ms : List Int) (v3 v4 : Option V), σ = [some (.ref a), some (.int z), some (.ref p), v3, v4] ∧ Same H H2 ∧ H2 p = some (.lst (ms.map V.int)) ∧
      H2 q = some (.lst (cutV (ns.map V.int) (some (z : Int)) (some 63))) ∧ ms.length = min z ns.length)
      ⟨ms0, none, none, rfl, s1.trans (same_upd hq), by rw [upd_ne npq, hp1, hms0], upd_same, by rw [← lo, hms0, List.length_map]⟩ (fun i σ H2 _ ⟨_, _, _, _, _, _, h, _⟩ => SqL.of h) ?_ ?_
    · rintro i x σ H2 T hx ⟨ms, v3, v4, rfl, sm, hp2, hq2, hml⟩ hT
      have hil : i < (cutV (ns.map V.int) (some (z : Int)) (some 63)).length := (List.getElem?_eq_some_iff.mp hx).1
      obtain ⟨c, rfl⟩ : ∃ c, x = V.int c := by
        have := cutV_mem (List.mem_of_getElem? hx)
        obtain ⟨c, _, e⟩ := List.mem_map.mp this
        exact ⟨c, e.symm⟩
      have hj : i % z < ms.length := by
        have := Nat.mod_lt i (show 0 < z by omega)
        omega
      have npT : p ≠ T := ne_of_none hp2 hT
      have nqT : q ≠ T := ne_of_none hq2 hT
      have hp3 : upd H2 T (.tup [.int i, .int c]) p = some (.lst (ms.map V.int)) := by rw [upd_ne npT]; exact hp2
      have em : ((i % z : Nat) : Int) = (i : Int) % (z : Int) := Int.natCast_emod i z
      have hz0 : (0 : Int) < (z : Int) := by omega
      refine ⟨T, _, rfl, SqT.of upd_same, rfl, _, _, rfl, _, _, rfl, rfl, ?_⟩
      refine ⟨_, rfl, _, rfl, _, rfl, _, _, rfl, rfl, hz0, p, _, _, .int ms[i % z], rfl, rfl, SqL.of hp3, (by rw [← em]; exact atI_nat (by simp [hj])), ?_⟩
      refine ⟨_, rfl, _, rfl, _, _, rfl, rfl, _, _, rfl, rfl, .inr ⟨?_, ?_⟩, _, _, rfl, rfl, ?_⟩
      · have e1 : (-(2 ^ 64) : Int) = -18446744073709551616 := by decide
        rw [e1]; omega
      · have e2 : ((2 ^ 64) : Int) = 18446744073709551616 := by decide
        rw [e2]; omega
      refine ⟨_, rfl, _, rfl, _, rfl, _, _, rfl, rfl, hz0, p, _, _, i % z, rfl, rfl, hp3, (by rw [← em, List.length_map]; exact ixN_nat hj), ?_⟩
      refine ⟨ms.set (i % z) (ms[i % z] + c * ((i : Int) + 2)), _, _, rfl, fun d o e => ?_, by rw [upd_same, List.map_set], ?_, by rw [List.length_set]; exact hml⟩
      · rw [upd_ne (ne_of_none e np), upd_ne (ne_of_none (sm d o e) hT)]
        exact sm d o e
      · rw [upd_ne (Ne.symm npq), upd_ne nqT]
        exact hq2
    · rintro σ H2 ⟨ms, v3, v4, rfl, sm, hp2, hq2, hml⟩
      exact ⟨_, rfl, k p ms H2 sm (SqL.of hp2) (by omega)⟩
end
end L2

set_option Elab.async false
set_option linter.all false
set_option maxRecDepth 100000
set_option maxHeartbeats 4000000
namespace L2
open PySem PySem.Spec PyProof.Rows
theorem two_le : [V.ty "list", V.ty "tuple"].length ≤ sizeLine := by rw [sizeLine_eq]; exact (by decide : 2 ≤ 16777216)
section
variable {P : Program} {w : World} {K : PySem.W.Frag} {mg : Str → Option Value} {base : Heap}
def spS (K : PySem.W.Frag) : Nat → Sp
  | 0 => fun _ _ _ _ => False
  | n + 1 => fun vs H Q _ => ∃ d f v, vs = [f, v] ∧ Rep K H d f ∧ Rep K H d v ∧ Dat.ok n d ∧ ∀ H', Same H H' → Q (.bl true) H'
theorem scSame : FnScope ["_law_found", "_law_due"] ["_law_found", "_law_due"] (defScope (topL 11)) := ⟨rfl, rfl, rfl, by decide +kernel, rfl, by decide +kernel, by decide +kernel⟩
theorem ok_same {f : Addr} {fd : FuncData} (F : Fun K "_law_same" "_law_same" (topL 11) f fd) (B : Blt mg) (hm : mg "_law_same" = some (.ref f)) (hb : Binds K fd ["_law_found", "_law_due"] []) :
    ∀ n : Nat, FnOk P w K mg base CX0 n f fd ["_law_found", "_law_due"] (spS K n)
  | 0 => ⟨fun _ _ _ _ h => h.elim, fun _ _ _ _ _ _ _ _ _ _ _ _ _ h => h.elim⟩
  | n + 1 => by
    have D_same : Dfn P w K mg base "_law_same" n ["_law_found", "_law_due"] (spS K n) := ⟨f, fd, ok_same F B hm hb n, hm, F.kp, hb⟩
    have nd := scSame.nd
    refine F.ok scSame (fun vs H Q E h => ?_) (fun cdv A outer s H vs Q E hr h => ?_)
    · obtain ⟨d, g, v, rfl, _⟩ := h
      rfl
    · obtain ⟨d, g, v, rfl, rg, rv, ok, k⟩ := h
      refine ⟨_, (pss_cons (ps_if (pt_val (pe_callB call_isiT rfl B.isinstance boot_isinstance (pa_cons (pv 1) (pa_cons (pe_tup (pa_cons (pe_bltn (v := .ty "list") rfl B.list boot_list rfl) (pa_cons (pe_bltn (v := .ty "tuple") rfl B.tuple boot_tuple rfl) pa_nil))) pa_nil))))
      (pss_cons (ps_if (PW.pt (pw_or (pt_not (pt_val (pe_callB call_isiT rfl B.isinstance boot_isinstance (pa_cons (pv 0) (pa_cons (pe_tup (pa_cons (pe_bltn (v := .ty "list") rfl B.list boot_list rfl) (pa_cons (pe_bltn (v := .ty "tuple") rfl B.tuple boot_tuple rfl) pa_nil))) pa_nil))))) (pw_or1 (pt_cmpR op_ne (pe_callB call_isi rfl B.isinstance boot_isinstance (pa_cons (pv 0) (pa_cons (pe_bltn (v := .ty "list") rfl B.list boot_list rfl) pa_nil))) (pe_callB call_isi rfl B.isinstance boot_isinstance (pa_cons (pv 1) (pa_cons (pe_bltn (v := .ty "list") rfl B.list boot_list rfl) pa_nil))) (nomark _)))))
        (pss_one (ps_ret pe_bl))
        pss_nil)
        (pss_one (ps_ret (pe_and (pe_cmpR op_eq (pe_callB call_len_seq rfl B.len boot_len (pa_cons (pv 0) pa_nil)) (pe_callB call_len_seq rfl B.len boot_len (pa_cons (pv 1) pa_nil)) (nomark _)) (pe_one (pe_callB (call_allL rfl) rfl B.all boot_all (pa_cons (pe_lc2 [] [] rfl rfl (by kernel_rfl) (pi_zip rfl B.zip (pa_cons (pv 0) (pa_cons (pv 1) pa_nil))) (fun C0 s0 H0 ex0 => pf_nil) (fun C0 s0 H0 ex0 => (pe_callD D_same (hr.mono (by first | decide | exact Nat.le_refl _ | omega)) rfl (pa_cons (pv 0) (pa_cons (pv 1) pa_nil))))) pa_nil)))))))
      pss_nil)
      (pss_cons (ps_if (PW.pt (pw_or (pt_cmpR op_isN (pv 1) pe_non (nomark _)) (pw_or1 (pt_val (pe_callB call_isi rfl B.isinstance boot_isinstance (pa_cons (pv 1) (pa_cons (pe_bltn (v := .ty "str") rfl B.str boot_str rfl) pa_nil)))))))
      (pss_one (ps_ret (pe_and (pe_cmpR op_eq (pv 0) (pv 1) (nomark _)) (pe_one (pe_cmpR op_eq (pe_callB call_isi rfl B.isinstance boot_isinstance (pa_cons (pv 0) (pa_cons (pe_bltn (v := .ty "str") rfl B.str boot_str rfl) pa_nil))) (pe_callB call_isi rfl B.isinstance boot_isinstance (pa_cons (pv 1) (pa_cons (pe_bltn (v := .ty "str") rfl B.str boot_str rfl) pa_nil))) (nomark _))))))
      pss_nil)
      (pss_one (ps_ret (pe_and (pe_callB call_isi rfl B.isinstance boot_isinstance (pa_cons (pv 0) (pa_cons (pe_bltn (v := .ty "int") rfl B.int boot_int rfl) pa_nil))) (pe_and (pe_cmpR op_eq (pe_callB call_isi rfl B.isinstance boot_isinstance (pa_cons (pv 0) (pa_cons (pe_bltn (v := .ty "bool") rfl B.bool boot_bool rfl) pa_nil))) (pe_callB call_isi rfl B.isinstance boot_isinstance (pa_cons (pv 1) (pa_cons (pe_bltn (v := .ty "bool") rfl B.bool boot_bool rfl) pa_nil))) (nomark _)) (pe_one (pe_cmpR op_eq (pv 0) (pv 1) (nomark _))))))))), ?_⟩
      refine ⟨_, rfl, two_le, fun p hp => ⟨v, d.tyN, p, ["list", "tuple"], rfl, (rv.same (same_upd hp)).ty, upd_same, (by decide), _, rfl, ?_⟩⟩
      have s1 : Same H (upd H p (.tup [V.ty "list", V.ty "tuple"])) := same_upd hp
      have rg1 := rg.same s1
      have rv1 := rv.same s1
      generalize upd H p (.tup [V.ty "list", V.ty "tuple"]) = H1 at s1 rg1 rv1
      cases d with
      | non =>
        cases (show g = _ from rg); cases (show v = _ from rv)
        refine ifF rfl ⟨_, rfl, rfl, _, rfl, ifT (by simp) (ifT rfl ?_)⟩
        refine ⟨_, rfl, _, rfl, rfl, _, rfl, ifT (by simp) ⟨_, rfl, _, "NoneType", "str", rfl, rg1.ty, (by decide), _, rfl, _, "NoneType", "str", rfl, rv1.ty, (by decide), rfl, ?_⟩⟩
        have := k H1 s1
        simpa using this
      | str x =>
        cases (show g = _ from rg); cases (show v = _ from rv)
        refine ifF rfl ⟨_, rfl, rfl, _, rfl, ifF (by simp) ⟨_, rfl, _, "str", "str", rfl, rv1.ty, (by decide), _, rfl, ifT (by decide) ?_⟩⟩
        refine ⟨_, rfl, _, rfl, rfl, _, rfl, ifT (by simp) ⟨_, rfl, _, "str", "str", rfl, rg1.ty, (by decide), _, rfl, _, "str", "str", rfl, rv1.ty, (by decide), rfl, ?_⟩⟩
        have := k H1 s1
        simpa using this
      | bl b =>
        cases (show g = _ from rg); cases (show v = _ from rv)
        refine ifF rfl ⟨_, rfl, rfl, _, rfl, ifF (by simp) ⟨_, rfl, _, "bool", "str", rfl, rv1.ty, (by decide), _, rfl, ifF (by decide) ?_⟩⟩
        refine ⟨_, rfl, _, "bool", "int", rfl, rg1.ty, (by decide), _, rfl, ifT (by decide) ⟨_, rfl, _, "bool", "bool", rfl, rg1.ty, (by decide), _, rfl, _, "bool", "bool", rfl, rv1.ty, (by decide), rfl, _, rfl, ifT (by simp) ⟨_, rfl, _, rfl, rfl, ?_⟩⟩⟩
        have := k H1 s1
        simpa using this
      | int b =>
        cases (show g = _ from rg); cases (show v = _ from rv)
        refine ifF rfl ⟨_, rfl, rfl, _, rfl, ifF (by simp) ⟨_, rfl, _, "int", "str", rfl, rv1.ty, (by decide), _, rfl, ifF (by decide) ?_⟩⟩
        refine ⟨_, rfl, _, "int", "int", rfl, rg1.ty, (by decide), _, rfl, ifT (by decide) ⟨_, rfl, _, "int", "bool", rfl, rg1.ty, (by decide), _, rfl, _, "int", "bool", rfl, rv1.ty, (by decide), rfl, _, rfl, ifT (by simp) ⟨_, rfl, _, rfl, rfl, ?_⟩⟩⟩
        have := k H1 s1
        simpa using this
      | lst ds =>
        obtain ⟨a, xs, rfl, hx, rx⟩ := rg1
        obtain ⟨b, ys, rfl, hy, ry⟩ := rv1
        cases n with
        | zero => exact (show False from ok).elim
        | succ n =>
          obtain ⟨hlen, hall⟩ : ds.length ≤ 1000000 ∧ ∀ d ∈ ds, Dat.ok n d := ok
          have lx := rx.len
          have ly := ry.len
          have hbig : 1000000 < sizeLine := by rw [sizeLine_eq]; decide
          refine ifT rfl ?_
          refine ⟨_, rfl, two_le, fun p2 hp2 => ⟨.ref a, "list", p2, ["list", "tuple"], rfl, (.inl ⟨rfl, xs, (same_upd hp2).seq hx⟩), upd_same, (by decide), _, rfl, ifF rfl ?_⟩⟩
          have s2 : Same H1 (upd H1 p2 (.tup [V.ty "list", V.ty "tuple"])) := same_upd hp2
          have hx2 := s2.seq hx
          have hy2 := s2.seq hy
          have rx2 := rx.same s2
          have ry2 := ry.same s2
          have s3 := s1.trans s2
          generalize upd H1 p2 (.tup [V.ty "list", V.ty "tuple"]) = H2 at s2 s3 hx2 hy2 rx2 ry2
          refine ⟨_, rfl, .ref a, "list", "list", rfl, (.inl ⟨rfl, xs, hx2⟩), (by decide), _, rfl, .ref b, "list", "list", rfl, (.inl ⟨rfl, ys, hy2⟩), (by decide), rfl, _, rfl, ifF (by decide) ?_⟩
          refine ⟨_, rfl, a, xs, rfl, (.inl hx2), _, rfl, b, ys, rfl, (.inl hy2), rfl, _, rfl, ifT (by simp [lx, ly]) ?_⟩
          refine ⟨_, rfl, _, rfl, true, true, a, b, rfl, ⟨xs, hx2⟩, ⟨ys, hy2⟩, ?_⟩
          refine lc_zip (K := K) (k1 := true) (k2 := true) (xs := xs) (ys := ys) (fun i zs H3 => zs = List.replicate i (V.bl true) ∧ Same H2 H3) ⟨rfl, Same.refl _⟩ (fun i zs H3 ⟨_, sm⟩ => ⟨sm.seq hx2, sm.seq hy2⟩) ?_ ?_
          · rintro i x y zs H3 T e1 e2 ⟨rfl, sm⟩ hT
            have hi : i < ds.length := by have := (List.getElem?_eq_some_iff.mp e1).1; omega
            obtain ⟨d1, q1, r1⟩ := rx2.get e1
            obtain ⟨d2, q2, r2⟩ := ry2.get e2
            rw [q1] at q2; cases q2
            have s4 := sm.trans (same_upd (o := .tup [x, y]) hT)
            refine ⟨T, _, rfl, SqT.of upd_same, rfl, _, _, rfl, _, _, rfl, rfl, rfl, ?_⟩
            refine ⟨_, rfl, _, rfl, d1, x, y, rfl, r1.same s4, r2.same s4, hall d1 (List.mem_of_getElem? q1), fun H5 s5 => ⟨?_, ?_, s4.trans s5⟩⟩
            · rw [List.length_replicate]; omega
            · rw [List.replicate_succ']
          · rintro zs H3 ⟨rfl, sm⟩
            refine ⟨by rw [List.length_replicate]; omega, fun D hD => ⟨D, List.replicate (min xs.length ys.length) true, rfl, ?_, ?_⟩⟩
            · refine SqL.of ?_
              rw [upd_same, List.map_replicate]
            · have := k _ (s3.trans (sm.trans (same_upd (o := .lst (List.replicate (min xs.length ys.length) (V.bl true))) hD)))
              simpa using this
      | tup ds =>
        obtain ⟨a, xs, rfl, hx, rx⟩ := rg1
        obtain ⟨b, ys, rfl, hy, ry⟩ := rv1
        cases n with
        | zero => exact (show False from ok).elim
        | succ n =>
          obtain ⟨hlen, hall⟩ : ds.length ≤ 1000000 ∧ ∀ d ∈ ds, Dat.ok n d := ok
          have lx := rx.len
          have ly := ry.len
          have hbig : 1000000 < sizeLine := by rw [sizeLine_eq]; decide
          refine ifT rfl ?_
          refine ⟨_, rfl, two_le, fun p2 hp2 => ⟨.ref a, "tuple", p2, ["list", "tuple"], rfl, (.inr ⟨rfl, xs, (same_upd hp2).sqT hx⟩), upd_same, (by decide), _, rfl, ifF rfl ?_⟩⟩
          have s2 : Same H1 (upd H1 p2 (.tup [V.ty "list", V.ty "tuple"])) := same_upd hp2
          have hx2 := s2.sqT hx
          have hy2 := s2.sqT hy
          have rx2 := rx.same s2
          have ry2 := ry.same s2
          have s3 := s1.trans s2
          generalize upd H1 p2 (.tup [V.ty "list", V.ty "tuple"]) = H2 at s2 s3 hx2 hy2 rx2 ry2
          refine ⟨_, rfl, .ref a, "tuple", "list", rfl, (.inr ⟨rfl, xs, hx2⟩), (by decide), _, rfl, .ref b, "tuple", "list", rfl, (.inr ⟨rfl, ys, hy2⟩), (by decide), rfl, _, rfl, ifF (by decide) ?_⟩
          refine ⟨_, rfl, a, xs, rfl, (.inr hx2), _, rfl, b, ys, rfl, (.inr hy2), rfl, _, rfl, ifT (by simp [lx, ly]) ?_⟩
          refine ⟨_, rfl, _, rfl, false, false, a, b, rfl, ⟨xs, hx2⟩, ⟨ys, hy2⟩, ?_⟩
          refine lc_zip (K := K) (k1 := false) (k2 := false) (xs := xs) (ys := ys) (fun i zs H3 => zs = List.replicate i (V.bl true) ∧ Same H2 H3) ⟨rfl, Same.refl _⟩ (fun i zs H3 ⟨_, sm⟩ => ⟨sm.sqT hx2, sm.sqT hy2⟩) ?_ ?_
          · rintro i x y zs H3 T e1 e2 ⟨rfl, sm⟩ hT
            have hi : i < ds.length := by have := (List.getElem?_eq_some_iff.mp e1).1; omega
            obtain ⟨d1, q1, r1⟩ := rx2.get e1
            obtain ⟨d2, q2, r2⟩ := ry2.get e2
            rw [q1] at q2; cases q2
            have s4 := sm.trans (same_upd (o := .tup [x, y]) hT)
            refine ⟨T, _, rfl, SqT.of upd_same, rfl, _, _, rfl, _, _, rfl, rfl, rfl, ?_⟩
            refine ⟨_, rfl, _, rfl, d1, x, y, rfl, r1.same s4, r2.same s4, hall d1 (List.mem_of_getElem? q1), fun H5 s5 => ⟨?_, ?_, s4.trans s5⟩⟩
            · rw [List.length_replicate]; omega
            · rw [List.replicate_succ']
          · rintro zs H3 ⟨rfl, sm⟩
            refine ⟨by rw [List.length_replicate]; omega, fun D hD => ⟨D, List.replicate (min xs.length ys.length) true, rfl, ?_, ?_⟩⟩
            · refine SqL.of ?_
              rw [upd_same, List.map_replicate]
            · have := k _ (s3.trans (sm.trans (same_upd (o := .lst (List.replicate (min xs.length ys.length) (V.bl true))) hD)))
              simpa using this
end
end L2

set_option Elab.async false
set_option linter.all false
set_option maxRecDepth 100000
set_option maxHeartbeats 4000000
namespace L2
open PySem PySem.Spec PyProof.Rows
theorem le0 : ([] : List V).length ≤ sizeLine := Nat.zero_le _
theorem le2 {x y : V} : [x, y].length ≤ sizeLine := by rw [sizeLine_eq]; exact (by decide : 2 ≤ 16777216)
theorem SameB.refl (b : Addr) (H : Hp) : SameB b H H := fun _ _ e _ => e
theorem SameB.trans {b : Addr} {H H1 H2 : Hp} (a : SameB b H H1) (c : SameB b H1 H2) : SameB b H H2 := fun d o e hd => c d o (a d o e hd) hd
theorem SameB.of {b : Addr} {H H1 : Hp} (a : Same H H1) : SameB b H H1 := fun d o e _ => a d o e
theorem SameB.new {b p : Addr} {o : HO} {H H1 : Hp} (a : SameB b H H1) (h : H1 p = none) : SameB b H (upd H1 p o) := a.trans (.of (same_upd h))
theorem BoxAt.new {b p : Addr} {o : HO} {H : Hp} {n : Int} (a : BoxAt H b n) (h : H p = none) : BoxAt (upd H p o) b n := by
  obtain ⟨b0, b1, b2, e, r⟩ := a
  exact ⟨b0, b1, b2, by rw [upd_ne (ne_of_none e h)]; exact e, r⟩
theorem BoxAt.same {b : Addr} {H H' : Hp} {n : Int} (a : BoxAt H b n) (s : Same H H') : BoxAt H' b n := by
  obtain ⟨b0, b1, b2, e, r⟩ := a
  exact ⟨b0, b1, b2, s _ _ e, r⟩
theorem BoxAt.ne {b t : Addr} {H : Hp} {n : Int} {o : HO} (a : BoxAt H b n) (h : H t = some o) (hl : ∀ x y z, o ≠ .lst [x, y, z]) : t ≠ b := by
  obtain ⟨b0, b1, b2, e, r⟩ := a
  exact ne_of h e (hl _ _ _)
theorem BoxAt.some {b : Addr} {H : Hp} {n : Int} (a : BoxAt H b n) : ∃ o, H b = .some o := let ⟨_, _, _, e, _⟩ := a; ⟨_, e⟩
theorem BoxAt.mono {b : Addr} {H : Hp} {n m : Int} (a : BoxAt H b n) (h : n ≤ m) : BoxAt H b m := by
  obtain ⟨b0, b1, b2, e, p0, p1, p2, p3, p4⟩ := a
  exact ⟨b0, b1, b2, e, p0, p1, p2, p3, by omega⟩
theorem le1 {x : V} : [x].length ≤ sizeLine := by rw [sizeLine_eq]; exact (by decide : 1 ≤ 16777216)
theorem le3 {x y z : V} : [x, y, z].length ≤ sizeLine := by rw [sizeLine_eq]; exact (by decide : 3 ≤ 16777216)
theorem le4 {x y z u : V} : [x, y, z, u].length ≤ sizeLine := by rw [sizeLine_eq]; exact (by decide : 4 ≤ 16777216)
theorem leN {xs : List V} (h : xs.length ≤ 1000) : xs.length ≤ sizeLine := by rw [sizeLine_eq]; omega
theorem atI_in {α : Type} {xs : List α} {i : Int} (h : 0 ≤ i) (h' : i < xs.length) : ∃ v, atI xs i = some v ∧ xs[i.toNat]? = some v := by
  have hl : i.toNat < xs.length := by omega
  refine ⟨xs[i.toNat], ?_, by simp [hl]⟩
  have := atI_nat (xs := xs) (j := i.toNat) (v := xs[i.toNat]) (by simp [hl])
  rwa [show ((i.toNat : Nat) : Int) = i by omega] at this
theorem pickP {α : V → Prop} {xs : List V} {r : Int} (h0 : 0 ≤ r) (h1 : r < xs.length) (all : ∀ x ∈ xs, α x) : ∃ v, atI xs r = some v ∧ α v := by
  obtain ⟨v, e, e'⟩ := atI_in h0 h1
  exact ⟨v, e, all v (List.mem_of_getElem? e')⟩
theorem fm0 {α : V → Prop} : ∀ y ∈ ([] : List V), α y := fun y h => nomatch h
theorem fm {α : V → Prop} {x : V} {xs : List V} (h : α x) (hs : ∀ y ∈ xs, α y) : ∀ y ∈ x :: xs, α y := fun y hy => (List.mem_cons.mp hy).elim (fun e => e ▸ h) (hs y)
theorem SameB.put {b m : Addr} {H H' : Hp} {o : HO} (s : SameB b H H') (h : H m = none) : SameB b H (upd H' m o) := fun c u e hc => by
  rw [upd_ne (ne_of_none e h)]; exact s c u e hc
theorem SameB.none {b m : Addr} {H H' : Hp} (s : SameB b H H') (h : H' m = none) (hm : m ≠ b) : H m = none := by
  cases q : H m with
  | none => rfl
  | some o => have := s m o q hm; rw [h] at this; cases this
theorem BoxAt.nne {b p : Addr} {H : Hp} {n : Int} (a : BoxAt H b n) (h : H p = none) : p ≠ b := by
  obtain ⟨o, e⟩ := a.some
  exact (ne_of_none e h).symm
theorem BoxAt.other {b l : Addr} {H : Hp} {n : Int} {o : HO} (a : BoxAt H b n) (h : l ≠ b) : BoxAt (upd H l o) b n := by
  obtain ⟨b0, b1, b2, e, r⟩ := a
  exact ⟨b0, b1, b2, by rw [upd_ne (Ne.symm h)]; exact e, r⟩
theorem pickL {α : V → Prop} {H : Hp} {p : Addr} {xs : List V} {r : Int} (_ : H p = some (.lst xs)) (h0 : 0 ≤ r) (h1 : r < xs.length) (all : ∀ x ∈ xs, α x) : ∃ v, atI xs r = some v ∧ α v := pickP h0 h1 all
def SameT (H H' : Hp) : Prop := ∀ a u, H a = some u → (∀ xs, u ≠ .lst xs) → H' a = some u
theorem SameT.refl (H : Hp) : SameT H H := fun _ _ e _ => e
theorem SameT.trans {H H1 H2 : Hp} (a : SameT H H1) (b : SameT H1 H2) : SameT H H2 := fun c u e h => b c u (a c u e h) h
theorem SameT.of {H H' : Hp} (s : Same H H') : SameT H H' := fun a u e _ => s a u e
theorem SameT.draw {H H' : Hp} {b : Addr} {n : Int} (B : BoxAt H b n) (s : SameB b H H') : SameT H H' := fun a u e h => by
  obtain ⟨b0, b1, b2, eb, _⟩ := B
  exact s a u e (fun z => by rw [z, eb] at e; cases e; exact h _ rfl)
theorem SameT.put {H : Hp} {l : Addr} {xs ys : List V} (h : H l = some (.lst xs)) : SameT H (upd H l (.lst ys)) := fun a u e hu => by
  rw [upd_ne (fun z => by rw [z, h] at e; cases e; exact hu _ rfl)]; exact e
mutual
/-- no list in it -/
def Dat.imm : Dat → Bool
  | .lst _ => false
  | .tup ds => Dat.imms ds
  | _ => true
def Dat.imms : List Dat → Bool
  | [] => true
  | d :: ds => d.imm && Dat.imms ds
end
section
variable {P : Program} {w : World} {K : PySem.W.Frag} {mg : Str → Option Value} {base : Heap}
theorem SqT.keep {H H' : Hp} {a : Addr} {xs : List V} (q : SqT K H a xs) (s : SameT H H') : SqT K H' a xs := by
  rcases q with (q | ⟨o, q⟩) | q
  · exact .inl (.inl (s a _ q (fun z h => nomatch h)))
  · exact .inl (.inr ⟨o, s a _ q (fun z h => nomatch h)⟩)
  · exact .inr q
mutual
theorem Rep.keep {H H' : Hp} (s : SameT H H') : ∀ {d : Dat} {v : V}, d.imm = true → Rep K H d v → Rep K H' d v
  | .non, _, _, h => h
  | .bl _, _, _, h => h
  | .int _, _, _, h => h
  | .str _, _, _, h => h
  | .lst _, _, i, _ => by cases i
  | .tup ds, _, i, h => by
    obtain ⟨a, xs, e, q, r⟩ := h
    exact ⟨a, xs, e, q.keep s, Reps.keep s (ds := ds) i r⟩
theorem Reps.keep {H H' : Hp} (s : SameT H H') : ∀ {ds : List Dat} {xs : List V}, Dat.imms ds = true → Reps K H ds xs → Reps K H' ds xs
  | [], _, _, h => h
  | d :: ds, _, i, h => by
    obtain ⟨x, r, e, h1, h2⟩ := h
    have i' : (d.imm && Dat.imms ds) = true := i
    rw [Bool.and_eq_true] at i'
    exact ⟨x, r, e, Rep.keep s i'.1 h1, Reps.keep s i'.2 h2⟩
end
theorem Reps.snoc {H : Hp} {d : Dat} {v : V} (h : Rep K H d v) : ∀ {ds : List Dat} {xs : List V}, Reps K H ds xs → Reps K H (ds ++ [d]) (xs ++ [v])
  | [], _, e => by rw [show _ = _ from e]; exact ⟨v, [], rfl, h, rfl⟩
  | _ :: _, _, e => by
    obtain ⟨x, r, e1, h1, h2⟩ := e
    subst e1
    exact ⟨x, r ++ [v], rfl, h1, Reps.snoc h h2⟩
theorem Reps.take {H : Hp} : ∀ (n : Nat) {ds : List Dat} {xs : List V}, Reps K H ds xs → Reps K H (ds.take n) (xs.take n)
  | 0, _, _, _ => rfl
  | n + 1, [], _, h => by rw [show _ = _ from h]; exact rfl
  | n + 1, d :: ds, _, h => by
    obtain ⟨x, r, e, h1, h2⟩ := h
    subst e
    exact ⟨x, r.take n, rfl, h1, Reps.take n h2⟩
theorem Reps.app {H : Hp} : ∀ {ds es : List Dat} {xs ys : List V}, Reps K H ds xs → Reps K H es ys → Reps K H (ds ++ es) (xs ++ ys)
  | [], _, _, _, h, h' => by rw [show _ = _ from h]; exact h'
  | d :: ds, _, _, _, h, h' => by
    obtain ⟨x, r, e, h1, h2⟩ := h
    subst e
    exact ⟨x, r ++ _, rfl, h1, Reps.app h2 h'⟩
end
end L2

set_option Elab.async false
set_option linter.all false
set_option maxRecDepth 100000
set_option maxHeartbeats 4000000
namespace L2
open PySem PySem.Spec PyProof.Rows
/-! plain data: its ints, its signs, its size, its depth -/
mutual
def Dat.gd (k : Nat) : Dat → Bool
  | .int i => decide (i.natAbs ≤ 10000000000 + k)
  | .str x => x.cps.toList.all fun c => decide (c < 1000000)
  | .lst ds => Dat.gds k ds
  | .tup ds => Dat.gds k ds
  | _ => true
def Dat.gds (k : Nat) : List Dat → Bool
  | [] => true
  | d :: ds => d.gd k && Dat.gds k ds
end
mutual
theorem Dat.gd_up {k m : Nat} (h : k ≤ m) : ∀ {d : Dat}, d.gd k = true → d.gd m = true
  | .int i, e => decide_eq_true (by have := of_decide_eq_true (p := i.natAbs ≤ 10000000000 + k) e; omega)
  | .str _, e => e
  | .lst ds, e => Dat.gds_up h (ds := ds) e
  | .tup ds, e => Dat.gds_up h (ds := ds) e
  | .non, _ => rfl
  | .bl _, _ => rfl
theorem Dat.gds_up {k m : Nat} (h : k ≤ m) : ∀ {ds : List Dat}, Dat.gds k ds = true → Dat.gds m ds = true
  | [], _ => rfl
  | d :: ds, e => by
    have e' : (d.gd k && Dat.gds k ds) = true := e
    rw [Bool.and_eq_true] at e'
    show (d.gd m && Dat.gds m ds) = true
    rw [Dat.gd_up h e'.1, Dat.gds_up h e'.2]; rfl
end
mutual
theorem Dat.gd_shw {k : Nat} (h : k ≤ 1000) : ∀ {d : Dat}, d.gd k = true → d.shw = true
  | .int i, e => decide_eq_true (by have := of_decide_eq_true (p := i.natAbs ≤ 10000000000 + k) e; omega)
  | .str _, e => e
  | .lst ds, e => Dat.gds_shw h (ds := ds) e
  | .tup ds, e => Dat.gds_shw h (ds := ds) e
  | .non, _ => rfl
  | .bl _, _ => rfl
theorem Dat.gds_shw {k : Nat} (h : k ≤ 1000) : ∀ {ds : List Dat}, Dat.gds k ds = true → Dat.shws ds = true
  | [], _ => rfl
  | d :: ds, e => by
    have e' : (d.gd k && Dat.gds k ds) = true := e
    rw [Bool.and_eq_true] at e'
    show (d.shw && Dat.shws ds) = true
    rw [Dat.gd_shw h e'.1, Dat.gds_shw h e'.2]; rfl
end
structure Gd (k z D : Nat) (d : Dat) : Prop where
  g : d.gd k = true
  b : d.blk ≤ z
  p : d.py.depth ≤ D
theorem Gd.up {k z D k' z' D' : Nat} {d : Dat} (h : Gd k z D d) (h1 : k ≤ k') (h2 : z ≤ z') (h3 : D ≤ D') : Gd k' z' D' d := ⟨Dat.gd_up h1 h.g, Nat.le_trans h.b h2, Nat.le_trans h.p h3⟩
section
variable {P : Program} {w : World} {K : PySem.W.Frag} {mg : Str → Option Value} {base : Heap}
def DS (K : PySem.W.Frag) (F : Hp) (k z D : Nat) (v : V) : Prop := ∃ d, Rep K F d v ∧ Gd k z D d
theorem DS.up {F F' : Hp} {k z D k' z' D' : Nat} {v : V} (h : DS K F k z D v) (s : Same F F') (h1 : k ≤ k') (h2 : z ≤ z') (h3 : D ≤ D') : DS K F' k' z' D' v := let ⟨d, r, g⟩ := h; ⟨d, r.same s, g.up h1 h2 h3⟩
theorem rows_of {F : Hp} {k z D : Nat} : ∀ {xs : List V}, (∀ x ∈ xs, DS K F k z D x) → ∃ ds, Reps K F ds xs ∧ Dat.gds k ds = true ∧ Dat.blks ds ≤ (z + 1) * xs.length ∧ PyData.depthAll (Dat.pys ds) ≤ D
  | [], _ => ⟨[], rfl, rfl, Nat.zero_le _, Nat.zero_le _⟩
  | x :: xs, h => by
    obtain ⟨d, r, g⟩ := h x (by simp)
    obtain ⟨ds, r', g', b', p'⟩ := rows_of (xs := xs) fun y hy => h y (List.mem_cons_of_mem _ hy)
    refine ⟨d :: ds, ⟨x, xs, rfl, r, r'⟩, ?_, ?_, ?_⟩
    · show (d.gd k && Dat.gds k ds) = true
      rw [g.g, g']; rfl
    · show d.blk + 1 + Dat.blks ds ≤ _
      have := g.b
      rw [List.length_cons, Nat.mul_succ]
      omega
    · show max d.py.depth (PyData.depthAll (Dat.pys ds)) ≤ D
      have := g.p
      omega
theorem DS.lst {F : Hp} {k z D z' : Nat} {a : Addr} {xs : List V} (h : SqL K F a xs) (all : ∀ x ∈ xs, DS K F k z D x) (hz : (z + 1) * xs.length ≤ z') : DS K F k z' (D + 1) (.ref a) := by
  obtain ⟨ds, r, g, b, p⟩ := rows_of all
  refine ⟨.lst ds, ⟨a, xs, rfl, h, r⟩, g, Nat.le_trans b hz, ?_⟩
  show PyData.depth (.list (Dat.pys ds)) ≤ _
  simp only [PyData.depth]
  omega
theorem DS.tup {F : Hp} {k z D z' : Nat} {a : Addr} {xs : List V} (h : SqT K F a xs) (all : ∀ x ∈ xs, DS K F k z D x) (hz : (z + 1) * xs.length ≤ z') : DS K F k z' (D + 1) (.ref a) := by
  obtain ⟨ds, r, g, b, p⟩ := rows_of all
  refine ⟨.tup ds, ⟨a, xs, rfl, h, r⟩, g, Nat.le_trans b hz, ?_⟩
  show PyData.depth (.tuple (Dat.pys ds)) ≤ _
  simp only [PyData.depth]
  omega
theorem all_of {F : Hp} {k z D : Nat} : ∀ {ds : List Dat} {xs : List V}, Reps K F ds xs → Dat.gds k ds = true → Dat.blks ds ≤ z → PyData.depthAll (Dat.pys ds) ≤ D → xs.length ≤ z ∧ ∀ x ∈ xs, DS K F k (z - 1) D x
  | [], _, h, _, _, _ => by rw [show _ = _ from h]; exact ⟨Nat.zero_le _, fun x hx => nomatch hx⟩
  | d :: ds, _, h, g, b, p => by
    obtain ⟨v, r, e, h1, h2⟩ := h
    subst e
    have g' : (d.gd k && Dat.gds k ds) = true := g
    rw [Bool.and_eq_true] at g'
    have b' : d.blk + 1 + Dat.blks ds ≤ z := b
    have p' : max d.py.depth (PyData.depthAll (Dat.pys ds)) ≤ D := p
    obtain ⟨l, al⟩ := all_of (z := z - 1) (k := k) (D := D) h2 g'.2 (by omega) (by omega)
    refine ⟨by rw [List.length_cons]; omega, fun x hx => ?_⟩
    rcases List.mem_cons.mp hx with q | q
    · rw [q]; exact ⟨d, h1, g'.1, by omega, by omega⟩
    · exact (al x q).up (Same.refl _) (Nat.le_refl _) (by omega) (Nat.le_refl _)
def SqQ (K : PySem.W.Frag) (H : Hp) (t : Bool) (a : Addr) (xs : List V) : Prop := if t = true then SqT K H a xs else SqL K H a xs
theorem SqQ.same {H H' : Hp} {t : Bool} {a : Addr} {xs : List V} (h : SqQ K H t a xs) (s : Same H H') : SqQ K H' t a xs := by
  cases t with
  | true => exact s.sqT h
  | false => exact s.seq h
theorem SqQ.or {H : Hp} {t : Bool} {a : Addr} {xs : List V} (h : SqQ K H t a xs) : SqL K H a xs ∨ SqT K H a xs := by
  cases t with
  | true => exact .inr h
  | false => exact .inl h
def tyQ (t : Bool) : String := if t = true then "tuple" else "list"
theorem SqQ.ty {H : Hp} {t : Bool} {a : Addr} {xs : List V} (h : SqQ K H t a xs) : TyN K H (.ref a) (tyQ t) := by
  cases t with
  | true => exact .inr ⟨rfl, xs, h⟩
  | false => exact .inl ⟨rfl, xs, h⟩
theorem DS.split {F : Hp} {k z D : Nat} {v : V} (h : DS K F k z D v) : v = .non ∨ (∃ c, v = .bl c) ∨ (∃ i : Int, v = .int i ∧ i.natAbs ≤ 10000000000 + k) ∨ (∃ x : Str, v = .str x) ∨ ∃ (a : Addr) (t : Bool) (xs : List V), v = .ref a ∧ SqQ K F t a xs ∧ xs.length ≤ z ∧ 1 ≤ D ∧ ∀ x ∈ xs, DS K F k (z - 1) (D - 1) x := by
  obtain ⟨d, r, g, b, p⟩ := h
  cases d with
  | non => exact .inl r
  | bl c => exact .inr (.inl ⟨c, r⟩)
  | int i => exact .inr (.inr (.inl ⟨i, r, of_decide_eq_true g⟩))
  | str x => exact .inr (.inr (.inr (.inl ⟨x, r⟩)))
  | lst ds =>
    obtain ⟨a, xs, e, q, rs⟩ := r
    have p' : PyData.depth (.list (Dat.pys ds)) ≤ D := p
    simp only [PyData.depth] at p'
    obtain ⟨l, al⟩ := all_of (z := z) (D := D - 1) rs g b (by omega)
    exact .inr (.inr (.inr (.inr ⟨a, false, xs, e, q, l, by omega, al⟩)))
  | tup ds =>
    obtain ⟨a, xs, e, q, rs⟩ := r
    have p' : PyData.depth (.tuple (Dat.pys ds)) ≤ D := p
    simp only [PyData.depth] at p'
    obtain ⟨l, al⟩ := all_of (z := z) (D := D - 1) rs g b (by omega)
    exact .inr (.inr (.inr (.inr ⟨a, true, xs, e, q, l, by omega, al⟩)))
theorem int_gd {k : Nat} {i : Int} (h : i.natAbs ≤ 10000000000 + k) (z D : Nat) : Gd k z D (.int i) := ⟨decide_eq_true h, Nat.zero_le _, by show PyData.depth (.int i) ≤ _; simp [PyData.depth]⟩
theorem DS.non {F : Hp} {k z D : Nat} : DS K F k z D .non := ⟨.non, rfl, rfl, Nat.zero_le _, by show PyData.depth .none ≤ _; simp [PyData.depth]⟩
theorem DS.bl {F : Hp} {k z D : Nat} (b : Bool) : DS K F k z D (.bl b) := ⟨.bl b, rfl, rfl, Nat.zero_le _, by show PyData.depth (.bool b) ≤ _; simp [PyData.depth]⟩
theorem DS.int {F : Hp} {k z D : Nat} {i : Int} (h : i.natAbs ≤ 10000000000 + k) : DS K F k z D (.int i) := ⟨.int i, rfl, int_gd h z D⟩
theorem DS.str {F : Hp} {k z D : Nat} {x : Str} (h : x.length ≤ z) (hc : ∀ c ∈ x.cps.toList, c < 1000000) : DS K F k z D (.str x) := ⟨.str x, rfl, List.all_eq_true.mpr fun c hc' => decide_eq_true (hc c hc'), h, by show PyData.depth (.str x) ≤ _; simp [PyData.depth]⟩
theorem DS.istr {F : Hp} {k z D : Nat} {i : Int} (h : i.natAbs < 1000000000000) (hz : 13 ≤ z) : DS K F k z D (.str (toString i)) := by
  refine DS.str (Nat.le_trans (intStr_len h) hz) fun c hc => ?_
  have e : (Str.ofString (toString i)).cps.toList = (toString i).toList.map Char.toNat := by rw [Str.ofString_eq_toList]
  have hc' : c ∈ (Str.ofString (toString i)).cps.toList := hc
  rw [e] at hc'
  obtain ⟨ch, h1, rfl⟩ := List.mem_map.mp hc'
  have := int_ascii i ch h1
  omega
theorem cutL0 (xs : List V) (b : Nat) : (cutV xs none (some (b : Int))).length ≤ b := by
  unfold cutV
  rw [HT.sIx_nat, HT.sIx_none]
  rw [List.length_take]
  omega
theorem cutL1 (xs : List V) (a : Nat) : (cutV xs (some (a : Int)) none).length ≤ xs.length - a := by
  unfold cutV
  rw [HT.sIx_nat, HT.sIx_none]
  rw [List.length_take, List.length_drop]
  omega
theorem cutL2 (xs : List V) (a b : Nat) : (cutV xs (some (a : Int)) (some (b : Int))).length ≤ b - a ∧ (cutV xs (some (a : Int)) (some (b : Int))).length ≤ xs.length - a := by
  unfold cutV
  rw [HT.sIx_nat, HT.sIx_nat]
  rw [List.length_take, List.length_drop]
  omega
end
end L2

set_option Elab.async false
set_option linter.all false
set_option maxRecDepth 100000
set_option maxHeartbeats 4000000
namespace L2
open PySem PySem.Spec PyProof.Rows
structure Ex (H : Hp) (b : Addr) (ex : List Addr) : Prop where
  mem : b ∈ ex
  al : ∀ e ∈ ex, ∃ o, H e = some o
theorem Ex.next {H H' : Hp} {b : Addr} {ex : List Addr} {m : Int} (h : Ex H b ex) (s : SameB b H H') (B : BoxAt H' b m) : Ex H' b ex := ⟨h.mem, fun e he => by
  by_cases z : e = b
  · rw [z]; exact B.some
  · obtain ⟨o, q⟩ := h.al e he
    exact ⟨o, s e o q z⟩⟩
theorem Ex.same {H H' : Hp} {b : Addr} {ex : List Addr} (h : Ex H b ex) (s : Same H H') : Ex H' b ex := ⟨h.mem, fun e he => let ⟨o, q⟩ := h.al e he; ⟨o, s e o q⟩⟩
theorem Ex.out {H : Hp} {b p : Addr} {ex : List Addr} (h : Ex H b ex) (hp : H p = none) : p ∉ ex := fun z => by
  obtain ⟨o, q⟩ := h.al p z
  rw [hp] at q; cases q
theorem Ex.cons {H : Hp} {b m : Addr} {o : HO} {ex : List Addr} (h : Ex H b ex) (hm : H m = some o) : Ex H b (m :: ex) := ⟨List.mem_cons_of_mem _ h.mem, fun e he => (List.mem_cons.mp he).elim (fun z => ⟨o, by rw [z]; exact hm⟩) (h.al e)⟩
theorem Ex.put {H : Hp} {b m : Addr} {o : HO} {ex : List Addr} (h : Ex H b ex) : Ex (upd H m o) b ex := ⟨h.mem, fun e he => by
  by_cases z : e = m
  · rw [z]; exact ⟨o, upd_same⟩
  · rw [upd_ne z]; exact h.al e he⟩
theorem WX.draw {ex : List Addr} {H H' : Hp} {b : Addr} (h : b ∈ ex) (s : SameB b H H') : Same (WX ex H) (WX ex H') := fun c u e => by
  unfold WX at e ⊢
  split at e
  · cases e
  · rename_i hc
    rw [if_neg hc]
    exact s c u e (fun z => hc (by rw [z]; exact h))
section
variable {P : Program} {w : World} {K : PySem.W.Frag} {mg : Str → Option Value} {base : Heap}
theorem strc {x : Str} {k z D : Nat} {F : Hp} (h : decide (x.length ≤ 6) = true) (hc : (x.cps.toList.all fun c => decide (c < 1000000)) = true) (hz : 6 ≤ z) : DS K F k z D (.str x) := DS.str (Nat.le_trans (of_decide_eq_true h) hz) fun c h' => of_decide_eq_true (List.all_eq_true.mp hc c h')
def spOdd (K : PySem.W.Frag) : Sp := fun vs H Q _ => ∃ (b : Addr) (n : Int) (ex : List Addr), vs = [.ref b] ∧ BoxAt H b n ∧ n < 1099511627000 ∧ Ex H b ex ∧
  ∀ v H', SameB b H H' → BoxAt H' b (n + 1) → DS K (WX ex H') 0 10 3 v → Q v H'
theorem scOdd : FnScope ["_law_box_here", "_law_some"] ["_law_box_here"] (defScope (topL 13)) := ⟨rfl, rfl, rfl, by decide +kernel, rfl, by decide +kernel, by decide +kernel⟩
theorem ok_odd {f : Addr} {fd : FuncData} (F : Fun K "_law_odd" "_law_odd" (topL 13) f fd) (B : Blt mg) (D_take : Dfn P w K mg base "_law_take" 1 ["_law_box_here", "_law_size"] spTake) : FnOk P w K mg base CX0 2 f fd ["_law_box_here"] (spOdd K) := by
  have nd := scOdd.nd
  refine F.ok scOdd (fun vs H Q E h => ?_) (fun cdv A outer s H vs Q E hr h => ?_)
  · obtain ⟨b, n, ex, rfl, _⟩ := h
    rfl
  · obtain ⟨b, n, ex, rfl, B0, hn, E0, k⟩ := h
    refine ⟨_, (pss_cons (ps_set (i := 1) nd rfl (Or.inl rfl) (pe_lst (pa17 pe_non pe_bl pe_bl pe_int (pe_un un_neg pe_int) pe_int (pe_op op_pow pe_int pe_int) pe_str pe_str pe_str (pe_tup pa_nil) (pe_lst pa_nil) (pe_tup (pa_cons pe_int pa_nil)) (pe_lst (pa_cons pe_int pa_nil)) (pe_tup (pa_cons pe_int (pa_cons pe_int pa_nil))) (pe_lst (pa_cons (pe_lst pa_nil) pa_nil)) (pe_tup (pa_cons pe_str (pa_cons pe_int pa_nil))))))
      (pss_one (ps_ret (pe_ix ix_list (pv 1) (pe_callD D_take (hr.mono (by first | decide | exact Nat.le_refl _ | omega)) rfl (pa_cons (pv 0) (pa_cons pe_int pa_nil))) (fun _ _ => rfl))))), ?_⟩
    refine ⟨_, rfl, _, _, rfl, rfl, ⟨by decide, by decide, by decide⟩, le0, fun p1 h1 => ⟨le0, fun p2 h2 => ⟨le1, fun p3 h3 => ⟨le1, fun p4 h4 => ⟨le2, fun p5 h5 => ⟨le0, fun p6 h6 => ⟨le1, fun p7 h7 => ⟨le2, fun p8 h8 => ⟨leN (by show 17 ≤ 1000; decide), fun l hl => ?_⟩⟩⟩⟩⟩⟩⟩⟩⟩
    have s1 := same_upd (o := .tup []) h1
    have s2 := same_upd (o := .lst []) h2
    have s3 := same_upd (o := .tup [.int 0]) h3
    have s4 := same_upd (o := .lst [.int 0]) h4
    have s5 := same_upd (o := .tup [.int 0, .int 1]) h5
    have s6 := same_upd (o := .lst []) h6
    have s7 := same_upd (o := .lst [.ref p6]) h7
    have s8 := same_upd (o := .tup [.str "laid", .int 0]) h8
    have E1 := E0.same s1
    have E2 := E1.same s2
    have E3 := E2.same s3
    have E4 := E3.same s4
    have E5 := E4.same s5
    have E6 := E5.same s6
    have E7 := E6.same s7
    have E8 := E7.same s8
    have sl := same_upd (o := .lst [.non, .bl true, .bl false, .int 0, .int (-1), .int 1, .int (10 ^ (9 : Int).toNat), .str "", .str "a", .str "0", .ref p1, .ref p2, .ref p3, .ref p4, .ref p5, .ref p7, .ref p8]) hl
    have f1 := (s2.trans (s3.trans (s4.trans (s5.trans (s6.trans (s7.trans (s8.trans sl))))))) p1 _ upd_same
    have f2 := (s3.trans (s4.trans (s5.trans (s6.trans (s7.trans (s8.trans sl)))))) p2 _ upd_same
    have f3 := (s4.trans (s5.trans (s6.trans (s7.trans (s8.trans sl))))) p3 _ upd_same
    have f4 := (s5.trans (s6.trans (s7.trans (s8.trans sl)))) p4 _ upd_same
    have f5 := (s6.trans (s7.trans (s8.trans sl))) p5 _ upd_same
    have f6 := (s7.trans (s8.trans sl)) p6 _ upd_same
    have f7 := (s8.trans sl) p7 _ upd_same
    have f8 := sl p8 _ upd_same
    have st := s1.trans (s2.trans (s3.trans (s4.trans (s5.trans (s6.trans (s7.trans (s8.trans sl)))))))
    have n1 := E0.out h1
    have n2 := E1.out h2
    have n3 := E2.out h3
    have n4 := E3.out h4
    have n5 := E4.out h5
    have n6 := E5.out h6
    have n7 := E6.out h7
    have n8 := E7.out h8
    have nl := E8.out hl
    have B8 := B0.same st
    have fl := upd_same (H := upd (upd (upd (upd (upd (upd (upd (upd H p1 (.tup [])) p2 (.lst [])) p3 (.tup [.int 0])) p4 (.lst [.int 0])) p5 (.tup [.int 0, .int 1])) p6 (.lst [])) p7 (.lst [.ref p6])) p8 (.tup [.str "laid", .int 0])) (a := l) (o := .lst [.non, .bl true, .bl false, .int 0, .int (-1), .int 1, .int (10 ^ (9 : Int).toNat), .str "", .str "a", .str "0", .ref p1, .ref p2, .ref p3, .ref p4, .ref p5, .ref p7, .ref p8])
    clear s1 s2 s3 s4 s5 s6 s7 s8 E1 E2 E3 E4 E5 E6 E7 E8 sl h1 h2 h3 h4 h5 h6 h7 h8 hl B0
    refine ⟨_, rfl, _, rfl, b, 17, n, rfl, B8, by omega, by decide, by decide, fun r H1 r0 r1 B1 S1 => ?_⟩
    have up : ∀ p o, p ∉ ex → _ = some o → WX ex H1 p = some o := fun p o hp e => WX.at hp (S1 p o e (fun z => hp (by rw [z]; exact E0.mem)))
    have g1 := up p1 _ n1 f1
    have g2 := up p2 _ n2 f2
    have g3 := up p3 _ n3 f3
    have g4 := up p4 _ n4 f4
    have g5 := up p5 _ n5 f5
    have g6 := up p6 _ n6 f6
    have g7 := up p7 _ n7 f7
    have g8 := up p8 _ n8 f8
    have gl := S1 l _ fl (fun z => nl (by rw [z]; exact E0.mem))
    have all : ∀ x ∈ [V.non, .bl true, .bl false, .int 0, .int (-1), .int 1, .int (10 ^ (9 : Int).toNat), .str "", .str "a", .str "0", .ref p1, .ref p2, .ref p3, .ref p4, .ref p5, .ref p7, .ref p8], DS K (WX ex H1) 0 10 3 x := by
      have i0 : ∀ i : Int, i.natAbs ≤ 10000000000 → ∀ D, DS K (WX ex H1) 0 2 D (.int i) := fun i h D => DS.int (by omega)
      have t6 : DS K (WX ex H1) 0 2 1 (.ref p6) := DS.lst (z := 0) (D := 0) (SqL.of g6) fm0 (Nat.zero_le _)
      refine fm DS.non (fm (DS.bl _) (fm (DS.bl _) (fm (DS.int (by decide)) (fm (DS.int (by decide)) (fm (DS.int (by decide)) (fm (DS.int (by decide)) (fm (strc (by decide) (by decide) (by decide)) (fm (strc (by decide) (by decide) (by decide)) (fm (strc (by decide) (by decide) (by decide)) ?_)))))))))
      refine fm ((DS.tup (k := 0) (z := 0) (D := 0) (z' := 0) (SqT.of g1) fm0 (Nat.zero_le _)).up (Same.refl _) (by decide) (by decide) (by decide)) (fm ((DS.lst (k := 0) (z := 0) (D := 0) (z' := 0) (SqL.of g2) fm0 (Nat.zero_le _)).up (Same.refl _) (by decide) (by decide) (by decide)) (fm (DS.tup (z := 2) (D := 2) (SqT.of g3) (fm (i0 0 (by decide) 2) fm0) (by decide)) (fm (DS.lst (z := 2) (D := 2) (SqL.of g4) (fm (i0 0 (by decide) 2) fm0) (by decide)) (fm (DS.tup (z := 2) (D := 2) (SqT.of g5) (fm (i0 0 (by decide) 2) (fm (i0 1 (by decide) 2) fm0)) (by decide)) (fm (DS.lst (z := 2) (D := 2) (SqL.of g7) (fm (t6.up (Same.refl _) (by decide) (by decide) (by decide)) fm0) (by show 3 * 1 ≤ 10; decide)) (fm ?_ fm0))))))
      refine DS.tup (z := 4) (D := 2) (SqT.of g8) (fm (DS.str (by decide) (fun c hc => of_decide_eq_true (List.all_eq_true.mp (by decide : (("laid" : Str).cps.toList.all fun c => decide (c < 1000000)) = true) c hc))) (fm (DS.int (by decide)) fm0)) (by decide)
    obtain ⟨v, ev, dv⟩ := pickL (α := fun x => DS K (WX ex H1) 0 10 3 x) gl r0 r1 all
    exact ⟨l, _, _, v, rfl, rfl, SqL.of gl, ev, k v H1 ((SameB.of st).trans S1) B1 dv⟩
end
end L2

set_option Elab.async false
set_option linter.all false
set_option maxRecDepth 100000
set_option maxHeartbeats 4000000
namespace L2
open PySem PySem.Spec PyProof.Rows
def isNumB : V → Bool
  | .int _ => true
  | _ => false
theorem ixN_in {n : Nat} {i : Int} (h : 0 ≤ i) (h' : i < n) : ixN n i = some i.toNat := by
  unfold ixN
  rw [if_pos h, if_pos h']
section
variable {P : Program} {w : World} {K : PySem.W.Frag} {mg : Str → Option Value} {base : Heap}
theorem DS.split2 {F : Hp} {k z D : Nat} {v : V} (h : DS K F k z D v) : v = .non ∨ (∃ c, v = .bl c) ∨ (∃ i : Int, v = .int i ∧ i.natAbs ≤ 10000000000 + k) ∨ (∃ x : Str, v = .str x) ∨ ∃ (a : Addr) (t : Bool) (xs : List V) (ds : List Dat), v = .ref a ∧ SqQ K F t a xs ∧ Reps K F ds xs ∧ Dat.gds k ds = true ∧ Dat.blks ds ≤ z ∧ PyData.depthAll (Dat.pys ds) + 1 ≤ D := by
  obtain ⟨d, r, g, b, p⟩ := h
  cases d with
  | non => exact .inl r
  | bl c => exact .inr (.inl ⟨c, r⟩)
  | int i => exact .inr (.inr (.inl ⟨i, r, of_decide_eq_true g⟩))
  | str x => exact .inr (.inr (.inr (.inl ⟨x, r⟩)))
  | lst ds =>
    obtain ⟨a, xs, e, q, rs⟩ := r
    exact .inr (.inr (.inr (.inr ⟨a, false, xs, ds, e, q, rs, g, b, p⟩)))
  | tup ds =>
    obtain ⟨a, xs, e, q, rs⟩ := r
    exact .inr (.inr (.inr (.inr ⟨a, true, xs, ds, e, q, rs, g, b, p⟩)))
def spIsNum (K : PySem.W.Frag) : Sp := fun vs H Q _ => ∃ v k z D, vs = [v] ∧ DS K H k z D v ∧ Q (.bl (isNumB v)) H
theorem scLIsNum : FnScope ["_law_thing"] ["_law_thing"] (defScope (topL 12)) := ⟨rfl, rfl, rfl, by decide +kernel, rfl, by decide +kernel, by decide +kernel⟩
theorem ok_lisnum {f : Addr} {fd : FuncData} (F : Fun K "_law_is_number" "_law_is_number" (topL 12) f fd) (B : Blt mg) : FnOk P w K mg base CX0 1 f fd ["_law_thing"] (spIsNum K) := by
  have nd := scLIsNum.nd
  refine F.ok scLIsNum (fun vs H Q E h => ?_) (fun cdv A outer s H vs Q E hr h => ?_)
  · obtain ⟨v, k, z, D, rfl, _⟩ := h
    rfl
  · obtain ⟨v, k', z, D, rfl, dv, k⟩ := h
    refine ⟨_, (pss_one (ps_ret (pe_and (pe_callB call_isi rfl B.isinstance boot_isinstance (pa_cons (pv 0) (pa_cons (pe_bltn (v := .ty "int") rfl B.int boot_int rfl) pa_nil))) (pe_one (pe_not (pe_callB call_isi rfl B.isinstance boot_isinstance (pa_cons (pv 0) (pa_cons (pe_bltn (v := .ty "bool") rfl B.bool boot_bool rfl) pa_nil)))))))), ?_⟩
    rcases dv.split2 with rfl | ⟨c, rfl⟩ | ⟨i, rfl, h⟩ | ⟨x, rfl⟩ | ⟨a, t, xs, ds, rfl, hq, _⟩
    · exact ⟨_, rfl, _, "NoneType", "int", rfl, rfl, (by decide), _, rfl, ifF (by decide) k⟩
    · exact ⟨_, rfl, _, "bool", "int", rfl, rfl, (by decide), _, rfl, ifT (by decide) ⟨_, rfl, _, "bool", "bool", rfl, rfl, (by decide), _, rfl, k⟩⟩
    · exact ⟨_, rfl, _, "int", "int", rfl, rfl, (by decide), _, rfl, ifT (by decide) ⟨_, rfl, _, "int", "bool", rfl, rfl, (by decide), _, rfl, k⟩⟩
    · exact ⟨_, rfl, _, "str", "int", rfl, rfl, (by decide), _, rfl, ifF (by decide) k⟩
    · exact ⟨_, rfl, _, tyQ t, "int", rfl, hq.ty, (by decide), _, rfl, ifF (by cases t <;> decide) k⟩
end
end L2

set_option Elab.async false
set_option linter.all false
set_option maxRecDepth 100000
set_option maxHeartbeats 4000000
namespace L2
open PySem PySem.Spec PyProof.Rows
theorem gds_set {k : Nat} : ∀ {ds : List Dat} {i : Nat} {d : Dat}, Dat.gds k ds = true → d.gd k = true → Dat.gds k (ds.set i d) = true
  | [], _, _, h, _ => h
  | a :: ds, 0, d, h, h' => by
    have e : (a.gd k && Dat.gds k ds) = true := h
    rw [Bool.and_eq_true] at e
    show (d.gd k && Dat.gds k ds) = true
    rw [h', e.2]; rfl
  | a :: ds, i + 1, d, h, h' => by
    have e : (a.gd k && Dat.gds k ds) = true := h
    rw [Bool.and_eq_true] at e
    show (a.gd k && Dat.gds k (ds.set i d)) = true
    rw [e.1, gds_set e.2 h']; rfl
theorem blks_set : ∀ {ds : List Dat} {i : Nat} {d : Dat}, Dat.blks (ds.set i d) ≤ Dat.blks ds + d.blk
  | [], _, _ => Nat.zero_le _
  | a :: ds, 0, d => by
    show d.blk + 1 + Dat.blks ds ≤ a.blk + 1 + Dat.blks ds + d.blk
    omega
  | a :: ds, i + 1, d => by
    show a.blk + 1 + Dat.blks (ds.set i d) ≤ a.blk + 1 + Dat.blks ds + d.blk
    have := blks_set (ds := ds) (i := i) (d := d)
    omega
theorem deps_set : ∀ {ds : List Dat} {i : Nat} {d : Dat}, PyData.depthAll (Dat.pys (ds.set i d)) ≤ max (PyData.depthAll (Dat.pys ds)) d.py.depth
  | [], _, _ => Nat.zero_le _
  | a :: ds, 0, d => by
    show max d.py.depth (PyData.depthAll (Dat.pys ds)) ≤ max (max a.py.depth (PyData.depthAll (Dat.pys ds))) d.py.depth
    omega
  | a :: ds, i + 1, d => by
    have := deps_set (ds := ds) (i := i) (d := d)
    show max a.py.depth (PyData.depthAll (Dat.pys (ds.set i d))) ≤ max (max a.py.depth (PyData.depthAll (Dat.pys ds))) d.py.depth
    omega
section
variable {P : Program} {w : World} {K : PySem.W.Frag} {mg : Str → Option Value} {base : Heap}
theorem Reps.set {H : Hp} : ∀ {ds : List Dat} {xs : List V} {i : Nat} {d : Dat} {v : V}, Reps K H ds xs → Rep K H d v → Reps K H (ds.set i d) (xs.set i v)
  | [], _, _, _, _, h, _ => by rw [show _ = _ from h]; exact rfl
  | a :: ds, _, 0, d, v, h, h' => by
    obtain ⟨x, r, e, _, h2⟩ := h
    subst e
    exact ⟨v, r, rfl, h', h2⟩
  | a :: ds, _, i + 1, d, v, h, h' => by
    obtain ⟨x, r, e, h1, h2⟩ := h
    subst e
    exact ⟨x, r.set i v, rfl, h1, Reps.set h2 h'⟩
end
end L2

set_option Elab.async false
set_option linter.all false
set_option maxRecDepth 100000
set_option maxHeartbeats 4000000
namespace L2
open PySem PySem.Spec PyProof.Rows
section
variable {P : Program} {w : World} {K : PySem.W.Frag} {mg : Str → Option Value} {base : Heap}
def spLine : Sp := fun vs H Q _ => ∃ (b : Addr) (m s n : Int), vs = [.ref b, .int m, .int s] ∧ BoxAt H b n ∧ n < 1000000 ∧ 1 ≤ m ∧ m ≤ 400 ∧ -5000 ≤ s ∧ s ≤ 5000 ∧
  ∀ (l : Addr) (ns : List Int) H', SameB b H H' → BoxAt H' b (n + 1000) → l ≠ b → H l = none → H' l = some (.lst (ns.map V.int)) → (ns.length : Int) = m → (∀ z ∈ ns, -6000 ≤ z ∧ z ≤ 6000) → Q (.ref l) H'
theorem scLine : FnScope ["_law_box_here", "_law_many", "_law_begin", "_law_found", "_law_step", "_law_k"] ["_law_box_here", "_law_many", "_law_begin"] (defScope (topL 17)) := ⟨rfl, rfl, rfl, by decide +kernel, rfl, by decide +kernel, by decide +kernel⟩
theorem ok_line {f : Addr} {fd : FuncData} (F : Fun K "_law_line" "_law_line" (topL 17) f fd) (B : Blt mg) (D_take : Dfn P w K mg base "_law_take" 1 ["_law_box_here", "_law_size"] spTake) : FnOk P w K mg base CX0 2 f fd ["_law_box_here", "_law_many", "_law_begin"] spLine := by
  have nd := scLine.nd
  refine F.ok scLine (fun vs H Q E h => ?_) (fun cdv A outer s H vs Q E hr h => ?_)
  · obtain ⟨b, m, s', n, rfl, _⟩ := h
    rfl
  · obtain ⟨b, m, st, n, rfl, B0, hn, m0, m1, s0, s1, k⟩ := h
    have hbig : 100000 < sizeLine := by rw [sizeLine_eq]; decide
    have e62 : (2 : Int) ^ 62 = 4611686018427387904 := by decide
    refine ⟨_, (pss_cons (ps_par (i := 3) (j := 4) rfl nd rfl rfl (by decide) rfl rfl (pa_cons (pe_lst (pa_cons (pv 2) pa_nil)) (pa_cons (pe_op op_sub (pe_callD D_take (hr.mono (by first | decide | exact Nat.le_refl _ | omega)) rfl (pa_cons (pv 0) (pa_cons pe_int pa_nil))) pe_int) pa_nil)) (by rfl))
      (pss_cons (ps_for PassesOwn.never rfl (pi_range1 rfl B.range (pa_cons (pe_op op_sub (pv 1) pe_int) pa_nil)) (pg_name (i := 5) nd rfl (Or.inl rfl))
      (pss_cons (ps_weak (ps_if (pt_cmpR op_eq (pe_callD D_take (hr.mono (by first | decide | exact Nat.le_refl _ | omega)) rfl (pa_cons (pv 0) (pa_cons pe_int pa_nil))) pe_int (nomark _))
        (pss_one (ps_set (i := 4) nd rfl (Or.inl rfl) (pe_op op_sub (pe_callD D_take (hr.mono (by first | decide | exact Nat.le_refl _ | omega)) rfl (pa_cons (pv 0) (pa_cons pe_int pa_nil))) pe_int)))
        pss_nil))
        (pss_one (ps_expr (pe_bm PySem.F.plainAttrs_list PySem.F.slot_list_append PySem.F.type_list_append mt_append (pv 3) (pa_cons (pe_op op_add (pe_ix ix_list (pv 3) (pe_un un_neg pe_int) (fun _ _ => rfl)) (pv 4)) pa_nil))))))
      (pss_one (ps_ret (pv 3))))), ?_⟩
    refine ⟨_, rfl, le1, fun l hl => ⟨_, rfl, b, 3, n, rfl, B0.new hl, by omega, by decide, by decide, fun r H1 r0 r1 B1 S1 => ⟨_, _, rfl, rfl, _, _, rfl, ?_⟩⟩⟩
    have nlb := B0.nne hl
    have L1 := S1 l _ upd_same nlb
    have S1' := ((SameB.refl b H).new (o := .lst [.int st]) hl).trans S1
    refine ⟨_, rfl, _, _, rfl, rfl, _, rfl, (by rw [e62]; omega), (by rw [e62]; omega), ?_⟩
    refine for_range (fun i σ H4 => ∃ (step z : Int) (ms : List Int) (v5 : Option V), σ = [some (.ref b), some (.int m), some (.int st), some (.ref l), some (.int step), v5] ∧ -1 ≤ step ∧ step ≤ 1 ∧ SameB b H H4 ∧ BoxAt H4 b (n + 1 + 2 * i) ∧ H4 l = some (.lst ((ms ++ [z]).map V.int)) ∧ ms.length = i ∧ ∀ y ∈ ms ++ [z], -5000 - (i : Int) ≤ y ∧ y ≤ 5000 + (i : Int))
      ⟨_, st, [], _, rfl, by omega, by omega, S1', B1.mono (by omega), L1, rfl, fun y hy => by rw [List.mem_singleton.mp hy]; omega⟩ ?_ ?_
    · rintro i σ H4 hi ⟨step, z, ms, v5, rfl, t0, t1, S4, B4, L4, ml, bd⟩
      refine ⟨fun σ' H' => ∃ step' : Int, σ' = [some (.ref b), some (.int m), some (.int st), some (.ref l), some (.int step'), some (.int (0 + (i : Int)))] ∧ -1 ≤ step' ∧ step' ≤ 1 ∧ SameB b H H' ∧ BoxAt H' b (n + 1 + 2 * i + 2) ∧ H' l = some (.lst ((ms ++ [z]).map V.int)), ?_, ?_⟩
      · refine ⟨_, rfl, b, 4, _, rfl, B4, by omega, by decide, by decide, fun r2 H5 a0 a1 B5 S5 => ⟨rfl, _, rfl, ite2 (fun c => ?_) (fun c => ?_)⟩⟩
        · exact ⟨_, rfl, b, 3, _, rfl, B5, by omega, by decide, by decide, fun r3 H6 c0 c1 B6 S6 => ⟨_, _, rfl, rfl, _, rfl, by omega, by omega, (S4.trans S5).trans S6, B6.mono (by omega), S6 l _ (S5 l _ L4 nlb) nlb⟩⟩
        · exact ⟨step, rfl, t0, t1, S4.trans S5, B5.mono (by omega), S5 l _ L4 nlb⟩
      rintro σ' H6 ⟨step', rfl, u0, u1, S6, B6, L6⟩
      have eL : (ms ++ [z]).map V.int = ms.map V.int ++ [V.int z] := by rw [List.map_append]; rfl
      have bz := bd z (by simp)
      refine ⟨_, rfl, .inl ⟨rfl, _, SqL.of L6⟩, _, rfl, _, rfl, l, _, _, .int z, rfl, rfl, SqL.of L6, by rw [eL]; exact atI_last _ _, _, rfl, _, _, rfl, rfl, l, _, _, rfl, rfl, L6, by rw [List.length_map, List.length_append, ml]; show i + 1 < sizeLine; omega, ?_⟩
      refine ⟨step', z + step', ms ++ [z], _, rfl, u0, u1, S6.put hl, (B6.other nlb).mono (by omega), by rw [upd_same, List.map_append (l₁ := ms ++ [z])]; rfl, by rw [List.length_append, ml]; rfl, fun y hy => ?_⟩
      rcases List.mem_append.mp hy with q | q
      · have := bd y q
        omega
      · rw [List.mem_singleton.mp q]
        omega
    · rintro σ H4 ⟨step, z, ms, v5, rfl, t0, t1, S4, B4, L4, ml, bd⟩
      refine ⟨_, rfl, k l (ms ++ [z]) H4 S4 (B4.mono (by omega)) nlb hl L4 (by rw [List.length_append, ml]; show (((m - 1).toNat + 1 : Nat) : Int) = m; omega) fun y hy => ?_⟩
      have := bd y hy
      omega
end
end L2

set_option Elab.async false
set_option linter.all false
set_option maxRecDepth 100000
set_option maxHeartbeats 4000000
namespace L2
open PySem PySem.Spec PyProof.Rows
def spEnds (K : PySem.W.Frag) : Sp := fun vs H Q _ => ∃ (l r : Addr) (ls rs : List Int), vs = [.ref l, .ref r] ∧ SqL K H l (ls.map V.int) ∧ SqL K H r (rs.map V.int) ∧ ∀ p H', H' p = some (.tup [.int ((ls.length : Int) - 1), .int ((rs.length : Int) - 1)]) → Same H H' → Q (.ref p) H'
def spNear (K : PySem.W.Frag) : Sp := fun vs H Q _ => ∃ (l r p : Addr) (ls rs : List Int) (g i j x y : Int), vs = [.ref l, .ref r, .int g, .ref p] ∧ SqL K H l (ls.map V.int) ∧ SqL K H r (rs.map V.int) ∧ SqT K H p [.int i, .int j] ∧
  atI (ls.map V.int) i = some (.int x) ∧ atI (rs.map V.int) j = some (.int y) ∧ Q (.bl (decide (x + g > y))) H
section
variable {P : Program} {w : World} {K : PySem.W.Frag} {mg : Str → Option Value} {base : Heap}
theorem scEnds : FnScope ["left", "right"] ["left", "right"] (defScope (topL 3)) := ⟨rfl, rfl, rfl, by decide +kernel, rfl, by decide +kernel, by decide +kernel⟩
theorem ok_ends {f : Addr} {fd : FuncData} (F : Fun K "ends_of" "ends_of" (topL 3) f fd) (B : Blt mg) : FnOk P w K mg base CX0 1 f fd ["left", "right"] (spEnds K) := by
  have nd := scEnds.nd
  refine F.ok scEnds (fun vs H Q E h => ?_) (fun cdv A outer s H vs Q E hr h => ?_)
  · obtain ⟨l, r, ls, rs, rfl, _⟩ := h
    rfl
  · obtain ⟨l, r, ls, rs, rfl, hl, hr', k⟩ := h
    refine ⟨_, (pss_one (ps_ret (pe_tup (pa_cons (pe_op op_sub (pe_callB call_len_seq rfl B.len boot_len (pa_cons (pv 0) pa_nil)) pe_int) (pa_cons (pe_op op_sub (pe_callB call_len_seq rfl B.len boot_len (pa_cons (pv 1) pa_nil)) pe_int) pa_nil))))), ?_⟩
    refine ⟨_, rfl, l, _, rfl, .inl hl, _, _, rfl, rfl, _, rfl, r, _, rfl, .inl hr', _, _, rfl, rfl, le2, fun q h => ?_⟩
    refine k q _ ?_ (same_upd h)
    rw [upd_same, List.length_map, List.length_map]
theorem scNear : FnScope ["left", "right", "gap", "at"] ["left", "right", "gap", "at"] (defScope (topL 2)) := ⟨rfl, rfl, rfl, by decide +kernel, rfl, by decide +kernel, by decide +kernel⟩
theorem ok_near {f : Addr} {fd : FuncData} (F : Fun K "is_too_near" "is_too_near" (topL 2) f fd) (B : Blt mg) : FnOk P w K mg base CX0 1 f fd ["left", "right", "gap", "at"] (spNear K) := by
  have nd := scNear.nd
  refine F.ok scNear (fun vs H Q E h => ?_) (fun cdv A outer s H vs Q E hr h => ?_)
  · obtain ⟨l, r, p, ls, rs, g, i, j, x, y, rfl, _⟩ := h
    rfl
  · obtain ⟨l, r, p, ls, rs, g, i, j, x, y, rfl, hl, hr', hp, hi, hj, k⟩ := h
    refine ⟨_, (pss_one (ps_ret (pe_cmpR op_gt (pe_op op_add (pe_ix ix_list (pv 0) (pe_ix ix_tup (pv 3) pe_int (fun _ _ => rfl)) (fun _ _ => rfl)) (pv 2)) (pe_ix ix_list (pv 1) (pe_ix ix_tup (pv 3) pe_int (fun _ _ => rfl)) (fun _ _ => rfl)) (nomark _)))), ?_⟩
    refine ⟨_, rfl, _, rfl, p, _, _, _, rfl, rfl, hp, rfl, l, _, _, _, rfl, rfl, hl, hi, _, rfl, _, _, rfl, rfl, _, rfl, _, rfl, p, _, _, _, rfl, rfl, hp, rfl, r, _, _, _, rfl, rfl, hr', hj, _, _, rfl, rfl, k⟩
end
theorem pickG {g2 r : Int} (h : 0 ≤ r) (h' : r < 4) (a : 0 ≤ g2) (b : g2 ≤ 1000) : ∃ z : Int, atI [V.int 0, V.int 1, V.int g2, V.int 1000] r = some (.int z) ∧ 0 ≤ z ∧ z ≤ 1000 := by
  have hc : r = 0 ∨ r = 1 ∨ r = 2 ∨ r = 3 := by omega
  rcases hc with rfl | rfl | rfl | rfl
  · exact ⟨0, rfl, by omega, by omega⟩
  · exact ⟨1, rfl, by omega, by omega⟩
  · exact ⟨g2, rfl, a, b⟩
  · exact ⟨1000, rfl, by omega, by omega⟩
section
variable {P : Program} {w : World} {K : PySem.W.Frag} {mg : Str → Option Value} {base : Heap}
def Tr (H : Hp) (l : Addr) (ls : List Int) : Prop := H l = some (.lst (ls.map V.int)) ∧ ls ≠ [] ∧ ls.length ≤ 60 ∧ ∀ z ∈ ls, -6000 ≤ z ∧ z ≤ 6000
def spRail : Sp := fun vs H Q _ => ∃ (b : Addr) (n : Int), vs = [.ref b, .int 60] ∧ BoxAt H b n ∧ n < 100000 ∧
  ∀ (p l r : Addr) (ls rs : List Int) (g : Int) H', SameB b H H' → BoxAt H' b (n + 2500) → H' p = some (.tup [.ref l, .ref r, .int g]) → Tr H' l ls → Tr H' r rs → l ≠ b → r ≠ b → 0 ≤ g → g ≤ 1000 → Q (.ref p) H'
theorem scRail : FnScope ["_law_box_here", "_law_most", "_law_some", "_law_gap", "_law_begin", "_law_left", "_law_right_here"] ["_law_box_here", "_law_most"] (defScope (topL 18)) := ⟨rfl, rfl, rfl, by decide +kernel, rfl, by decide +kernel, by decide +kernel⟩
theorem ok_rail {f : Addr} {fd : FuncData} (F : Fun K "_law_rail" "_law_rail" (topL 18) f fd) (B : Blt mg) (D_take : Dfn P w K mg base "_law_take" 1 ["_law_box_here", "_law_size"] spTake) (D_line : Dfn P w K mg base "_law_line" 2 ["_law_box_here", "_law_many", "_law_begin"] spLine) : FnOk P w K mg base CX0 3 f fd ["_law_box_here", "_law_most"] spRail := by
  have nd := scRail.nd
  refine F.ok scRail (fun vs H Q E h => ?_) (fun cdv A outer s H vs Q E hr h => ?_)
  · obtain ⟨b, n, rfl, _⟩ := h
    rfl
  · obtain ⟨b, n, rfl, B0, hn, k⟩ := h
    have hbig : 100000 < sizeLine := by rw [sizeLine_eq]; decide
    refine ⟨_, (pss_cons (ps_lc1 ["_law_box_here", "_law_most"] [0, 1] rfl rfl (by kernel_rfl) (pi_range1 rfl B.range (pa_cons pe_int pa_nil)) (fun C0 s0 H0 ex0 => pf_nil) (fun C0 s0 H0 ex0 => (pe_op op_add pe_int (pe_callD D_take (hr.mono (by first | decide | exact Nat.le_refl _ | omega)) rfl (pa_cons (pv 1) (pa_cons (pe_ifExp (pt_cmpR op_eq (pe_callD D_take (hr.mono (by first | decide | exact Nat.le_refl _ | omega)) rfl (pa_cons (pv 1) (pa_cons pe_int pa_nil))) pe_int (nomark _)) (pv 2) pe_int) pa_nil))))) (pg_name (i := 2) nd rfl (Or.inl rfl)))
      (pss_cons (ps_set (i := 3) nd rfl (Or.inl rfl) (pe_ix ix_list (pe_lst (pa_cons pe_int (pa_cons pe_int (pa_cons (pe_callD D_take (hr.mono (by first | decide | exact Nat.le_refl _ | omega)) rfl (pa_cons (pv 0) (pa_cons pe_int pa_nil))) (pa_cons pe_int pa_nil))))) (pe_callD D_take (hr.mono (by first | decide | exact Nat.le_refl _ | omega)) rfl (pa_cons (pv 0) (pa_cons pe_int pa_nil))) (fun _ _ => rfl)))
      (pss_cons (ps_set (i := 4) nd rfl (Or.inl rfl) (pe_op op_sub (pe_callD D_take (hr.mono (by first | decide | exact Nat.le_refl _ | omega)) rfl (pa_cons (pv 0) (pa_cons pe_int pa_nil))) pe_int))
      (pss_cons (ps_set (i := 5) nd rfl (Or.inl rfl) (pe_callD D_line (hr.mono (by first | decide | exact Nat.le_refl _ | omega)) rfl (pa_cons (pv 0) (pa_cons (pe_ix ix_list (pv 2) pe_int (fun _ _ => rfl)) (pa_cons (pv 4) pa_nil)))))
      (pss_cons (ps_set (i := 6) nd rfl (Or.inl rfl) (pe_callD D_line (hr.mono (by first | decide | exact Nat.le_refl _ | omega)) rfl (pa_cons (pv 0) (pa_cons (pe_ix ix_list (pv 2) pe_int (fun _ _ => rfl)) (pa_cons (pe_op op_add (pe_op op_sub (pe_op op_add (pv 4) (pv 3)) pe_int) (pe_callD D_take (hr.mono (by first | decide | exact Nat.le_refl _ | omega)) rfl (pa_cons (pv 0) (pa_cons pe_int pa_nil)))) pa_nil)))))
      (pss_one (ps_ret (pe_tup (pa_cons (pv 5) (pa_cons (pv 6) (pa_cons (pv 3) pa_nil))))))))))), ?_⟩
    refine ⟨2, rfl, (by decide), (by decide), lc_range (N := 2) (fun i zs H3 => ∃ ms : List Int, zs = ms.map V.int ∧ ms.length = i ∧ (∀ m ∈ ms, 1 ≤ m ∧ m ≤ 60) ∧ SameB b H H3 ∧ BoxAt H3 b (n + 2 * i)) ⟨[], rfl, rfl, (by intro m h; cases h), SameB.refl _ _, B0.mono (by omega)⟩ ?_ ?_⟩
    · rintro i zs H3 hi ⟨ms, rfl, ml, mb, S3, B3⟩
      have fin : ∀ (x : Int) (H5 : Hp), 0 ≤ x → x < 60 → SameB b H3 H5 → BoxAt H5 b (n + 2 * i + 1 + 1) → (ms.map V.int).length < sizeLine ∧ ∃ ms' : List Int, ms.map V.int ++ [V.int (1 + x)] = ms'.map V.int ∧ ms'.length = i + 1 ∧ (∀ m ∈ ms', 1 ≤ m ∧ m ≤ 60) ∧ SameB b H H5 ∧ BoxAt H5 b (n + 2 * ((i + 1 : Nat) : Int)) := by
        intro x H5 x0 x1 S5 B5
        refine ⟨by rw [List.length_map]; omega, ms ++ [1 + x], by rw [List.map_append]; rfl, by rw [List.length_append, ml]; rfl, fun m hm => ?_, S3.trans S5, B5.mono (by omega)⟩
        rcases List.mem_append.mp hm with q | q
        · exact mb m q
        · rw [List.mem_singleton.mp q]; omega
      refine ⟨rfl, ⟨_, rfl, _, rfl, b, 8, _, rfl, B3, by omega, by decide, by decide, fun r H4 r0 r1 B4 S4 => ⟨rfl, _, rfl, ite2 (fun c => ⟨_, rfl, ?_⟩) (fun c => ?_)⟩⟩⟩
      · exact ⟨b, 60, _, rfl, B4, by omega, by decide, by decide, fun x H5 x0 x1 B5 S5 => ⟨_, _, rfl, rfl, fin x H5 x0 (by omega) (S4.trans S5) B5⟩⟩
      · exact ⟨b, 30, _, rfl, B4, by omega, by decide, by decide, fun x H5 x0 x1 B5 S5 => ⟨_, _, rfl, rfl, fin x H5 x0 (by omega) (S4.trans S5) B5⟩⟩
    rintro zs H3 ⟨ms, rfl, ml, mb, S3, B3⟩
    obtain ⟨m0, m1, rfl⟩ : ∃ m0 m1, ms = [m0, m1] := by
      match ms, ml with
      | [a, c], _ => exact ⟨a, c, rfl⟩
    have b0 := mb m0 (by simp)
    have b1 := mb m1 (by simp)
    refine ⟨by show 2 ≤ sizeLine; omega, fun D hD => ?_⟩
    have nD := B3.nne hD
    have S4 := S3.new (o := .lst ([m0, m1].map V.int)) hD
    have B4 := B3.new (o := .lst ([m0, m1].map V.int)) hD
    have D4 : upd H3 D (.lst ([m0, m1].map V.int)) D = some (.lst [.int m0, .int m1]) := upd_same
    generalize upd H3 D (.lst ([m0, m1].map V.int)) = H4 at S4 B4 D4
    clear S3 B3 hD
    -- gap
    refine ⟨_, rfl, b, 30, _, rfl, B4, by omega, by decide, by decide, fun g2 H5 a0 a1 B5 S5 => ⟨le4, fun l1 h1 => ⟨_, rfl, b, 4, _, rfl, B5.new h1, by omega, by decide, by decide, fun r H6 c0 c1 B6 S6 => ?_⟩⟩⟩
    have L6 := S6 l1 _ upd_same (B5.nne h1)
    obtain ⟨g, eg, g0, g1⟩ := pickG c0 c1 a0 (by omega) (g2 := g2)
    refine ⟨l1, _, _, _, rfl, rfl, SqL.of L6, eg, ?_⟩
    have S6' := ((S4.trans S5).new h1).trans S6
    have D6 := S6 D _ ((same_upd h1) _ _ (S5 D _ D4 nD)) nD
    clear S4 S5 S6 B4 B5 D4 L6 h1
    -- begin
    refine ⟨_, rfl, b, 1001, _, rfl, B6, by omega, by decide, by decide, fun be H7 e0 e1 B7 S7 => ⟨_, _, rfl, rfl, ?_⟩⟩
    have D7 := S7 D _ D6 nD
    have S7' := S6'.trans S7
    refine ⟨_, rfl, _, rfl, D, _, _, _, rfl, rfl, SqL.of D7, rfl, _, rfl, b, m0, be - 300, _, rfl, B7, by omega, by omega, by omega, by omega, by omega, fun l ls H8 S8 B8 nl hln hl ll bl => ?_⟩
    have D8 := S8 D _ D7 nD
    refine ⟨_, rfl, _, rfl, D, _, _, _, rfl, rfl, SqL.of D8, rfl, _, rfl, _, rfl, _, _, rfl, rfl, _, _, rfl, rfl, _, rfl, b, 8, _, rfl, B8, by omega, by decide, by decide, fun r8 H9 f0 f1 B9 S9 => ⟨_, _, rfl, rfl, ?_⟩⟩
    refine ⟨b, m1, _, _, rfl, B9, by omega, by omega, by omega, by omega, by omega, fun rr rs H10 S10 B10 nr hrn hrr lr br => ?_⟩
    have S10' := ((S7'.trans S8).trans S9).trans S10
    have hl10 := S10 l _ (S9 l _ hl nl) nl
    refine ⟨_, rfl, _, rfl, _, rfl, le3, fun p hp => ?_⟩
    have np : ∀ {ns : List Int} {m : Int}, (ns.length : Int) = m → 1 ≤ m → ns ≠ [] := fun h1 h2 z => by rw [z] at h1; simp at h1; omega
    exact k p l rr ls rs g _ (S10'.new hp) ((B10.new hp).mono (by omega)) upd_same ⟨(same_upd hp) _ _ hl10, np ll b0.1, by omega, bl⟩ ⟨(same_upd hp) _ _ hrr, np lr b1.1, by omega, br⟩ nl nr g0 g1
end
end L2

set_option Elab.async false
set_option linter.all false
set_option maxRecDepth 100000
set_option maxHeartbeats 4000000
namespace L2
open PySem PySem.Spec PyProof.Rows
/-! moves that can be made -/
theorem tk_snoc {α : Type} {xs : List α} {i : Nat} {x : α} (h : xs[i]? = some x) : xs.take (i + 1) = xs.take i ++ [x] := by
  rw [List.take_succ, h]; rfl
def nearN (ls rs : List Int) (g : Int) (i j : Nat) : Bool := decide (ls.getD i 0 + g > rs.getD j 0)
def okN (ls rs : List Int) (g : Int) (i j : Nat) : Bool := decide (i < ls.length) && (decide (j < rs.length) && !nearN ls rs g i j)
def mvs : List (Str × Nat × Nat) := [("both", 1, 1), ("left", 1, 0), ("right", 0, 1)]
def toN (i j : Nat) (m : Str × Nat × Nat) : Str × Nat × Nat := (m.1, i + m.2.1, j + m.2.2)
def selN (ls rs : List Int) (g : Int) (i j k : Nat) : List (Str × Nat × Nat) := ((mvs.take k).map (toN i j)).filter fun m => okN ls rs g m.2.1 m.2.2
def movesN (ls rs : List Int) (g : Int) (i j : Nat) : List (Str × Nat × Nat) := selN ls rs g i j 3
def mvD (m : Str × Nat × Nat) : Dat := .tup [.str m.1, .tup [.int (m.2.1 : Int), .int (m.2.2 : Int)]]
theorem mvs_imm : ∀ l : List (Str × Nat × Nat), Dat.imms (l.map mvD) = true
  | [] => rfl
  | _ :: l => by
    show (true && Dat.imms (l.map mvD)) = true
    rw [mvs_imm l]; rfl
theorem sel_snoc {ls rs : List Int} {g : Int} {i j k : Nat} {m : Str × Nat × Nat} (h : mvs[k]? = some m) : selN ls rs g i j (k + 1) = selN ls rs g i j k ++ (if okN ls rs g (i + m.2.1) (j + m.2.2) = true then [toN i j m] else []) := by
  unfold selN
  rw [tk_snoc h, List.map_append, List.filter_append]
  congr 1
  show List.filter _ [toN i j m] = _
  rw [List.filter_cons]
  rfl
section
variable {P : Program} {w : World} {K : PySem.W.Frag} {mg : Str → Option Value} {base : Heap}
structure Mvs (K : PySem.W.Frag) (mv : Addr) : Prop where
  all : ∃ xs : List V, (∀ H, SqT K H mv xs) ∧ xs.length = 3 ∧ ∀ (k : Nat) (x : V), xs[k]? = some x → ∃ (m : Str × Nat × Nat) (c : Addr), mvs[k]? = some m ∧ x = .ref c ∧ ∀ H, SqT K H c [.str m.1, .int (m.2.1 : Int), .int (m.2.2 : Int)]
theorem at_ints {ls : List Int} {i : Nat} (h : i < ls.length) : atI (ls.map V.int) (i : Int) = some (.int (ls.getD i 0)) := by
  refine atI_nat ?_
  rw [List.getElem?_map]
  simp [h]
def spMoves (K : PySem.W.Frag) : Sp := fun vs H Q _ => ∃ (l r p : Addr) (ls rs : List Int) (g : Int) (i j : Nat), vs = [.ref l, .ref r, .int g, .ref p] ∧ SqL K H l (ls.map V.int) ∧ SqL K H r (rs.map V.int) ∧ SqT K H p [.int (i : Int), .int (j : Int)] ∧
  ∀ (q : Addr) (us : List V) H', Same H H' → H' q = some (.lst us) → Reps K H' ((movesN ls rs g i j).map mvD) us → Q (.ref q) H'
theorem scMoves : FnScope ["left", "right", "gap", "at", "last", "end", "found", "word", "one", "other", "goal"] ["left", "right", "gap", "at"] (defScope (topL 4)) := ⟨rfl, rfl, rfl, by decide +kernel, rfl, by decide +kernel, by decide +kernel⟩
theorem ok_moves {f mv : Addr} {fd : FuncData} (F : Fun K "moves_at" "moves_at" (topL 4) f fd) (B : Blt mg) (g_MOVES : mg "MOVES" = some (.ref mv)) (M : Mvs K mv) (Dends_of : Dfn P w K mg base "ends_of" 1 ["left", "right"] (spEnds K)) (Dis_too_near : Dfn P w K mg base "is_too_near" 1 ["left", "right", "gap", "at"] (spNear K)) : FnOk P w K mg base CX0 2 f fd ["left", "right", "gap", "at"] (spMoves K) := by
  have nd := scMoves.nd
  refine F.ok scMoves (fun vs H Q E h => ?_) (fun cdv A outer s H vs Q E hr h => ?_)
  · obtain ⟨l, r, p, ls, rs, g, i, j, rfl, _⟩ := h
    rfl
  · obtain ⟨l, r, p, ls, rs, g, i, j, rfl, hl, hr', hp, k⟩ := h
    have hbig : 100000 < sizeLine := by rw [sizeLine_eq]; decide
    obtain ⟨xs, hxs, xl, xa⟩ := M.all
    refine ⟨_, (pss_cons (ps_asg (pe_callD Dends_of (hr.mono (by first | decide | exact Nat.le_refl _ | omega)) rfl (pa_cons (pv 0) (pa_cons (pv 1) pa_nil))) (pg_tup rfl (pgs_cons (pg_name (i := 4) nd rfl (Or.inl rfl)) (pgs_cons (pg_name (i := 5) nd rfl (Or.inl rfl)) pgs_nil))))
      (pss_cons (ps_set (i := 6) nd rfl (Or.inl rfl) (pe_lst pa_nil))
      (pss_cons (ps_for PassesOwn.never rfl (pi_tup (pe_glob (v := .ref mv) rfl g_MOVES rfl)) (pg_tup rfl (pgs_cons (pg_name (i := 7) nd rfl (Or.inl rfl)) (pgs_cons (pg_name (i := 8) nd rfl (Or.inl rfl)) (pgs_cons (pg_name (i := 9) nd rfl (Or.inl rfl)) pgs_nil))))
      (pss_cons (ps_set (i := 10) nd rfl (Or.inl rfl) (pe_tup (pa_cons (pe_op op_add (pe_ix ix_tup (pv 3) pe_int (fun _ _ => rfl)) (pv 8)) (pa_cons (pe_op op_add (pe_ix ix_tup (pv 3) pe_int (fun _ _ => rfl)) (pv 9)) pa_nil))))
        (pss_one (ps_if (PW.pt (pw_and (pt_cmpR op_le (pe_ix ix_tup (pv 10) pe_int (fun _ _ => rfl)) (pv 4) (nomark _)) (pw_and (pt_cmpR op_le (pe_ix ix_tup (pv 10) pe_int (fun _ _ => rfl)) (pv 5) (nomark _)) (pw_and1 (pt_not (pt_val (pe_callD Dis_too_near (hr.mono (by first | decide | exact Nat.le_refl _ | omega)) rfl (pa_cons (pv 0) (pa_cons (pv 1) (pa_cons (pv 2) (pa_cons (pv 10) pa_nil)))))))))))
        (pss_one (ps_expr (pe_bm PySem.F.plainAttrs_list PySem.F.slot_list_append PySem.F.type_list_append mt_append (pv 6) (pa_cons (pe_tup (pa_cons (pv 7) (pa_cons (pv 10) pa_nil))) pa_nil))))
        pss_nil))))
      (pss_one (ps_ret (pv 6)))))), ?_⟩
    refine ⟨_, rfl, _, rfl, l, r, ls, rs, rfl, hl, hr', fun pe H1 hpe S1 => ⟨pe, _, rfl, SqT.of hpe, rfl, _, _, rfl, _, _, rfl, rfl, ?_⟩⟩
    refine ⟨le0, fun q hq => ?_⟩
    have hqH : H q = none := by
      cases e : H q with
      | none => rfl
      | some o => rw [S1 _ _ e] at hq; cases hq
    refine ⟨mv, rfl, ⟨_, hxs _⟩, for_tup (K := K) (a := mv) (xs := xs) (fun k' σ H' => ∃ v7 v8 v9 v10 us, σ = [some (.ref l), some (.ref r), some (.int g), some (.ref p), some (.int ((ls.length : Int) - 1)), some (.int ((rs.length : Int) - 1)), some (.ref q), v7, v8, v9, v10] ∧ Same H H' ∧ H' q = some (.lst us) ∧ Reps K H' ((selN ls rs g i j k').map mvD) us)
      ⟨_, _, _, _, [], rfl, S1.trans (same_upd hq), upd_same, rfl⟩ (fun _ _ H' _ _ => hxs H') ?_ ?_⟩
    · rintro k' x σ H2 hx ⟨v7, v8, v9, v10, us, rfl, S2, L2, R2⟩
      obtain ⟨m, c, em, rfl, hc⟩ := xa k' x hx
      have hk' : k' < 3 := by have := (List.getElem?_eq_some_iff.mp hx).1; omega
      refine ⟨c, _, rfl, hc _, rfl, _, _, rfl, _, _, rfl, _, _, rfl, rfl, ?_⟩
      refine ⟨_, rfl, p, _, _, _, rfl, rfl, S2.sqT hp, rfl, _, rfl, _, _, rfl, rfl, _, rfl, p, _, _, _, rfl, rfl, S2.sqT hp, rfl, _, rfl, _, _, rfl, rfl, le2, fun t ht => ?_⟩
      have S3 := S2.trans (same_upd (o := .tup [.int ((i : Int) + (m.2.1 : Int)), .int ((j : Int) + (m.2.2 : Int))]) ht)
      have L3 := (same_upd (o := .tup [.int ((i : Int) + (m.2.1 : Int)), .int ((j : Int) + (m.2.2 : Int))]) ht) _ _ L2
      have R3 := R2.same (same_upd (o := .tup [.int ((i : Int) + (m.2.1 : Int)), .int ((j : Int) + (m.2.2 : Int))]) ht)
      have T3 : upd H2 t (.tup [.int ((i : Int) + (m.2.1 : Int)), .int ((j : Int) + (m.2.2 : Int))]) t = some (.tup [.int ((i : Int) + (m.2.1 : Int)), .int ((j : Int) + (m.2.2 : Int))]) := upd_same
      generalize upd H2 t (.tup [.int ((i : Int) + (m.2.1 : Int)), .int ((j : Int) + (m.2.2 : Int))]) = H3 at S3 L3 R3 T3
      have skip : ∀ {v7 v8 v9 v10 : Option V}, okN ls rs g (i + m.2.1) (j + m.2.2) = false → ∃ w7 w8 w9 w10 us, [some (V.ref l), some (.ref r), some (.int g), some (.ref p), some (.int ((ls.length : Int) - 1)), some (.int ((rs.length : Int) - 1)), some (.ref q), v7, v8, v9, v10] = [some (.ref l), some (.ref r), some (.int g), some (.ref p), some (.int ((ls.length : Int) - 1)), some (.int ((rs.length : Int) - 1)), some (.ref q), w7, w8, w9, w10] ∧ Same H H3 ∧ H3 q = some (.lst us) ∧ Reps K H3 ((selN ls rs g i j (k' + 1)).map mvD) us := fun e => by
        refine ⟨_, _, _, _, us, rfl, S3, L3, ?_⟩
        rw [sel_snoc em, if_neg (by rw [e]; exact Bool.false_ne_true), List.append_nil]
        exact R3
      refine ⟨_, rfl, t, _, _, _, rfl, rfl, SqT.of T3, rfl, _, rfl, _, _, rfl, rfl, _, rfl, ite2 (fun c1 => ?_) (fun c1 => ifF rfl (skip ?_))⟩
      · have c1' : (i : Int) + (m.2.1 : Int) ≤ (ls.length : Int) - 1 := of_decide_eq_true c1
        refine ⟨_, rfl, t, _, _, _, rfl, rfl, SqT.of T3, rfl, _, rfl, _, _, rfl, rfl, _, rfl, ite2 (fun c2 => ?_) (fun c2 => ifF rfl (skip ?_))⟩
        · have c2' : (j : Int) + (m.2.2 : Int) ≤ (rs.length : Int) - 1 := of_decide_eq_true c2
          have li : i + m.2.1 < ls.length := by omega
          have lj : j + m.2.2 < rs.length := by omega
          refine ⟨_, rfl, _, rfl, _, rfl, _, rfl, l, r, t, ls, rs, g, _, _, _, _, rfl, S3.seq hl, S3.seq hr', SqT.of T3, at_ints (i := i + m.2.1) li, at_ints (i := j + m.2.2) lj, _, rfl, ?_⟩
          have eo : okN ls rs g (i + m.2.1) (j + m.2.2) = !nearN ls rs g (i + m.2.1) (j + m.2.2) := by
            unfold okN
            rw [decide_eq_true li, decide_eq_true lj]; rfl
          refine ite2 (fun c3 => ?_) (fun c3 => skip ?_)
          · have eok : okN ls rs g (i + m.2.1) (j + m.2.2) = true := by rw [eo]; exact c3
            have ul := R3.len
            have sl : (selN ls rs g i j k').length ≤ 3 := by
              unfold selN
              refine Nat.le_trans (List.length_filter_le _ _) ?_
              rw [List.length_map, List.length_take]
              omega
            rw [List.length_map] at ul
            refine ⟨_, rfl, .inl ⟨rfl, _, SqL.of L3⟩, _, rfl, _, rfl, le2, fun u hu => ⟨q, us, _, rfl, rfl, (same_upd hu) _ _ L3, by omega, ?_⟩⟩
            have L4 := (same_upd (o := .tup [.str m.1, .ref t]) hu) _ _ L3
            have S4 := S3.trans (same_upd (o := .tup [.str m.1, .ref t]) hu)
            have R4 := R3.same (same_upd (o := .tup [.str m.1, .ref t]) hu)
            have U4 : upd H3 u (.tup [.str m.1, .ref t]) u = some (.tup [.str m.1, .ref t]) := upd_same
            have T4 := (same_upd (o := .tup [.str m.1, .ref t]) hu) _ _ T3
            generalize upd H3 u (.tup [.str m.1, .ref t]) = H4 at L4 S4 R4 U4 T4
            refine ⟨_, _, _, _, us ++ [.ref u], rfl, fun c0 u0 e0 => ?_, upd_same, ?_⟩
            · rw [upd_ne (ne_of_none e0 hqH)]
              exact S4 c0 u0 e0
            · rw [sel_snoc em, if_pos eok, List.map_append]
              have ku := SameT.put (ys := us ++ [.ref u]) L4
              refine Reps.snoc ?_ (R4.keep ku (mvs_imm _))
              refine Rep.keep ku (d := mvD (toN i j m)) rfl ?_
              exact ⟨u, _, rfl, SqT.of U4, _, _, rfl, rfl, _, _, rfl, ⟨t, _, rfl, SqT.of T4, _, _, rfl, rfl, _, _, rfl, rfl, rfl⟩, rfl⟩
          · rw [eo]; exact (Bool.not_eq_true _).mp c3
        · have c2' : ¬ (j : Int) + (m.2.2 : Int) ≤ (rs.length : Int) - 1 := fun z => c2 (decide_eq_true z)
          unfold okN
          rw [decide_eq_false (by omega : ¬ j + m.2.2 < rs.length), Bool.false_and, Bool.and_false]
      · have c1' : ¬ (i : Int) + (m.2.1 : Int) ≤ (ls.length : Int) - 1 := fun z => c1 (decide_eq_true z)
        unfold okN
        rw [decide_eq_false (by omega : ¬ i + m.2.1 < ls.length), Bool.false_and]
    · rintro σ H2 ⟨v7, v8, v9, v10, us, rfl, S2, L2, R2⟩
      rw [xl] at R2
      exact ⟨_, rfl, k q us H2 S2 L2 R2⟩
end
end L2

set_option Elab.async false
set_option linter.all false
set_option maxRecDepth 100000
set_option maxHeartbeats 4000000
namespace L2
open PySem PySem.Spec PyProof.Rows
def eqS (t : Str) (d : Dat) : Bool := match d with | .str z => t == z | _ => false
def goalN (d : Dat) (ms : List (Str × Nat × Nat)) : Option (Nat × Nat) := (ms.find? fun m => eqS m.1 d).map (·.2)
def walkN (ls rs : List Int) (g : Int) : Nat × Nat → List Dat → Option (Nat × Nat)
  | p, [] => some p
  | p, d :: ds => (goalN d (movesN ls rs g p.1 p.2)).bind fun p' => walkN ls rs g p' ds
theorem walk_app (ls rs : List Int) (g : Int) : ∀ (ds es : List Dat) (p : Nat × Nat), walkN ls rs g p (ds ++ es) = (walkN ls rs g p ds).bind fun p' => walkN ls rs g p' es
  | [], _, _ => rfl
  | d :: ds, es, p => by
    show (goalN d (movesN ls rs g p.1 p.2)).bind _ = ((goalN d (movesN ls rs g p.1 p.2)).bind _).bind _
    cases goalN d (movesN ls rs g p.1 p.2) with
    | none => rfl
    | some p' => exact walk_app ls rs g ds es p'
theorem walk_snoc {ls rs : List Int} {g : Int} {ds : List Dat} {k : Nat} {d : Dat} {p q : Nat × Nat} (h : ds[k]? = some d) (e : walkN ls rs g p (ds.take k) = some q) : walkN ls rs g p (ds.take (k + 1)) = goalN d (movesN ls rs g q.1 q.2) := by
  rw [tk_snoc h, walk_app, e]
  show (goalN d (movesN ls rs g q.1 q.2)).bind (fun p' => some p') = _
  cases goalN d (movesN ls rs g q.1 q.2) <;> rfl
theorem walk_dead {ls rs : List Int} {g : Int} {ds : List Dat} {k : Nat} {p : Nat × Nat} (e : walkN ls rs g p (ds.take k) = none) : walkN ls rs g p ds = none := by
  rw [← List.take_append_drop k ds, walk_app, e]; rfl
def endN (ls rs : List Int) : Nat × Nat := (ls.length - 1, rs.length - 1)
def showsN (ls rs : List Int) (g : Int) (d : Dat) : Bool := match d with
  | .lst ds => !nearN ls rs g 0 0 && decide (walkN ls rs g (0, 0) ds = some (endN ls rs))
  | _ => false
section
variable {P : Program} {w : World} {K : PySem.W.Frag} {mg : Str → Option Value} {base : Heap}
theorem mv_open {H : Hp} {m : Str × Nat × Nat} {x : V} (h : Rep K H (mvD m) x) : ∃ c t, x = .ref c ∧ SqT K H c [.str m.1, .ref t] ∧ SqT K H t [.int (m.2.1 : Int), .int (m.2.2 : Int)] := by
  obtain ⟨c, zs, rfl, hc, y0, r0, e0, h0, y1, r1, e1, h1, e2⟩ := h
  cases (show y0 = _ from h0)
  obtain ⟨t, ws, rfl, ht, z0, s0, f0, g0, z1, s1, f1, g1, f2⟩ := h1
  cases (show z0 = _ from g0)
  cases (show z1 = _ from g1)
  cases (show r1 = _ from e2)
  cases (show s1 = _ from f2)
  subst f1 f0 e1 e0
  exact ⟨c, t, rfl, hc, ht⟩
def spGoal (K : PySem.W.Frag) : Sp := fun vs H Q _ => ∃ (v : V) (q : Addr) (d : Dat) (us : List V) (ms : List (Str × Nat × Nat)), vs = [v, .ref q] ∧ Rep K H d v ∧ SqL K H q us ∧ Reps K H (ms.map mvD) us ∧
  (goalN d ms = none → Q .non H) ∧ ∀ t (p : Nat × Nat), goalN d ms = some p → SqT K H t [.int (p.1 : Int), .int (p.2 : Int)] → Q (.ref t) H
theorem scGoal : FnScope ["move", "pairs", "word", "goal"] ["move", "pairs"] (defScope (topL 5)) := ⟨rfl, rfl, rfl, by decide +kernel, rfl, by decide +kernel, by decide +kernel⟩
theorem ok_goal {f : Addr} {fd : FuncData} (F : Fun K "goal_of" "goal_of" (topL 5) f fd) (B : Blt mg) : FnOk P w K mg base CX0 1 f fd ["move", "pairs"] (spGoal K) := by
  have nd := scGoal.nd
  refine F.ok scGoal (fun vs H Q E h => ?_) (fun cdv A outer s H vs Q E hr h => ?_)
  · obtain ⟨v, q, d, us, ms, rfl, _⟩ := h
    rfl
  · obtain ⟨v, q, d, us, ms, rfl, rd, hq, rm, k0, k1⟩ := h
    have hu := hr.units0
    have ul := rm.len
    rw [List.length_map] at ul
    refine ⟨_, (pss_cons (ps_for PassesOwn.never rfl (pi_list (pv 1)) (pg_tup rfl (pgs_cons (pg_name (i := 2) nd rfl (Or.inl rfl)) (pgs_cons (pg_name (i := 3) nd rfl (Or.inl rfl)) pgs_nil)))
      (pss_one (ps_if (pt_cmpR (op_eqSD hu) (pv 2) (pv 0) (nomark _))
        (pss_one (ps_ret (pv 3)))
        pss_nil)))
      (pss_one (ps_ret pe_non))), ?_⟩
    refine ⟨_, rfl, q, rfl, ⟨_, hq⟩, for_list (K := K) (a := q) (xs := us) (fun i σ H' => ∃ v2 v3, σ = [some v, some (.ref q), v2, v3] ∧ H' = H ∧ (ms.take i).find? (fun m => eqS m.1 d) = none) ⟨_, _, rfl, rfl, rfl⟩ (fun i σ H' _ ⟨_, _, _, e, _⟩ => by rw [e]; exact hq) ?_ ?_⟩
    · rintro i x σ H' hx ⟨v2, v3, rfl, rfl, fn⟩
      obtain ⟨d', e1, r1⟩ := rm.get hx
      rw [List.getElem?_map] at e1
      obtain ⟨m, em, rfl⟩ := Option.map_eq_some_iff.mp e1
      obtain ⟨c, t, rfl, hc, ht⟩ := mv_open r1
      refine ⟨c, _, rfl, hc, rfl, _, _, rfl, _, _, rfl, rfl, ?_⟩
      refine ⟨_, rfl, _, rfl, m.1, d, rfl, rd, _, rfl, ite2 (fun e => ⟨_, rfl, k1 t m.2 ?_ ht⟩) (fun e => ⟨_, _, rfl, rfl, ?_⟩)⟩
      · unfold goalN
        have : ms = ms.take i ++ (m :: ms.drop (i + 1)) := by
          obtain ⟨h1, h2⟩ := List.getElem?_eq_some_iff.mp em
          rw [← h2, ← List.drop_eq_getElem_cons h1, List.take_append_drop]
        have e' : eqS m.1 d = true := e
        rw [this, List.find?_append, fn, List.find?_cons]
        simp only [e', Option.none_or, Option.map_some]
      · have e' : eqS m.1 d = false := (Bool.not_eq_true _).mp e
        rw [tk_snoc em, List.find?_append, fn, List.find?_cons]
        simp only [e', Option.none_or, List.find?_nil]
    · rintro σ H' ⟨v2, v3, rfl, rfl, fn⟩
      rw [ul, List.take_length] at fn
      exact k0 (by unfold goalN; rw [fn]; rfl)
def spShows (K : PySem.W.Frag) : Sp := fun vs H Q _ => ∃ (l r : Addr) (ls rs : List Int) (g : Int) (v : V) (d : Dat), vs = [.ref l, .ref r, .int g, v] ∧ SqL K H l (ls.map V.int) ∧ SqL K H r (rs.map V.int) ∧ ls ≠ [] ∧ rs ≠ [] ∧ Rep K H d v ∧ ∀ H', Same H H' → Q (.bl (showsN ls rs g d)) H'
theorem scShows : FnScope ["left", "right", "gap", "thing", "at", "move"] ["left", "right", "gap", "thing"] (defScope (topL 6)) := ⟨rfl, rfl, rfl, by decide +kernel, rfl, by decide +kernel, by decide +kernel⟩
theorem ok_shows {f : Addr} {fd : FuncData} (F : Fun K "shows_together" "shows_together" (topL 6) f fd) (B : Blt mg) (Dends_of : Dfn P w K mg base "ends_of" 1 ["left", "right"] (spEnds K)) (Dis_too_near : Dfn P w K mg base "is_too_near" 1 ["left", "right", "gap", "at"] (spNear K)) (Dgoal_of : Dfn P w K mg base "goal_of" 1 ["move", "pairs"] (spGoal K)) (Dmoves_at : Dfn P w K mg base "moves_at" 2 ["left", "right", "gap", "at"] (spMoves K)) : FnOk P w K mg base CX0 3 f fd ["left", "right", "gap", "thing"] (spShows K) := by
  have nd := scShows.nd
  refine F.ok scShows (fun vs H Q E h => ?_) (fun cdv A outer s H vs Q E hr h => ?_)
  · obtain ⟨l, r, ls, rs, g, v, d, rfl, _⟩ := h
    rfl
  · obtain ⟨l, r, ls, rs, g, v, d, rfl, hl, hr', nl, nr, rd, k⟩ := h
    have hu := hr.units0
    have ll : 0 < ls.length := List.length_pos_iff.mpr nl
    have lr : 0 < rs.length := List.length_pos_iff.mpr nr
    refine ⟨_, (pss_cons (ps_if (PW.pt (pw_or (pt_not (pt_val (pe_callB call_isi rfl B.isinstance boot_isinstance (pa_cons (pv 3) (pa_cons (pe_bltn (v := .ty "list") rfl B.list boot_list rfl) pa_nil))))) (pw_or1 (pt_val (pe_callD Dis_too_near (hr.mono (by first | decide | exact Nat.le_refl _ | omega)) rfl (pa_cons (pv 0) (pa_cons (pv 1) (pa_cons (pv 2) (pa_cons (pe_tup (pa_cons pe_int (pa_cons pe_int pa_nil))) pa_nil)))))))))
      (pss_one (ps_ret pe_bl))
      pss_nil)
      (pss_cons (ps_set (i := 4) nd rfl (Or.inl rfl) (pe_tup (pa_cons pe_int (pa_cons pe_int pa_nil))))
      (pss_cons (ps_for PassesOwn.never rfl (pi_list (pv 3)) (pg_name (i := 5) nd rfl (Or.inl rfl))
      (pss_cons (ps_set (i := 4) nd rfl (Or.inl rfl) (pe_callD Dgoal_of (hr.mono (by first | decide | exact Nat.le_refl _ | omega)) rfl (pa_cons (pv 5) (pa_cons (pe_callD Dmoves_at (hr.mono (by first | decide | exact Nat.le_refl _ | omega)) rfl (pa_cons (pv 0) (pa_cons (pv 1) (pa_cons (pv 2) (pa_cons (pv 4) pa_nil))))) pa_nil))))
        (pss_one (ps_if (pt_cmpR op_isN (pv 4) pe_non (nomark _))
        (pss_one (ps_ret pe_bl))
        pss_nil))))
      (pss_one (ps_ret (pe_cmpR (op_eqT hu) (pv 4) (pe_callD Dends_of (hr.mono (by first | decide | exact Nat.le_refl _ | omega)) rfl (pa_cons (pv 0) (pa_cons (pv 1) pa_nil))) (nomark _))))))), ?_⟩
    cases d with
    | non =>
      cases (show v = _ from rd)
      exact ⟨_, rfl, _, "NoneType", "list", rfl, rfl, (by decide), _, rfl, ifT (by decide) (ifT rfl (k _ (Same.refl _)))⟩
    | bl c =>
      cases (show v = _ from rd)
      exact ⟨_, rfl, _, "bool", "list", rfl, rfl, (by decide), _, rfl, ifT (by decide) (ifT rfl (k _ (Same.refl _)))⟩
    | int i =>
      cases (show v = _ from rd)
      exact ⟨_, rfl, _, "int", "list", rfl, rfl, (by decide), _, rfl, ifT (by decide) (ifT rfl (k _ (Same.refl _)))⟩
    | str x =>
      cases (show v = _ from rd)
      exact ⟨_, rfl, _, "str", "list", rfl, rfl, (by decide), _, rfl, ifT (by decide) (ifT rfl (k _ (Same.refl _)))⟩
    | tup ds =>
      obtain ⟨a, xs, rfl, hq, _⟩ := rd
      exact ⟨_, rfl, _, "tuple", "list", rfl, .inr ⟨rfl, xs, hq⟩, (by decide), _, rfl, ifT (by decide) (ifT rfl (k _ (Same.refl _)))⟩
    | lst ds =>
      obtain ⟨a, xs, rfl, hq, rx⟩ := rd
      have lds := rx.len
      refine ⟨_, rfl, _, "list", "list", rfl, .inl ⟨rfl, xs, hq⟩, (by decide), _, rfl, ifF (by decide) ?_⟩
      refine ⟨_, rfl, _, rfl, _, rfl, le2, fun p hp => ?_⟩
      have s1 := same_upd (o := .tup [.int 0, .int 0]) hp
      refine ⟨l, r, p, ls, rs, g, 0, 0, _, _, rfl, s1.seq hl, s1.seq hr', SqT.of upd_same, at_ints (i := 0) ll, at_ints (i := 0) lr, _, rfl, ite2 (fun c => ?_) (fun c => ?_)⟩
      · have e : showsN ls rs g (.lst ds) = false := by
          show (!nearN ls rs g 0 0 && _) = false
          rw [show nearN ls rs g 0 0 = true from c]; rfl
        have := k _ s1
        rw [e] at this
        exact this
      have nn : nearN ls rs g 0 0 = false := (Bool.not_eq_true _).mp c
      refine ⟨le2, fun t0 ht0 => ?_⟩
      have s2 := s1.trans (same_upd (o := .tup [.int 0, .int 0]) ht0)
      refine ⟨_, rfl, a, rfl, ⟨_, s2.seq hq⟩, for_list (K := K) (a := a) (xs := xs) (fun i σ H' => ∃ (t : Addr) (q : Nat × Nat) (v5 : Option V), σ = [some (.ref l), some (.ref r), some (.int g), some (.ref a), some (.ref t), v5] ∧ Same H H' ∧ SqT K H' t [.int (q.1 : Int), .int (q.2 : Int)] ∧ walkN ls rs g (0, 0) (ds.take i) = some q)
        ⟨t0, (0, 0), _, rfl, s2, SqT.of upd_same, rfl⟩ (fun i σ H' _ ⟨_, _, _, _, sm, _⟩ => sm.seq hq) ?_ ?_⟩
      · rintro i x σ H1 hx ⟨t, q, v5, rfl, sm, ht, wk⟩
        obtain ⟨d, ed, rd⟩ := rx.get hx
        refine ⟨_, rfl, _, rfl, _, rfl, _, rfl, _, rfl, l, r, t, ls, rs, g, q.1, q.2, rfl, sm.seq hl, sm.seq hr', ht, fun m us H2 S2 L2 R2 => ?_⟩
        have sm2 := sm.trans S2
        have ws := walk_snoc ed wk
        refine ⟨x, m, d, us, movesN ls rs g q.1 q.2, rfl, rd.same sm2, SqL.of L2, R2, fun e => ?_, fun t' p' e ht' => ?_⟩
        · refine ⟨_, rfl, rfl, _, rfl, ifT (by decide) ?_⟩
          have e' : showsN ls rs g (.lst ds) = false := by
            show (!nearN ls rs g 0 0 && _) = false
            rw [walk_dead (k := i + 1) (by rw [ws]; exact e)]
            simp
          have := k _ sm2
          rw [e'] at this
          exact this
        · refine ⟨_, rfl, rfl, _, rfl, ifF (by simp) ⟨t', p', _, rfl, sm2, ht', by rw [ws]; exact e⟩⟩
      · rintro σ H1 ⟨t, q, v5, rfl, sm, ht, wk⟩
        rw [lds, List.take_length] at wk
        refine ⟨_, rfl, _, rfl, _, rfl, l, r, ls, rs, rfl, sm.seq hl, sm.seq hr', fun pe H2 hpe S2 => ⟨t, pe, _, _, rfl, rfl, S2.sqT ht, SqT.of hpe, rfl, rfl, ?_⟩⟩
        have := k H2 (sm.trans S2)
        have e : showsN ls rs g (.lst ds) = eqVs [V.int (q.1 : Int), V.int (q.2 : Int)] [V.int ((ls.length : Int) - 1), V.int ((rs.length : Int) - 1)] := by
          show (!nearN ls rs g 0 0 && decide (walkN ls rs g (0, 0) ds = some (endN ls rs))) = _
          rw [nn, wk]
          show decide (some q = some (ls.length - 1, rs.length - 1)) = (decide ((q.1 : Int) = (ls.length : Int) - 1) && (decide ((q.2 : Int) = (rs.length : Int) - 1) && true))
          rw [Bool.and_true, ← Bool.decide_and]
          refine decide_eq_decide.mpr ⟨fun h => ?_, fun ⟨h1, h2⟩ => ?_⟩
          · cases h
            exact ⟨by show ((ls.length - 1 : Nat) : Int) = _; omega, by show ((rs.length - 1 : Nat) : Int) = _; omega⟩
          · obtain ⟨q1, q2⟩ := q
            simp only at h1 h2
            rw [show q1 = ls.length - 1 by omega, show q2 = rs.length - 1 by omega]
        rw [e] at this
        exact this
end
end L2

set_option Elab.async false
set_option linter.all false
set_option maxRecDepth 100000
set_option maxHeartbeats 4000000
namespace L2
open PySem PySem.Spec PyProof.Rows
theorem eqS_str (t z : Str) : eqS t (.str z) = (t == z) := rfl
theorem goal_sel {ls rs : List Int} {g : Int} {i j : Nat} (d : Dat) : goalN d (movesN ls rs g i j) =
    if (okN ls rs g (i + 1) (j + 1) && eqS "both" d) = true then some (i + 1, j + 1) else if (okN ls rs g (i + 1) (j + 0) && eqS "left" d) = true then some (i + 1, j + 0) else if (okN ls rs g (i + 0) (j + 1) && eqS "right" d) = true then some (i + 0, j + 1) else none := by
  show ((([("both", i + 1, j + 1), ("left", i + 1, j + 0), ("right", i + 0, j + 1)] : List (Str × Nat × Nat)).filter fun m => okN ls rs g m.2.1 m.2.2).find? fun m => eqS m.1 d).map (·.2) = _
  simp only [List.filter_cons, List.filter_nil]
  cases okN ls rs g (i + 1) (j + 1) <;> cases okN ls rs g (i + 1) (j + 0) <;> cases okN ls rs g (i + 0) (j + 1) <;> cases hb : eqS "both" d <;> cases hl : eqS "left" d <;> cases hr : eqS "right" d <;> simp [List.find?_cons, hb, hl, hr]
def isStrD : Dat → Bool
  | .str _ => true
  | _ => false
theorem ty_str (d : Dat) : subT d.tyN "str" = isStrD d := by
  cases d with
  | non => exact (by decide : subT "NoneType" "str" = false)
  | bl _ => exact (by decide : subT "bool" "str" = false)
  | int _ => exact (by decide : subT "int" "str" = false)
  | str _ => exact (by decide : subT "str" "str" = true)
  | lst _ => exact (by decide : subT "list" "str" = false)
  | tup _ => exact (by decide : subT "tuple" "str" = false)
theorem goal_nstr {d : Dat} (h : isStrD d = false) (ms : List (Str × Nat × Nat)) : goalN d ms = none := by
  unfold goalN
  have : ms.find? (fun m => eqS m.1 d) = none := by
    rw [List.find?_eq_none]
    intro m _
    cases d <;> first | (cases h; done) | exact Bool.false_ne_true
  rw [this]; rfl
theorem walk_strs {ls rs : List Int} {g : Int} : ∀ {ds : List Dat} {p q : Nat × Nat}, walkN ls rs g p ds = some q → ds.all isStrD = true
  | [], _, _, _ => rfl
  | d :: ds, p, q, h => by
    have h' : (goalN d (movesN ls rs g p.1 p.2)).bind (fun p' => walkN ls rs g p' ds) = some q := h
    cases e : isStrD d with
    | false => rw [goal_nstr e] at h'; cases h'
    | true =>
      cases eg : goalN d (movesN ls rs g p.1 p.2) with
      | none => rw [eg] at h'; cases h'
      | some p' =>
        rw [eg] at h'
        have := walk_strs (ds := ds) h'
        rw [List.all_cons, e, this]; rfl
theorem shows_dead {ls rs : List Int} {g : Int} {ds : List Dat} (k : Nat) (h : walkN ls rs g (0, 0) (ds.take k) = none) : showsN ls rs g (.lst ds) = false := by
  show (!nearN ls rs g 0 0 && decide (walkN ls rs g (0, 0) ds = some (endN ls rs))) = false
  rw [walk_dead h]
  simp
theorem goal_word {ls rs : List Int} {g : Int} {t : Str} (h : t = "both" ∨ t = "left" ∨ t = "right") : ∃ a b : Nat, (if (!decide (V.str t = V.str "right")) = true then (1 : Int) else 0) = (a : Int) ∧ (if (!decide (V.str t = V.str "left")) = true then (1 : Int) else 0) = (b : Int) ∧ ∀ i j, goalN (.str t) (movesN ls rs g i j) = if okN ls rs g (i + a) (j + b) = true then some (i + a, j + b) else none := by
  rcases h with rfl | rfl | rfl
  · refine ⟨1, 1, by decide, by decide, fun i j => ?_⟩
    rw [goal_sel, eqS_str, eqS_str, eqS_str, show (("both" : Str) == "both") = true by decide, show (("left" : Str) == "both") = false by decide, show (("right" : Str) == "both") = false by decide]
    simp
  · refine ⟨1, 0, by decide, by decide, fun i j => ?_⟩
    rw [goal_sel, eqS_str, eqS_str, eqS_str, show (("both" : Str) == "left") = false by decide, show (("left" : Str) == "left") = true by decide, show (("right" : Str) == "left") = false by decide]
    simp
  · refine ⟨0, 1, by decide, by decide, fun i j => ?_⟩
    rw [goal_sel, eqS_str, eqS_str, eqS_str, show (("both" : Str) == "right") = false by decide, show (("left" : Str) == "right") = false by decide, show (("right" : Str) == "right") = true by decide]
    simp
theorem goal_noword {ls rs : List Int} {g : Int} {t : Str} (h : ¬ (t = "both" ∨ t = "left" ∨ t = "right")) (i j : Nat) : goalN (.str t) (movesN ls rs g i j) = none := by
  have h1 : (("both" : Str) == t) = false := beq_eq_false_iff_ne.mpr fun e => h (.inl e.symm)
  have h2 : (("left" : Str) == t) = false := beq_eq_false_iff_ne.mpr fun e => h (.inr (.inl e.symm))
  have h3 : (("right" : Str) == t) = false := beq_eq_false_iff_ne.mpr fun e => h (.inr (.inr e.symm))
  rw [goal_sel, eqS_str, eqS_str, eqS_str, h1, h2, h3]
  simp
theorem in_words (t : Str) : inV (.str t) [.str "both", .str "left", .str "right"] = true ↔ (t = "both" ∨ t = "left" ∨ t = "right") := by
  unfold inV
  simp only [List.any_cons, List.any_nil, Bool.or_false, Bool.or_eq_true]
  show (eqV (.str "both") (.str t) = true ∨ eqV (.str "left") (.str t) = true ∨ eqV (.str "right") (.str t) = true) ↔ _
  have e : ∀ a : Str, eqV (.str a) (.str t) = true ↔ t = a := fun a => by
    show (a == t) = true ↔ _
    rw [beq_iff_eq]
    exact eq_comm
  rw [e, e, e]
section
variable {P : Program} {w : World} {K : PySem.W.Frag} {mg : Str → Option Value} {base : Heap}
def spAre (K : PySem.W.Frag) : Sp := fun vs H Q _ => ∃ (l r : Addr) (ls rs : List Int) (g : Int) (v : V) (d : Dat), vs = [.ref l, .ref r, .int g, v] ∧ SqL K H l (ls.map V.int) ∧ SqL K H r (rs.map V.int) ∧ ls ≠ [] ∧ rs ≠ [] ∧ Rep K H d v ∧ d.blk ≤ 1000000 ∧ ∀ H', Same H H' → Q (.bl (showsN ls rs g d)) H'
theorem blk_len : ∀ ds : List Dat, ds.length ≤ Dat.blks ds
  | [] => Nat.zero_le _
  | d :: ds => by
    have := blk_len ds
    show ds.length + 1 ≤ d.blk + 1 + Dat.blks ds
    omega
theorem scAre : FnScope ["_law_left", "_law_right_here", "_law_gap", "_law_thing", "_law_i", "_law_j", "_law_word"] ["_law_left", "_law_right_here", "_law_gap", "_law_thing"] (defScope (topL 19)) := ⟨rfl, rfl, rfl, by decide +kernel, rfl, by decide +kernel, by decide +kernel⟩
theorem ok_are {f : Addr} {fd : FuncData} (F : Fun K "_law_are_moves" "_law_are_moves" (topL 19) f fd) (B : Blt mg) : FnOk P w K mg base CX0 1 f fd ["_law_left", "_law_right_here", "_law_gap", "_law_thing"] (spAre K) := by
  have nd := scAre.nd
  refine F.ok scAre (fun vs H Q E h => ?_) (fun cdv A outer s H vs Q E hr h => ?_)
  · obtain ⟨l, r, ls, rs, g, v, d, rfl, _⟩ := h
    rfl
  · obtain ⟨l, r, ls, rs, g, v, d, rfl, hl, hr', nl, nr, rd, hb, k⟩ := h
    have hu := hr.units0
    have hbig : 1000000 < sizeLine := by rw [sizeLine_eq]; decide
    have ll : 0 < ls.length := List.length_pos_iff.mpr nl
    have lr : 0 < rs.length := List.length_pos_iff.mpr nr
    refine ⟨_, (pss_cons (ps_if (PW.pt (pw_or (pt_not (pt_val (pe_callB call_isi rfl B.isinstance boot_isinstance (pa_cons (pv 3) (pa_cons (pe_bltn (v := .ty "list") rfl B.list boot_list rfl) pa_nil))))) (pw_or (pt_not (pt_val (pe_callB (call_allL rfl) rfl B.all boot_all (pa_cons (pe_lc1 [] [] rfl rfl (by kernel_rfl) (pi_list (pv 3)) (fun C0 s0 H0 ex0 => pf_nil) (fun C0 s0 H0 ex0 => (pe_callB (call_isiB (K := K) rfl) rfl B.isinstance boot_isinstance (pa_cons (pv 0) (pa_cons (pe_bltn (v := .ty "str") rfl B.str boot_str rfl) pa_nil))))) pa_nil)))) (pw_or1 (pt_cmpR op_gt (pe_op op_add (pe_ix ix_list (pv 0) pe_int (fun _ _ => rfl)) (pv 2)) (pe_ix ix_list (pv 1) pe_int (fun _ _ => rfl)) (nomark _))))))
      (pss_one (ps_ret pe_bl))
      pss_nil)
      (pss_cons (ps_asg (pe_tup (pa_cons pe_int (pa_cons pe_int pa_nil))) (pg_tup rfl (pgs_cons (pg_name (i := 4) nd rfl (Or.inl rfl)) (pgs_cons (pg_name (i := 5) nd rfl (Or.inl rfl)) pgs_nil))))
      (pss_cons (ps_for PassesOwn.never rfl (pi_list (pv 3)) (pg_name (i := 6) nd rfl (Or.inl rfl))
      (pss_cons (ps_if (pt_cmpR op_notIn_seq (pv 6) (pe_tup (pa_cons pe_str (pa_cons pe_str (pa_cons pe_str pa_nil)))) (by with_unfolding_all rfl))
        (pss_one (ps_ret pe_bl))
        pss_nil)
        (pss_cons (ps_par (i := 4) (j := 5) rfl nd rfl rfl (by decide) rfl rfl (pa_cons (pe_op op_add (pv 4) (pe_callTy call_int1 rfl B.int boot_int (pa_cons (pe_cmpR op_ne (pv 6) pe_str (nomark _)) pa_nil))) (pa_cons (pe_op op_add (pv 5) (pe_callTy call_int1 rfl B.int boot_int (pa_cons (pe_cmpR op_ne (pv 6) pe_str (nomark _)) pa_nil))) pa_nil)) (by rfl))
        (pss_one (ps_if (PW.pt (pw_or (pt_cmpR op_ge (pv 4) (pe_callB call_len_seq rfl B.len boot_len (pa_cons (pv 0) pa_nil)) (nomark _)) (pw_or (pt_cmpR op_ge (pv 5) (pe_callB call_len_seq rfl B.len boot_len (pa_cons (pv 1) pa_nil)) (nomark _)) (pw_or1 (pt_cmpR op_gt (pe_op op_add (pe_ix ix_list (pv 0) (pv 4) (fun _ _ => rfl)) (pv 2)) (pe_ix ix_list (pv 1) (pv 5) (fun _ _ => rfl)) (nomark _))))))
        (pss_one (ps_ret pe_bl))
        pss_nil)))))
      (pss_one (ps_ret (pe_cmpR (op_eqT hu) (pe_tup (pa_cons (pv 4) (pa_cons (pv 5) pa_nil))) (pe_tup (pa_cons (pe_op op_sub (pe_callB call_len_seq rfl B.len boot_len (pa_cons (pv 0) pa_nil)) pe_int) (pa_cons (pe_op op_sub (pe_callB call_len_seq rfl B.len boot_len (pa_cons (pv 1) pa_nil)) pe_int) pa_nil))) (nomark _))))))), ?_⟩
    cases d with
    | non =>
      cases (show v = _ from rd)
      exact ⟨_, rfl, _, "NoneType", "list", rfl, rfl, (by decide), _, rfl, ifT (by decide) (ifT rfl (k _ (Same.refl _)))⟩
    | bl c =>
      cases (show v = _ from rd)
      exact ⟨_, rfl, _, "bool", "list", rfl, rfl, (by decide), _, rfl, ifT (by decide) (ifT rfl (k _ (Same.refl _)))⟩
    | int i =>
      cases (show v = _ from rd)
      exact ⟨_, rfl, _, "int", "list", rfl, rfl, (by decide), _, rfl, ifT (by decide) (ifT rfl (k _ (Same.refl _)))⟩
    | str x =>
      cases (show v = _ from rd)
      exact ⟨_, rfl, _, "str", "list", rfl, rfl, (by decide), _, rfl, ifT (by decide) (ifT rfl (k _ (Same.refl _)))⟩
    | tup ds =>
      obtain ⟨a, xs, rfl, hq, _⟩ := rd
      exact ⟨_, rfl, _, "tuple", "list", rfl, .inr ⟨rfl, xs, hq⟩, (by decide), _, rfl, ifT (by decide) (ifT rfl (k _ (Same.refl _)))⟩
    | lst ds =>
      obtain ⟨a, xs, rfl, hq, rx⟩ := rd
      have lds := rx.len
      have lb : ds.length ≤ 1000000 := Nat.le_trans (blk_len ds) hb
      refine ⟨_, rfl, _, "list", "list", rfl, .inl ⟨rfl, xs, hq⟩, (by decide), _, rfl, ifF (by decide) ?_⟩
      refine ⟨_, rfl, a, rfl, ⟨_, hq⟩, lc_list (K := K) (a := a) (xs := xs) (fun i zs H1 => zs = ((ds.take i).map isStrD).map V.bl ∧ Same H H1) ⟨rfl, Same.refl _⟩ (fun i zs H1 ⟨_, s1⟩ => s1.seq hq) ?_ ?_⟩
      · rintro i x zs H1 hx ⟨rfl, s1⟩
        obtain ⟨d, ed, rd⟩ := (rx.same s1).get hx
        have hi : i < ds.length := (List.getElem?_eq_some_iff.mp ed).1
        refine ⟨rfl, ⟨_, rfl, x, d.tyN, "str", rfl, rd.ty, (by decide), ?_, ?_, s1⟩⟩
        · rw [List.length_map, List.length_map, List.length_take]; omega
        · rw [tk_snoc ed, List.map_append, List.map_append, ty_str d]; rfl
      rintro zs H1 ⟨rfl, s1⟩
      have etk : ds.take xs.length = ds := by rw [lds, List.take_length]
      rw [etk]
      refine ⟨by rw [List.length_map, List.length_map]; omega, fun D1 hD1 => ⟨D1, ds.map isStrD, rfl, SqL.of upd_same, _, rfl, ?_⟩⟩
      have s2 := s1.trans (same_upd (o := .lst ((ds.map isStrD).map V.bl)) hD1)
      generalize upd H1 D1 (.lst ((ds.map isStrD).map V.bl)) = H2 at s2
      have eall : (ds.map isStrD).all id = ds.all isStrD := by rw [List.all_map]; rfl
      rw [eall]
      refine ite2 (fun c1 => ifT rfl ?_) (fun c1 => ?_)
      · have e : ds.all isStrD = false := by simpa using c1
        have e' : showsN ls rs g (.lst ds) = false := by
          show (!nearN ls rs g 0 0 && decide (walkN ls rs g (0, 0) ds = some (endN ls rs))) = false
          rw [decide_eq_false (fun z => by rw [walk_strs z] at e; cases e), Bool.and_false]
        have := k H2 s2
        rw [e'] at this
        exact this
      have als : ds.all isStrD = true := by simpa using c1
      refine ⟨_, rfl, l, _, _, _, rfl, rfl, s2.seq hl, at_ints (i := 0) ll, _, rfl, _, _, rfl, rfl, _, rfl, r, _, _, _, rfl, rfl, s2.seq hr', at_ints (i := 0) lr, _, _, rfl, rfl, _, rfl, ite2 (fun c => ?_) (fun c => ?_)⟩
      · have e : showsN ls rs g (.lst ds) = false := by
          show (!nearN ls rs g 0 0 && _) = false
          rw [show nearN ls rs g 0 0 = true from c]; rfl
        have := k _ s2
        rw [e] at this
        exact this
      have nn : nearN ls rs g 0 0 = false := (Bool.not_eq_true _).mp c
      refine ⟨le2, fun p0 hp0 => ⟨p0, _, rfl, SqT.of upd_same, rfl, _, _, rfl, _, _, rfl, rfl, ?_⟩⟩
      have s2 := s2.trans (same_upd (o := .tup [.int 0, .int 0]) hp0)
      generalize upd H2 p0 (.tup [.int 0, .int 0]) = H2' at s2
      refine ⟨_, rfl, a, rfl, ⟨_, s2.seq hq⟩, for_list (K := K) (a := a) (xs := xs) (fun i σ H' => ∃ (q : Nat × Nat) (v6 : Option V), σ = [some (.ref l), some (.ref r), some (.int g), some (.ref a), some (.int (q.1 : Int)), some (.int (q.2 : Int)), v6] ∧ Same H H' ∧ walkN ls rs g (0, 0) (ds.take i) = some q)
        ⟨(0, 0), _, rfl, s2, rfl⟩ (fun i σ H' _ ⟨_, _, _, sm, _⟩ => sm.seq hq) ?_ ?_⟩
      · rintro i x σ H3 hx ⟨q, v6, rfl, sm, wk⟩
        obtain ⟨d, ed, rd⟩ := rx.get hx
        obtain ⟨t, rfl⟩ : ∃ t, d = .str t := by
          have := List.all_eq_true.mp als d (List.mem_of_getElem? ed)
          cases d <;> first | exact ⟨_, rfl⟩ | cases this
        cases (show x = .str t from rd)
        have ws := walk_snoc ed wk
        have dead : goalN (.str t) (movesN ls rs g q.1 q.2) = none → ∀ H', Same H H' → Q (.bl false) H' := fun e H' s' => by
          have := k H' s'
          rw [shows_dead (i + 1) (by rw [ws]; exact e)] at this
          exact this
        refine ⟨_, rfl, le3, fun p hp => ⟨p, _, rfl, .inr (SqT.of upd_same), rfl, rfl, _, rfl, ite2 (fun c => ?_) (fun c => ?_)⟩⟩
        · refine dead (goal_noword (fun z => ?_) _ _) _ (sm.trans (same_upd hp))
          have c' : (!inV (.str t) [.str "both", .str "left", .str "right"]) = true := c
          rw [(in_words t).mpr z] at c'
          cases c'
        have c' : inV (.str t) [.str "both", .str "left", .str "right"] = true := by
          have : ¬ (!inV (.str t) [.str "both", .str "left", .str "right"]) = true := c
          simpa using this
        obtain ⟨ka, kb, ea, eb, gw⟩ := goal_word (ls := ls) (rs := rs) (g := g) ((in_words t).mp c')
        have gq := gw q.1 q.2
        have sm3 := sm.trans (same_upd (o := .tup [.str "both", .str "left", .str "right"]) hp)
        generalize upd H3 p (.tup [.str "both", .str "left", .str "right"]) = H4 at sm3
        refine ⟨_, rfl, _, rfl, rfl, .inr ⟨_, rfl, _, _, rfl, rfl, _, rfl, _, rfl, rfl, .inr ⟨_, rfl, _, _, rfl, rfl, _, _, rfl, ?_⟩⟩⟩
        rw [ea, eb]
        dsimp only
        rw [← Int.natCast_add, ← Int.natCast_add]
        refine ⟨_, rfl, _, rfl, l, _, rfl, .inl (sm3.seq hl), _, _, rfl, rfl, _, rfl, ite2 (fun c1 => ifT rfl ?_) (fun c1 => ?_)⟩
        · have c1' : ((q.1 + ka : Nat) : Int) ≥ ((ls.map V.int).length : Int) := of_decide_eq_true c1
          rw [List.length_map] at c1'
          refine dead ?_ _ sm3
          rw [gq, if_neg]
          unfold okN
          rw [decide_eq_false (by omega : ¬ q.1 + ka < ls.length)]
          simp
        have c1' : ¬ ((q.1 + ka : Nat) : Int) ≥ ((ls.map V.int).length : Int) := fun z => c1 (decide_eq_true z)
        rw [List.length_map] at c1'
        refine ⟨_, rfl, _, rfl, r, _, rfl, .inl (sm3.seq hr'), _, _, rfl, rfl, _, rfl, ite2 (fun c2 => ifT rfl ?_) (fun c2 => ?_)⟩
        · have c2' : ((q.2 + kb : Nat) : Int) ≥ ((rs.map V.int).length : Int) := of_decide_eq_true c2
          rw [List.length_map] at c2'
          refine dead ?_ _ sm3
          rw [gq, if_neg]
          unfold okN
          rw [decide_eq_false (by omega : ¬ q.2 + kb < rs.length)]
          simp
        have c2' : ¬ ((q.2 + kb : Nat) : Int) ≥ ((rs.map V.int).length : Int) := fun z => c2 (decide_eq_true z)
        rw [List.length_map] at c2'
        have li : q.1 + ka < ls.length := by omega
        have lj : q.2 + kb < rs.length := by omega
        have eo : okN ls rs g (q.1 + ka) (q.2 + kb) = !nearN ls rs g (q.1 + ka) (q.2 + kb) := by
          unfold okN
          rw [decide_eq_true li, decide_eq_true lj]; rfl
        refine ⟨_, rfl, _, rfl, l, _, _, _, rfl, rfl, sm3.seq hl, at_ints li, _, rfl, _, _, rfl, rfl, _, rfl, _, rfl, r, _, _, _, rfl, rfl, sm3.seq hr', at_ints lj, _, _, rfl, rfl, _, rfl, ite2 (fun c3 => ?_) (fun c3 => ?_)⟩
        · refine dead ?_ _ sm3
          rw [gq, eo, show nearN ls rs g (q.1 + ka) (q.2 + kb) = true from c3]
          rfl
        · refine ⟨(q.1 + ka, q.2 + kb), _, rfl, sm3, ?_⟩
          rw [ws, gq, eo, show nearN ls rs g (q.1 + ka) (q.2 + kb) = false from (Bool.not_eq_true _).mp c3]
          rfl
      · rintro σ H3 ⟨q, v6, rfl, sm, wk⟩
        rw [lds, List.take_length] at wk
        refine ⟨_, rfl, _, rfl, le2, fun p hp => ?_⟩
        have s3 := sm.trans (same_upd (o := .tup [.int (q.1 : Int), .int (q.2 : Int)]) hp)
        refine ⟨_, rfl, l, _, rfl, .inl (s3.seq hl), _, _, rfl, rfl, _, rfl, r, _, rfl, .inl (s3.seq hr'), _, _, rfl, rfl, le2, fun p2 hp2 => ⟨p, p2, _, _, rfl, rfl, SqT.of ((same_upd hp2) _ _ upd_same), SqT.of upd_same, rfl, rfl, ?_⟩⟩
        have := k _ (s3.trans (same_upd (o := .tup [.int (((ls.map V.int).length : Int) - 1), .int (((rs.map V.int).length : Int) - 1)]) hp2))
        rw [List.length_map, List.length_map] at this ⊢
        have e : showsN ls rs g (.lst ds) = eqVs [V.int (q.1 : Int), V.int (q.2 : Int)] [V.int ((ls.length : Int) - 1), V.int ((rs.length : Int) - 1)] := by
          show (!nearN ls rs g 0 0 && decide (walkN ls rs g (0, 0) ds = some (endN ls rs))) = _
          rw [nn, wk]
          show decide (some q = some (ls.length - 1, rs.length - 1)) = (decide ((q.1 : Int) = (ls.length : Int) - 1) && (decide ((q.2 : Int) = (rs.length : Int) - 1) && true))
          rw [Bool.and_true, ← Bool.decide_and]
          refine decide_eq_decide.mpr ⟨fun h => ?_, fun ⟨h1, h2⟩ => ?_⟩
          · cases h
            exact ⟨by show ((ls.length - 1 : Nat) : Int) = _; omega, by show ((rs.length - 1 : Nat) : Int) = _; omega⟩
          · obtain ⟨q1, q2⟩ := q
            simp only at h1 h2
            rw [show q1 = ls.length - 1 by omega, show q2 = rs.length - 1 by omega]
        rw [e] at this
        exact this
end
end L2

set_option Elab.async false
set_option linter.all false
set_option maxRecDepth 100000
set_option maxHeartbeats 4000000
namespace L2
open PySem PySem.Spec PyProof.Rows
/-! from where the end can be reached -/
def backN (ls rs : List Int) (g : Int) (i j : Nat) : Bool :=
  if h : i < ls.length ∧ j < rs.length then
    !nearN ls rs g i j && ((backN ls rs g (i + 1) (j + 1) || (backN ls rs g (i + 1) j || backN ls rs g i (j + 1))) || (decide (i + 1 = ls.length) && decide (j + 1 = rs.length)))
  else false
termination_by (ls.length - i) + (rs.length - j)
decreasing_by all_goals omega
theorem back_in {ls rs : List Int} {g : Int} {i j : Nat} (h1 : i < ls.length) (h2 : j < rs.length) : backN ls rs g i j = (!nearN ls rs g i j && ((backN ls rs g (i + 1) (j + 1) || (backN ls rs g (i + 1) j || backN ls rs g i (j + 1))) || (decide (i + 1 = ls.length) && decide (j + 1 = rs.length)))) := by
  rw [backN, dif_pos ⟨h1, h2⟩]
theorem back_out {ls rs : List Int} {g : Int} {i j : Nat} (h : ¬ (i < ls.length ∧ j < rs.length)) : backN ls rs g i j = false := by
  rw [backN, dif_neg h]
def kyN (a b : Nat) : List Key := [.inl (a : Int), .inl (b : Int)]
theorem ky_eq {a b c d : Nat} : kyN a b = kyN c d ↔ a = c ∧ b = d := by
  unfold kyN
  constructor
  · intro h
    injection h with h1 h2
    injection h2 with h2 _
    injection h1 with h1
    injection h2 with h2
    omega
  · rintro ⟨rfl, rfl⟩; rfl
def TabN (ls rs : List Int) (g : Int) (i j : Nat) (kvs : List (List Key × V)) : Prop := ∀ a b : Nat, (valV kvs (kyN a b)).isSome = (decide (i < a ∨ (a = i ∧ j ≤ b)) && backN ls rs g a b)
theorem TabN.at {ls rs : List Int} {g : Int} {i j : Nat} {kvs : List (List Key × V)} (h : TabN ls rs g i j kvs) {a b : Nat} (c : i < a ∨ (a = i ∧ j ≤ b)) : (valV kvs (kyN a b)).isSome = backN ls rs g a b := by
  rw [h a b, decide_eq_true c, Bool.true_and]
theorem TabN.skip {ls rs : List Int} {g : Int} {i j : Nat} {kvs : List (List Key × V)} (h : TabN ls rs g i (j + 1) kvs) (e : backN ls rs g i j = false) : TabN ls rs g i j kvs := fun a b => by
  rw [h a b]
  by_cases q : a = i ∧ b = j
  · obtain ⟨rfl, rfl⟩ := q
    rw [e, Bool.and_false, Bool.and_false]
  · congr 1
    refine decide_eq_decide.mpr ?_
    omega
theorem TabN.put {ls rs : List Int} {g : Int} {i j : Nat} {kvs : List (List Key × V)} (h : TabN ls rs g i (j + 1) kvs) (e : backN ls rs g i j = true) : TabN ls rs g i j (putK kvs (kyN i j) (.bl true)) := fun a b => by
  rw [valV_put]
  by_cases q : kyN a b = kyN i j
  · obtain ⟨rfl, rfl⟩ := ky_eq.mp q
    rw [if_pos rfl, e, decide_eq_true (Or.inr ⟨rfl, Nat.le_refl _⟩)]; rfl
  · rw [if_neg q, h a b]
    have q' : ¬ (a = i ∧ b = j) := fun z => q (ky_eq.mpr z)
    congr 1
    refine decide_eq_decide.mpr ?_
    omega
theorem TabN.next {ls rs : List Int} {g : Int} {i : Nat} {kvs : List (List Key × V)} (h : TabN ls rs g (i + 1) 0 kvs) : TabN ls rs g i rs.length kvs := fun a b => by
  rw [h a b]
  by_cases q : b < rs.length
  · congr 1
    refine decide_eq_decide.mpr ?_
    omega
  · rw [back_out (fun z => q z.2), Bool.and_false, Bool.and_false]
section
variable {P : Program} {w : World} {K : PySem.W.Frag} {mg : Str → Option Value} {base : Heap}
def spBack (K : PySem.W.Frag) : Sp := fun vs H Q _ => ∃ (l r : Addr) (ls rs : List Int) (g : Int), vs = [.ref l, .ref r, .int g] ∧ SqL K H l (ls.map V.int) ∧ SqL K H r (rs.map V.int) ∧ ls.length ≤ 400 ∧ rs.length ≤ 400 ∧ ls ≠ [] ∧ rs ≠ [] ∧
  ∀ (d : Addr) (kvs : List (List Key × V)) H', H d = none → Same H H' → H' d = some (.dT kvs) → (∀ a b : Nat, (valV kvs (kyN a b)).isSome = backN ls rs g a b) → Q (.ref d) H'
theorem scBack : FnScope ["_law_left", "_law_right_here", "_law_gap", "_law_found", "_law_i", "_law_j", "_law_some"] ["_law_left", "_law_right_here", "_law_gap"] (defScope (topL 20)) := ⟨rfl, rfl, rfl, by decide +kernel, rfl, by decide +kernel, by decide +kernel⟩
theorem ok_back {f : Addr} {fd : FuncData} (F : Fun K "_law_back_open" "_law_back_open" (topL 20) f fd) (B : Blt mg) : FnOk P w K mg base CX0 1 f fd ["_law_left", "_law_right_here", "_law_gap"] (spBack K) := by
  have nd := scBack.nd
  refine F.ok scBack (fun vs H Q E h => ?_) (fun cdv A outer s H vs Q E hr h => ?_)
  · obtain ⟨l, r, ls, rs, g, rfl, _⟩ := h
    rfl
  · obtain ⟨l, r, ls, rs, g, rfl, hl, hr', bl, br, nl, nr, k⟩ := h
    have hu1 := hu_of hr
    have hbig : 1000000 < sizeLine := by rw [sizeLine_eq]; decide
    have e62 : (2 : Int) ^ 62 = 4611686018427387904 := by decide
    have ll : 0 < ls.length := List.length_pos_iff.mpr nl
    have lr : 0 < rs.length := List.length_pos_iff.mpr nr
    have ml : (ls.map V.int).length = ls.length := List.length_map ..
    have mr : (rs.map V.int).length = rs.length := List.length_map ..
    refine ⟨_, (pss_cons (ps_set (i := 3) nd rfl (Or.inl rfl) pe_dnewT)
      (pss_cons (ps_for PassesOwn.never rfl (pi_range3 rfl B.range (pa_cons (pe_op op_sub (pe_callB call_len_seq rfl B.len boot_len (pa_cons (pv 0) pa_nil)) pe_int) (pa_cons (pe_un un_neg pe_int) (pa_cons (pe_un un_neg pe_int) pa_nil)))) (pg_name (i := 4) nd rfl (Or.inl rfl))
      (pss_one (ps_for PassesOwn.never rfl (pi_range3 rfl B.range (pa_cons (pe_op op_sub (pe_callB call_len_seq rfl B.len boot_len (pa_cons (pv 1) pa_nil)) pe_int) (pa_cons (pe_un un_neg pe_int) (pa_cons (pe_un un_neg pe_int) pa_nil)))) (pg_name (i := 5) nd rfl (Or.inl rfl))
        (pss_cons (ps_set (i := 6) nd rfl (Or.inl rfl) (pe_lst (pa_cons (pe_cmp (pc_din hu1 (pe_tup (pa_cons (pe_op op_add (pv 4) pe_int) (pa_cons (pe_op op_add (pv 5) pe_int) pa_nil))) (pv 3))) (pa_cons (pe_cmp (pc_din hu1 (pe_tup (pa_cons (pe_op op_add (pv 4) pe_int) (pa_cons (pv 5) pa_nil))) (pv 3))) (pa_cons (pe_cmp (pc_din hu1 (pe_tup (pa_cons (pv 4) (pa_cons (pe_op op_add (pv 5) pe_int) pa_nil))) (pv 3))) pa_nil)))))
          (pss_one (ps_if (PW.pt (pw_and (pt_cmpR op_le (pe_op op_add (pe_ix ix_list (pv 0) (pv 4) (fun _ _ => rfl)) (pv 2)) (pe_ix ix_list (pv 1) (pv 5) (fun _ _ => rfl)) (nomark _)) (pw_and1 (PW.pt (pw_or (pt_val (pe_callB (call_anyL rfl) rfl B.any boot_any (pa_cons (pv 6) pa_nil))) (pw_or1 (PW.pt (pw_and (pt_cmpR op_eq (pe_op op_add (pv 4) pe_int) (pe_callB call_len_seq rfl B.len boot_len (pa_cons (pv 0) pa_nil)) (nomark _)) (pw_and1 (pt_cmpR op_eq (pe_op op_add (pv 5) pe_int) (pe_callB call_len_seq rfl B.len boot_len (pa_cons (pv 1) pa_nil)) (nomark _)))))))))))
          (pss_one (ps_dput hu1 (pv 3) (pe_tup (pa_cons (pv 4) (pa_cons (pv 5) pa_nil))) pe_bl rfl))
          pss_nil))))))
      (pss_one (ps_ret (pv 3))))), ?_⟩
    refine fun d hd => ?_
    have S0 : Same H (upd H d (.dT [])) := same_upd hd
    have D0 : upd H d (.dT []) d = some (.dT []) := upd_same
    generalize upd H d (.dT []) = H0 at S0 D0
    refine ⟨_, rfl, l, _, rfl, .inl (S0.seq hl), _, _, rfl, rfl, _, rfl, _, rfl, _, _, rfl, ⟨by rw [e62]; omega, by rw [e62]; omega, by rw [e62]; omega, by rw [e62]; omega⟩, ?_⟩
    have eN : (((ls.map V.int).length : Int) - 1 - -1).toNat = ls.length := by omega
    have eM : (((rs.map V.int).length : Int) - 1 - -1).toNat = rs.length := by omega
    refine for_down (fun i σ H' => ∃ v4 v5 v6 kvs, σ = [some (.ref l), some (.ref r), some (.int g), some (.ref d), v4, v5, v6] ∧ Same H H' ∧ H' d = some (.dT kvs) ∧ kvs.length ≤ 400 * i ∧ TabN ls rs g (ls.length - i) 0 kvs) ⟨_, _, _, [], rfl, S0, D0, Nat.zero_le _, fun a b => ?_⟩ ?_ ?_
    · show false = _
      by_cases q : a < ls.length
      · rw [decide_eq_false (by omega), Bool.false_and]
      · rw [back_out (fun z => q z.1), Bool.and_false]
    · rintro i σ H1 hi ⟨v4, v5, v6, kvs, rfl, S1, D1, kl, tb⟩
      rw [eN] at hi
      obtain ⟨ri, hri⟩ : ∃ ri, ri = ls.length - 1 - i := ⟨_, rfl⟩
      have er : ((ls.map V.int).length : Int) - 1 - (i : Int) = (ri : Int) := by omega
      have lri : ri < ls.length := by omega
      rw [er]
      have tb0 : TabN ls rs g ri rs.length kvs := TabN.next (by rw [show ri + 1 = ls.length - i by omega]; exact tb)
      refine ⟨_, rfl, r, _, rfl, .inl (S1.seq hr'), _, _, rfl, rfl, _, rfl, _, rfl, _, _, rfl, ⟨by rw [e62]; omega, by rw [e62]; omega, by rw [e62]; omega, by rw [e62]; omega⟩, ?_⟩
      refine for_down (fun j σ H' => ∃ v5 v6 kvs, σ = [some (.ref l), some (.ref r), some (.int g), some (.ref d), some (.int (ri : Int)), v5, v6] ∧ Same H H' ∧ H' d = some (.dT kvs) ∧ kvs.length ≤ 400 * i + j ∧ TabN ls rs g ri (rs.length - j) kvs) ⟨_, _, kvs, rfl, S1, D1, by omega, by rw [Nat.sub_zero]; exact tb0⟩ ?_ ?_
      · rintro j σ H2 hj ⟨v5, v6, kvs, rfl, S2, D2, kl, tb⟩
        rw [eM] at hj
        obtain ⟨ci, hci⟩ : ∃ ci, ci = rs.length - 1 - j := ⟨_, rfl⟩
        have ec : ((rs.map V.int).length : Int) - 1 - (j : Int) = (ci : Int) := by omega
        have lci : ci < rs.length := by omega
        rw [ec]
        have tb1 : TabN ls rs g ri (ci + 1) kvs := by rw [show ci + 1 = rs.length - j by omega]; exact tb
        have eb := back_in (g := g) lri lci
        have g1 := tb1.at (a := ri + 1) (b := ci + 1) (.inl (Nat.lt_succ_self _))
        have g2 := tb1.at (a := ri + 1) (b := ci) (.inl (Nat.lt_succ_self _))
        have g3 := tb1.at (a := ri) (b := ci + 1) (.inr ⟨rfl, Nat.le_refl _⟩)
        -- the three behind
        refine ⟨_, rfl, _, _, rfl, rfl, _, rfl, _, _, rfl, rfl, le2, fun t1 h1 => ?_⟩
        have S3 := S2.trans (same_upd (o := .tup [.int ((ri : Int) + 1), .int ((ci : Int) + 1)]) h1)
        have D3 := (same_upd (o := .tup [.int ((ri : Int) + 1), .int ((ci : Int) + 1)]) h1) _ _ D2
        have T3 : upd H2 t1 (.tup [.int ((ri : Int) + 1), .int ((ci : Int) + 1)]) t1 = some (.tup ((kyN (ri + 1) (ci + 1)).map kV)) := upd_same
        generalize upd H2 t1 (.tup [.int ((ri : Int) + 1), .int ((ci : Int) + 1)]) = H3 at S3 D3 T3
        refine ⟨_, rfl, d, _, rfl, DGet.t D3 T3, ?_⟩
        rw [g1]
        refine ⟨_, rfl, _, _, rfl, rfl, _, rfl, le2, fun t2 h2 => ?_⟩
        have S4 := S3.trans (same_upd (o := .tup [.int ((ri : Int) + 1), .int (ci : Int)]) h2)
        have D4 := (same_upd (o := .tup [.int ((ri : Int) + 1), .int (ci : Int)]) h2) _ _ D3
        have T4 : upd H3 t2 (.tup [.int ((ri : Int) + 1), .int (ci : Int)]) t2 = some (.tup ((kyN (ri + 1) ci).map kV)) := upd_same
        generalize upd H3 t2 (.tup [.int ((ri : Int) + 1), .int (ci : Int)]) = H4 at S4 D4 T4
        refine ⟨_, rfl, d, _, rfl, DGet.t D4 T4, ?_⟩
        rw [g2]
        refine ⟨_, rfl, _, rfl, _, _, rfl, rfl, le2, fun t3 h3 => ?_⟩
        have S5 := S4.trans (same_upd (o := .tup [.int (ri : Int), .int ((ci : Int) + 1)]) h3)
        have D5 := (same_upd (o := .tup [.int (ri : Int), .int ((ci : Int) + 1)]) h3) _ _ D4
        have T5 : upd H4 t3 (.tup [.int (ri : Int), .int ((ci : Int) + 1)]) t3 = some (.tup ((kyN ri (ci + 1)).map kV)) := upd_same
        generalize upd H4 t3 (.tup [.int (ri : Int), .int ((ci : Int) + 1)]) = H5 at S5 D5 T5
        refine ⟨_, rfl, d, _, rfl, DGet.t D5 T5, ?_⟩
        rw [g3]
        refine ⟨le3, fun so hso => ?_⟩
        generalize backN ls rs g (ri + 1) (ci + 1) = b1 at eb
        generalize backN ls rs g (ri + 1) ci = b2 at eb
        generalize backN ls rs g ri (ci + 1) = b3 at eb
        have S6 := S5.trans (same_upd (o := .lst [.bl b1, .bl b2, .bl b3]) hso)
        have D6 := (same_upd (o := .lst [.bl b1, .bl b2, .bl b3]) hso) _ _ D5
        have L6 : upd H5 so (.lst [.bl b1, .bl b2, .bl b3]) so = some (.lst ([b1, b2, b3].map V.bl)) := upd_same
        generalize upd H5 so (.lst [.bl b1, .bl b2, .bl b3]) = H6 at S6 D6 L6
        have skip : ∀ {v6 : Option V}, backN ls rs g ri ci = false → ∃ w5 w6 kvs, [some (V.ref l), some (.ref r), some (.int g), some (.ref d), some (.int (ri : Int)), some (.int (ci : Int)), v6] = [some (.ref l), some (.ref r), some (.int g), some (.ref d), some (.int (ri : Int)), w5, w6] ∧ Same H H6 ∧ H6 d = some (.dT kvs) ∧ kvs.length ≤ 400 * i + (j + 1) ∧ TabN ls rs g ri (rs.length - (j + 1)) kvs := fun e => ⟨_, _, kvs, rfl, S6, D6, by omega, by rw [show rs.length - (j + 1) = ci by omega]; exact tb1.skip e⟩
        have fill : ∀ {v6 : Option V} (tk : Addr), backN ls rs g ri ci = true → H6 tk = none → ∃ w5 w6 kvs', [some (V.ref l), some (.ref r), some (.int g), some (.ref d), some (.int (ri : Int)), some (.int (ci : Int)), v6] = [some (.ref l), some (.ref r), some (.int g), some (.ref d), some (.int (ri : Int)), w5, w6] ∧ Same H (upd (upd H6 tk (.tup [.int (ri : Int), .int (ci : Int)])) d (.dT (putK kvs (kyN ri ci) (.bl true)))) ∧ upd (upd H6 tk (.tup [.int (ri : Int), .int (ci : Int)])) d (.dT (putK kvs (kyN ri ci) (.bl true))) d = some (.dT kvs') ∧ kvs'.length ≤ 400 * i + (j + 1) ∧ TabN ls rs g ri (rs.length - (j + 1)) kvs' := fun tk e htk => by
          have := length_putK kvs (kyN ri ci) (.bl true)
          refine ⟨_, _, _, rfl, fun c0 u0 e0 => ?_, upd_same, by omega, by rw [show rs.length - (j + 1) = ci by omega]; exact tb1.put e⟩
          rw [upd_ne (ne_of_none e0 hd)]
          exact (S6.trans (same_upd htk)) c0 u0 e0
        refine ⟨_, rfl, _, rfl, l, _, _, _, rfl, rfl, S6.seq hl, at_ints lri, _, rfl, _, _, rfl, rfl, _, rfl, _, rfl, r, _, _, _, rfl, rfl, S6.seq hr', at_ints lci, _, _, rfl, rfl, _, rfl, ite2 (fun c1 => ?_) (fun c1 => ifF rfl (skip ?_))⟩
        · have en : nearN ls rs g ri ci = false := by
            have c1' : ls.getD ri 0 + g ≤ rs.getD ci 0 := of_decide_eq_true c1
            exact decide_eq_false (by omega)
          rw [en] at eb
          refine ⟨_, rfl, so, [b1, b2, b3], rfl, SqL.of L6, _, rfl, ite2 (fun c2 => ?_) (fun c2 => ?_)⟩
          · have eT : backN ls rs g ri ci = true := by
              rw [eb]
              revert c2
              cases b1 <;> cases b2 <;> cases b3 <;> simp
            exact ifT rfl ⟨_, rfl, _, rfl, _, rfl, le2, fun tk htk => ⟨d, _, rfl, DPut.t (k := kyN ri ci) ((same_upd htk) _ _ D6) upd_same (by omega), fill tk eT htk⟩⟩
          · have eF : (b1 || (b2 || b3)) = false := by
              revert c2
              cases b1 <;> cases b2 <;> cases b3 <;> simp
            rw [eF] at eb
            refine ⟨_, rfl, _, _, rfl, rfl, _, rfl, l, _, rfl, .inl (S6.seq hl), rfl, _, rfl, ite2 (fun c3 => ?_) (fun c3 => ifF rfl (skip ?_))⟩
            · have c3' : ri + 1 = ls.length := by
                have := of_decide_eq_true c3
                injection this with this
                omega
              refine ⟨_, rfl, _, _, rfl, rfl, _, rfl, r, _, rfl, .inl (S6.seq hr'), rfl, _, rfl, ite2 (fun c4 => ?_) (fun c4 => skip ?_)⟩
              · have c4' : ci + 1 = rs.length := by
                  have := of_decide_eq_true c4
                  injection this with this
                  omega
                have eT : backN ls rs g ri ci = true := by rw [eb, decide_eq_true c3', decide_eq_true c4']; rfl
                exact ⟨_, rfl, _, rfl, _, rfl, le2, fun tk htk => ⟨d, _, rfl, DPut.t (k := kyN ri ci) ((same_upd htk) _ _ D6) upd_same (by omega), fill tk eT htk⟩⟩
              · rw [eb, decide_eq_false (fun z => c4 (decide_eq_true (by rw [mr]; exact congrArg V.int (by omega))) : ¬ ci + 1 = rs.length)]
                simp
            · rw [eb, decide_eq_false (fun z => c3 (decide_eq_true (by rw [ml]; exact congrArg V.int (by omega))) : ¬ ri + 1 = ls.length)]
              simp
        · have en : nearN ls rs g ri ci = true := decide_eq_true (by
            have c1' : ¬ ls.getD ri 0 + g ≤ rs.getD ci 0 := fun z => c1 (decide_eq_true z)
            omega)
          rw [eb, en]; rfl
      · rintro σ H2 ⟨v5, v6, kvs, rfl, S2, D2, kl, tb⟩
        rw [eM] at kl tb
        exact ⟨_, _, _, kvs, rfl, S2, D2, by omega, by rw [show ls.length - (i + 1) = ri by omega]; rw [Nat.sub_self] at tb; exact tb⟩
    · rintro σ H1 ⟨v4, v5, v6, kvs, rfl, S1, D1, kl, tb⟩
      rw [eN, Nat.sub_self] at tb
      refine ⟨_, rfl, k d kvs H1 hd S1 D1 fun a b => ?_⟩
      rw [tb a b, decide_eq_true (by omega), Bool.true_and]
end
end L2

set_option Elab.async false
set_option linter.all false
set_option maxRecDepth 100000
set_option maxHeartbeats 4000000
namespace L2
open PySem PySem.Spec PyProof.Rows
def t3D (m : Str × Nat × Nat) : Dat := .tup [.str m.1, .int (m.2.1 : Int), .int (m.2.2 : Int)]
def candN (i j : Nat) : List (Str × Nat × Nat) := [("both", i + 1, j + 1), ("left", i + 1, j), ("right", i, j + 1)]
def inN (ls rs : List Int) (m : Str × Nat × Nat) : Bool := decide (m.2.1 < ls.length) && decide (m.2.2 < rs.length)
theorem flt_snoc {α : Type} {p : α → Bool} {xs : List α} {i : Nat} {m : α} (h : xs[i]? = some m) : (xs.take (i + 1)).filter p = (xs.take i).filter p ++ if p m = true then [m] else [] := by
  rw [tk_snoc h, List.filter_append, List.filter_cons]
  rfl
theorem back_ok {ls rs : List Int} {g : Int} {i j : Nat} (h : backN ls rs g i j = true) : i < ls.length ∧ j < rs.length ∧ nearN ls rs g i j = false := by
  by_cases c : i < ls.length ∧ j < rs.length
  · rw [back_in c.1 c.2, Bool.and_eq_true] at h
    exact ⟨c.1, c.2, by simpa using h.1⟩
  · rw [back_out c] at h; cases h
theorem cand_goal {ls rs : List Int} {g : Int} {i j : Nat} {m : Str × Nat × Nat} (hm : m ∈ candN i j) (h : backN ls rs g m.2.1 m.2.2 = true) : goalN (.str m.1) (movesN ls rs g i j) = some m.2 := by
  obtain ⟨h1, h2, h3⟩ := back_ok h
  have ok : okN ls rs g m.2.1 m.2.2 = true := by unfold okN; rw [decide_eq_true h1, decide_eq_true h2, h3]; rfl
  unfold candN at hm
  simp only [List.mem_cons, List.not_mem_nil, or_false] at hm
  rcases hm with rfl | rfl | rfl
  · rw [goal_sel, eqS_str, eqS_str, eqS_str, show (("both" : Str) == "both") = true by decide]
    rw [if_pos (by rw [Bool.and_true]; exact ok)]
  · rw [goal_sel, eqS_str, eqS_str, eqS_str, show (("both" : Str) == "left") = false by decide, show (("left" : Str) == "left") = true by decide]
    rw [if_neg (by simp), if_pos (by rw [Bool.and_true]; exact ok)]; rfl
  · rw [goal_sel, eqS_str, eqS_str, eqS_str, show (("both" : Str) == "right") = false by decide, show (("left" : Str) == "right") = false by decide, show (("right" : Str) == "right") = true by decide]
    rw [if_neg (by simp), if_neg (by simp), if_pos (by rw [Bool.and_true]; exact ok)]; rfl
theorem back_end {ls rs : List Int} {g : Int} {i j : Nat} (h : backN ls rs g i j = true) (hn : ((candN i j).filter (inN ls rs)).filter (fun m => backN ls rs g m.2.1 m.2.2) = []) : (i, j) = endN ls rs := by
  obtain ⟨h1, h2, h3⟩ := back_ok h
  have no : ∀ m ∈ candN i j, backN ls rs g m.2.1 m.2.2 = false := fun m hm => by
    cases e : backN ls rs g m.2.1 m.2.2 with
    | false => rfl
    | true =>
      obtain ⟨q1, q2, _⟩ := back_ok e
      have : m ∈ ((candN i j).filter (inN ls rs)).filter (fun m => backN ls rs g m.2.1 m.2.2) := List.mem_filter.mpr ⟨List.mem_filter.mpr ⟨hm, by unfold inN; rw [decide_eq_true q1, decide_eq_true q2]; rfl⟩, e⟩
      rw [hn] at this
      cases this
  have n1 := no ("both", i + 1, j + 1) (by simp [candN])
  have n2 := no ("left", i + 1, j) (by simp [candN])
  have n3 := no ("right", i, j + 1) (by simp [candN])
  simp only at n1 n2 n3
  rw [back_in h1 h2, n1, n2, n3] at h
  simp at h
  unfold endN
  rw [show ls.length - 1 = i by omega, show rs.length - 1 = j by omega]
section
variable {P : Program} {w : World} {K : PySem.W.Frag} {mg : Str → Option Value} {base : Heap}
theorem sl_tupB {X : Cx} {K : PySem.W.Frag} (h : X.K = K) : SlR X (rSlT K) := by rw [← h]; exact sl_tup
theorem t3_open {H : Hp} {m : Str × Nat × Nat} {x : V} (h : Rep K H (t3D m) x) : ∃ c, x = .ref c ∧ SqT K H c [.str m.1, .int (m.2.1 : Int), .int (m.2.2 : Int)] := by
  obtain ⟨c, zs, rfl, hc, y0, r0, e0, h0, y1, r1, e1, h1, y2, r2, e2, h2, e3⟩ := h
  cases (show y0 = _ from h0)
  cases (show y1 = _ from h1)
  cases (show y2 = _ from h2)
  cases (show r2 = _ from e3)
  subst e2 e1 e0
  exact ⟨c, rfl, hc⟩
theorem t3s_imm : ∀ l : List (Str × Nat × Nat), Dat.imms (l.map t3D) = true
  | [] => rfl
  | _ :: l => by
    show (true && Dat.imms (l.map t3D)) = true
    rw [t3s_imm l]; rfl
def spDrawn (K : PySem.W.Frag) : Sp := fun vs H Q _ => ∃ (b l r : Addr) (ls rs : List Int) (g n : Int), vs = [.ref b, .ref l, .ref r, .int g] ∧ BoxAt H b n ∧ n < 500000 ∧ H l = some (.lst (ls.map V.int)) ∧ H r = some (.lst (rs.map V.int)) ∧ l ≠ b ∧ r ≠ b ∧ ls.length ≤ 400 ∧ rs.length ≤ 400 ∧ ls ≠ [] ∧ rs ≠ [] ∧
  ∀ (q : Addr) (ws : List Str) H', SameB b H H' → BoxAt H' b (n + 800) → q ≠ b → H q = none → H' q = some (.lst (ws.map V.str)) → ws.length ≤ ls.length + rs.length → (∀ x ∈ ws, x = "both" ∨ x = "left" ∨ x = "right") → (backN ls rs g 0 0 = true → walkN ls rs g (0, 0) (ws.map Dat.str) = some (endN ls rs)) → Q (.ref q) H'
theorem scDrawn : FnScope ["_law_box_here", "_law_left", "_law_right_here", "_law_gap", "_law_spots", "_law_i", "_law_j", "_law_found", "_law_k", "_law_some", "_law_good", "_law_word"] ["_law_box_here", "_law_left", "_law_right_here", "_law_gap"] (defScope (topL 21)) := ⟨rfl, rfl, rfl, by decide +kernel, rfl, by decide +kernel, by decide +kernel⟩
theorem ok_drawn {f : Addr} {fd : FuncData} (F : Fun K "_law_drawn_moves" "_law_drawn_moves" (topL 21) f fd) (B : Blt mg) (D_take : Dfn P w K mg base "_law_take" 1 ["_law_box_here", "_law_size"] spTake) (D_back_open : Dfn P w K mg base "_law_back_open" 1 ["_law_left", "_law_right_here", "_law_gap"] (spBack K)) : FnOk P w K mg base CX0 2 f fd ["_law_box_here", "_law_left", "_law_right_here", "_law_gap"] (spDrawn K) := by
  have nd := scDrawn.nd
  refine F.ok scDrawn (fun vs H Q E h => ?_) (fun cdv A outer s H vs Q E hr h => ?_)
  · obtain ⟨b, l, r, ls, rs, g, n, rfl, _⟩ := h
    rfl
  · obtain ⟨b, l, r, ls, rs, g, n, rfl, B0, hn, hl, hr', nlb, nrb, bl, br, nl, nr, k⟩ := h
    have hu := hr.units0
    have hu1 := hu_of hr
    have hbig : 1000000 < sizeLine := by rw [sizeLine_eq]; decide
    have e62 : (2 : Int) ^ 62 = 4611686018427387904 := by decide
    have ml : (ls.map V.int).length = ls.length := List.length_map ..
    have mr : (rs.map V.int).length = rs.length := List.length_map ..
    refine ⟨_, (pss_cons (ps_asg (pe_tup (pa_cons (pe_callD D_back_open (hr.mono (by first | decide | exact Nat.le_refl _ | omega)) rfl (pa_cons (pv 1) (pa_cons (pv 2) (pa_cons (pv 3) pa_nil)))) (pa_cons pe_int (pa_cons pe_int (pa_cons (pe_lst pa_nil) pa_nil))))) (pg_tup rfl (pgs_cons (pg_name (i := 4) nd rfl (Or.inr rfl)) (pgs_cons (pg_name (i := 5) nd rfl (Or.inl rfl)) (pgs_cons (pg_name (i := 6) nd rfl (Or.inl rfl)) (pgs_cons (pg_name (i := 7) nd rfl (Or.inl rfl)) pgs_nil))))))
      (pss_cons (ps_for PassesOwn.never rfl (pi_range1 rfl B.range (pa_cons (pe_op op_add (pe_callB call_len_seq rfl B.len boot_len (pa_cons (pv 1) pa_nil)) (pe_callB call_len_seq rfl B.len boot_len (pa_cons (pv 2) pa_nil))) pa_nil)) (pg_name (i := 8) nd rfl (Or.inl rfl))
      (pss_cons (ps_set (i := 9) nd rfl (Or.inl rfl) (pe_lst (pa_cons (pe_tup (pa_cons pe_str (pa_cons (pe_op op_add (pv 5) pe_int) (pa_cons (pe_op op_add (pv 6) pe_int) pa_nil)))) (pa_cons (pe_tup (pa_cons pe_str (pa_cons (pe_op op_add (pv 5) pe_int) (pa_cons (pv 6) pa_nil)))) (pa_cons (pe_tup (pa_cons pe_str (pa_cons (pv 5) (pa_cons (pe_op op_add (pv 6) pe_int) pa_nil)))) pa_nil)))))
        (pss_cons (ps_lc1 ["_law_left", "_law_right_here"] [1, 2] rfl rfl (by kernel_rfl) (pi_list (pv 9)) (fun C0 s0 H0 ex0 => (pf_one (PW.pt (pw_and (pt_cmpR op_lt (pe_ix (ix_tupB (K := K) rfl) (pv 0) pe_int (fun _ _ => rfl)) (pe_callB (call_len_seqB (K := K) rfl) rfl B.len boot_len (pa_cons (pv 1) pa_nil)) (nomark _)) (pw_and1 (pt_cmpR op_lt (pe_ix (ix_tupB (K := K) rfl) (pv 0) pe_int (fun _ _ => rfl)) (pe_callB (call_len_seqB (K := K) rfl) rfl B.len boot_len (pa_cons (pv 2) pa_nil)) (nomark _))))))) (fun C0 s0 H0 ex0 => (pv 0)) (pg_name (i := 9) nd rfl (Or.inl rfl)))
        (pss_cons (ps_lc1 ["_law_spots"] [4] rfl rfl (by kernel_rfl) (pi_list (pv 9)) (fun C0 s0 H0 ex0 => (pf_one (pt_cmp (pc_din hu1 (pe_slice (sl_tupB (K := K) rfl) (pv 0) (po_some pe_int) po_none) (pv 1))))) (fun C0 s0 H0 ex0 => (pv 0)) (pg_name (i := 10) nd rfl (Or.inl rfl)))
        (pss_cons (ps_weak (ps_if (pt_cmpR (op_eqDE hu) (pv 4) pe_dnewT (nomark _))
        (pss_one (ps_lc1 ["_law_gap", "_law_right_here", "_law_left"] [3, 2, 1] rfl rfl (by kernel_rfl) (pi_list (pv 9)) (fun C0 s0 H0 ex0 => (pf_one (pt_cmpR op_le (pe_op op_add (pe_ix (ix_listB (K := K) rfl) (pv 3) (pe_ix (ix_tupB (K := K) rfl) (pv 0) pe_int (fun _ _ => rfl)) (fun _ _ => rfl)) (pv 1)) (pe_ix (ix_listB (K := K) rfl) (pv 2) (pe_ix (ix_tupB (K := K) rfl) (pv 0) pe_int (fun _ _ => rfl)) (fun _ _ => rfl)) (nomark _)))) (fun C0 s0 H0 ex0 => (pv 0)) (pg_name (i := 10) nd rfl (Or.inl rfl))))
        pss_nil))
        (pss_cons (ps_if (pt_cmpR (op_eqNil hu) (pv 10) (pe_lst pa_nil) (nomark _))
        (pss_one (ps_ret (pv 7)))
        pss_nil)
        (pss_cons (ps_asg (pe_ix ix_list (pv 10) (pe_callD D_take (hr.mono (by first | decide | exact Nat.le_refl _ | omega)) rfl (pa_cons (pv 0) (pa_cons (pe_callB call_len_seq rfl B.len boot_len (pa_cons (pv 10) pa_nil)) pa_nil))) (fun _ _ => rfl)) (pg_tup rfl (pgs_cons (pg_name (i := 11) nd rfl (Or.inl rfl)) (pgs_cons (pg_name (i := 5) nd rfl (Or.inl rfl)) (pgs_cons (pg_name (i := 6) nd rfl (Or.inl rfl)) pgs_nil)))))
        (pss_one (ps_expr (pe_bm PySem.F.plainAttrs_list PySem.F.slot_list_append PySem.F.type_list_append mt_append (pv 7) (pa_cons (pv 11) pa_nil)))))))))))
      (pss_one (ps_ret (pv 7))))), ?_⟩
    refine ⟨_, rfl, _, rfl, _, rfl, l, r, ls, rs, g, rfl, SqL.of hl, SqL.of hr', bl, br, nl, nr, fun d kvs H1 hd S1 D1 tb => ?_⟩
    refine ⟨le0, fun q hq => ⟨le4, fun t ht => ?_⟩⟩
    have nqb : q ≠ b := fun z => by
      obtain ⟨o, eo⟩ := B0.some
      rw [z, S1 _ _ eo] at hq; cases hq
    have ndb : d ≠ b := fun z => by
      obtain ⟨o, eo⟩ := B0.some
      rw [z, eo] at hd; cases hd
    have NQ : H q = none := by
      cases e : H q with
      | none => rfl
      | some o => rw [S1 _ _ e] at hq; cases hq
    have u2 := (same_upd (o := .lst []) hq).trans (same_upd (o := .tup [.ref d, .int 0, .int 0, .ref q]) ht)
    have Q2 := (same_upd (o := .tup [.ref d, .int 0, .int 0, .ref q]) ht) q _ (upd_same (H := H1) (o := .lst []))
    have T2 : upd (upd H1 q (.lst [])) t (.tup [.ref d, .int 0, .int 0, .ref q]) t = some (.tup [.ref d, .int 0, .int 0, .ref q]) := upd_same
    generalize upd (upd H1 q (.lst [])) t (.tup [.ref d, .int 0, .int 0, .ref q]) = H2 at u2 Q2 T2
    have S2 := S1.trans u2
    refine ⟨t, _, rfl, SqT.of T2, rfl, _, _, rfl, _, _, rfl, _, _, rfl, _, _, rfl, rfl, ?_⟩
    refine ⟨_, rfl, l, _, rfl, .inl (SqL.of (S2 _ _ hl)), _, rfl, r, _, rfl, .inl (SqL.of (S2 _ _ hr')), _, _, rfl, rfl, _, rfl, (by rw [e62]; omega), (by rw [e62]; omega), ?_⟩
    have eN : (((ls.map V.int).length : Int) + ((rs.map V.int).length : Int)).toNat = ls.length + rs.length := by omega
    refine for_range (fun i σ H' => ∃ (v8 v9 v10 v11 : Option V) (I J : Nat) (ws : List Str), σ = [some (.ref b), some (.ref l), some (.ref r), some (.int g), some (.ref d), some (.int (I : Int)), some (.int (J : Int)), some (.ref q), v8, v9, v10, v11] ∧ SameB b H H' ∧ BoxAt H' b (n + i) ∧ H' d = some (.dT kvs) ∧ H' q = some (.lst (ws.map V.str)) ∧ ws.length = i ∧ i ≤ I + J ∧ (∀ x ∈ ws, x = "both" ∨ x = "left" ∨ x = "right") ∧ (backN ls rs g 0 0 = true → walkN ls rs g (0, 0) (ws.map Dat.str) = some (I, J) ∧ backN ls rs g I J = true))
      ⟨_, _, _, _, 0, 0, [], rfl, SameB.of S2, (B0.same S2).mono (by omega), u2 _ _ D1, Q2, rfl, Nat.zero_le _, (fun x hx => nomatch hx), fun e => ⟨rfl, e⟩⟩ ?_ ?_
    · rintro i σ H3 hi ⟨v8, v9, v10, v11, I, J, ws, rfl, S3, B3, D3, Q3, wl, wij, ww, wk⟩
      rw [eN] at hi
      have L3 := S3 _ _ hl nlb
      have R3 := S3 _ _ hr' nrb
      -- the three
      refine ⟨_, rfl, _, _, rfl, rfl, _, rfl, _, _, rfl, rfl, le3, fun t1 h1 => ⟨_, rfl, _, _, rfl, rfl, _, rfl, le3, fun t2 h2 => ⟨_, rfl, _, rfl, _, _, rfl, rfl, le3, fun t3 h3 => ⟨le3, fun so hso => ?_⟩⟩⟩⟩
      have a1 := same_upd (o := .tup [.str "both", .int ((I : Int) + 1), .int ((J : Int) + 1)]) h1
      have a2 := same_upd (o := .tup [.str "left", .int ((I : Int) + 1), .int (J : Int)]) h2
      have a3 := same_upd (o := .tup [.str "right", .int (I : Int), .int ((J : Int) + 1)]) h3
      have a4 := same_upd (o := .lst [.ref t1, .ref t2, .ref t3]) hso
      have T1 := a4 _ _ (a3 _ _ (a2 t1 _ (upd_same (H := H3) (o := .tup [.str "both", .int ((I : Int) + 1), .int ((J : Int) + 1)]))))
      have T2' := a4 _ _ (a3 t2 _ (upd_same (o := .tup [.str "left", .int ((I : Int) + 1), .int (J : Int)])))
      have T3' := a4 t3 _ (upd_same (o := .tup [.str "right", .int (I : Int), .int ((J : Int) + 1)]))
      have a := ((a1.trans a2).trans a3).trans a4
      have L4 : upd (upd (upd (upd H3 t1 (.tup [.str "both", .int ((I : Int) + 1), .int ((J : Int) + 1)])) t2 (.tup [.str "left", .int ((I : Int) + 1), .int (J : Int)])) t3 (.tup [.str "right", .int (I : Int), .int ((J : Int) + 1)])) so (.lst [.ref t1, .ref t2, .ref t3]) so = some (.lst [.ref t1, .ref t2, .ref t3]) := upd_same
      generalize upd (upd (upd (upd H3 t1 (.tup [.str "both", .int ((I : Int) + 1), .int ((J : Int) + 1)])) t2 (.tup [.str "left", .int ((I : Int) + 1), .int (J : Int)])) t3 (.tup [.str "right", .int (I : Int), .int ((J : Int) + 1)])) so (.lst [.ref t1, .ref t2, .ref t3]) = H4 at T1 T2' T3' a L4
      clear a1 a2 a3 a4 h1 h2 h3 hso
      have rc : Reps K H4 ((candN I J).map t3D) [.ref t1, .ref t2, .ref t3] := ⟨_, _, rfl, ⟨t1, _, rfl, SqT.of T1, _, _, rfl, rfl, _, _, rfl, rfl, _, _, rfl, rfl, rfl⟩, _, _, rfl, ⟨t2, _, rfl, SqT.of T2', _, _, rfl, rfl, _, _, rfl, rfl, _, _, rfl, rfl, rfl⟩, _, _, rfl, ⟨t3, _, rfl, SqT.of T3', _, _, rfl, rfl, _, _, rfl, rfl, _, _, rfl, rfl, rfl⟩, rfl⟩
      -- those on the tracks
      refine ⟨_, rfl, so, rfl, ⟨_, SqL.of L4⟩, lc_list (K := K) (a := so) (xs := [.ref t1, .ref t2, .ref t3]) (fun j zs H' => Reps K H' ((((candN I J).take j).filter (inN ls rs)).map t3D) zs ∧ Same H4 H') ⟨rfl, Same.refl _⟩ (fun j zs H' ⟨_, s'⟩ => SqL.of (s' _ _ L4)) ?_ ?_⟩
      · rintro j x zs H5 hx ⟨rz, s5⟩
        obtain ⟨d0, e1, r1⟩ := (rc.same s5).get hx
        rw [List.getElem?_map] at e1
        obtain ⟨m, em, rfl⟩ := Option.map_eq_some_iff.mp e1
        obtain ⟨c, rfl, hc⟩ := t3_open r1
        have zl := rz.len
        rw [List.length_map] at zl
        have zb : (((candN I J).take j).filter (inN ls rs)).length ≤ 3 := Nat.le_trans (List.length_filter_le _ _) (by rw [List.length_take]; exact Nat.min_le_right _ _)
        have no : inN ls rs m = false → Reps K H5 ((((candN I J).take (j + 1)).filter (inN ls rs)).map t3D) zs ∧ Same H4 H5 := fun e => by
          rw [flt_snoc em, if_neg (by rw [e]; exact Bool.false_ne_true), List.append_nil]
          exact ⟨rz, s5⟩
        refine ⟨rfl, ⟨_, rfl, c, _, _, _, rfl, rfl, hc, rfl, _, rfl, l, _, rfl, .inl (SqL.of (s5 _ _ (a _ _ L3))), _, _, rfl, rfl, _, rfl, ite2 (fun c1 => ?_) (fun c1 => ifF rfl (no ?_))⟩⟩
        · have c1' : ((m.2.1 : Nat) : Int) < ((ls.map V.int).length : Int) := of_decide_eq_true c1
          refine ⟨_, rfl, c, _, _, _, rfl, rfl, hc, rfl, _, rfl, r, _, rfl, .inl (SqL.of (s5 _ _ (a _ _ R3))), _, _, rfl, rfl, _, rfl, ite2 (fun c2 => ?_) (fun c2 => no ?_)⟩
          · have c2' : ((m.2.2 : Nat) : Int) < ((rs.map V.int).length : Int) := of_decide_eq_true c2
            refine ⟨_, rfl, by omega, ?_, s5⟩
            rw [flt_snoc em, if_pos (by unfold inN; rw [decide_eq_true (by omega), decide_eq_true (by omega)]; rfl), List.map_append]
            exact Reps.snoc r1 rz
          · have c2' : ¬ ((m.2.2 : Nat) : Int) < ((rs.map V.int).length : Int) := fun z => c2 (decide_eq_true z)
            unfold inN
            rw [decide_eq_false (by omega : ¬ m.2.2 < rs.length), Bool.and_false]
        · have c1' : ¬ ((m.2.1 : Nat) : Int) < ((ls.map V.int).length : Int) := fun z => c1 (decide_eq_true z)
          unfold inN
          rw [decide_eq_false (by omega : ¬ m.2.1 < ls.length), Bool.false_and]
      rintro us1 H5 ⟨ru, s5⟩
      have ru : Reps K H5 (((candN I J).filter (inN ls rs)).map t3D) us1 := ru
      have ul := ru.len
      rw [List.length_map] at ul
      have ub : ((candN I J).filter (inN ls rs)).length ≤ 3 := List.length_filter_le _ _
      refine ⟨by omega, fun s1a hs1a => ?_⟩
      have b1 := a.trans (s5.trans (same_upd (o := .lst us1) hs1a))
      have ru6 := ru.same (same_upd (o := .lst us1) hs1a)
      have L6 : upd H5 s1a (.lst us1) s1a = some (.lst us1) := upd_same
      generalize upd H5 s1a (.lst us1) = H6 at b1 ru6 L6
      generalize hms : (candN I J).filter (inN ls rs) = ms at ru6 ub ul
      -- those in the spots
      refine ⟨_, rfl, s1a, rfl, ⟨_, SqL.of L6⟩, lc_list (K := K) (a := s1a) (xs := us1) (fun j zs H' => Reps K H' (((ms.take j).filter (fun m => backN ls rs g m.2.1 m.2.2)).map t3D) zs ∧ Same H6 H') ⟨rfl, Same.refl _⟩ (fun j zs H' ⟨_, s'⟩ => SqL.of (s' _ _ L6)) ?_ ?_⟩
      · rintro j x zs H7 hx ⟨rz, s7⟩
        obtain ⟨d0, e1, r1⟩ := (ru6.same s7).get hx
        rw [List.getElem?_map] at e1
        obtain ⟨m, em, rfl⟩ := Option.map_eq_some_iff.mp e1
        obtain ⟨c, rfl, hc⟩ := t3_open r1
        have zl := rz.len
        rw [List.length_map] at zl
        have zb : ((ms.take j).filter (fun m => backN ls rs g m.2.1 m.2.2)).length ≤ 3 := Nat.le_trans (List.length_filter_le _ _) (by rw [List.length_take]; omega)
        refine ⟨rfl, ⟨_, rfl, _, rfl, c, _, rfl, hc, (show ¬ (HT.sIx 3 0 (some 1) = 0 ∧ HT.sIx 3 3 none = 3) by decide), fun t4 h4 => ?_⟩⟩
        have u8 := same_upd (o := .tup (cutV [.str m.1, .int (m.2.1 : Int), .int (m.2.2 : Int)] (some 1) none)) h4
        have T8 : upd H7 t4 (.tup (cutV [.str m.1, .int (m.2.1 : Int), .int (m.2.2 : Int)] (some 1) none)) t4 = some (.tup ((kyN m.2.1 m.2.2).map kV)) := upd_same
        generalize upd H7 t4 (.tup (cutV [.str m.1, .int (m.2.1 : Int), .int (m.2.2 : Int)] (some 1) none)) = H8 at u8 T8
        refine ⟨_, rfl, d, _, rfl, DGet.t (u8 _ _ (s7 _ _ (b1 _ _ D3))) T8, _, rfl, ?_⟩
        rw [tb]
        refine ite2 (fun c1 => ⟨_, rfl, by omega, ?_, s7.trans u8⟩) (fun c1 => ⟨?_, s7.trans u8⟩)
        · rw [flt_snoc em, if_pos c1, List.map_append]
          exact Reps.snoc (r1.same u8) (rz.same u8)
        · rw [flt_snoc em, if_neg c1, List.append_nil]
          exact rz.same u8
      rintro us2 H7 ⟨ru2, s7⟩
      have el : ms.take us1.length = ms := by rw [ul, List.take_length]
      rw [el] at ru2
      have ul2 := ru2.len
      rw [List.length_map] at ul2
      have ub2 : (ms.filter (fun m => backN ls rs g m.2.1 m.2.2)).length ≤ 3 := Nat.le_trans (List.length_filter_le _ _) ub
      refine ⟨by omega, fun s2a hs2a => ?_⟩
      have b2 := b1.trans (s7.trans (same_upd (o := .lst us2) hs2a))
      have ru8 := ru2.same (same_upd (o := .lst us2) hs2a)
      have L8 : upd H7 s2a (.lst us2) s2a = some (.lst us2) := upd_same
      have L68 := (s7.trans (same_upd (o := .lst us2) hs2a)) _ _ L6
      have ru68 := ru6.same (s7.trans (same_upd (o := .lst us2) hs2a))
      generalize upd H7 s2a (.lst us2) = H8 at b2 ru8 L8 L68 ru68
      -- no spots
      refine ⟨fun σ' H' => ∃ (gp : Addr) (us : List V) (gs : List (Str × Nat × Nat)), σ' = [some (.ref b), some (.ref l), some (.ref r), some (.int g), some (.ref d), some (.int (I : Int)), some (.int (J : Int)), some (.ref q), some (.int (0 + (i : Int))), some (.ref s1a), some (.ref gp), v11] ∧ Same H3 H' ∧ H' gp = some (.lst us) ∧ Reps K H' (gs.map t3D) us ∧ gs.length ≤ 3 ∧ (∀ m ∈ gs, m ∈ candN I J) ∧ (kvs ≠ [] → gs = ms.filter (fun m => backN ls rs g m.2.1 m.2.2)), ?_, ?_⟩
      · refine ⟨_, rfl, fun e he => ⟨d, e, kvs, rfl, rfl, (same_upd he) _ _ (b2 _ _ D3), upd_same, _, rfl, ?_⟩⟩
        have b3 := b2.trans (same_upd (o := .dT []) he)
        have L9 := (same_upd (o := .dT []) he) _ _ L68
        have L9' := (same_upd (o := .dT []) he) _ _ L8
        have ru9 := ru68.same (same_upd (o := .dT []) he)
        have ru9' := ru8.same (same_upd (o := .dT []) he)
        generalize upd H8 e (.dT []) = H9 at b3 L9 L9' ru9 ru9'
        refine ite2 (fun c1 => ?_) (fun c1 => ⟨s2a, us2, _, rfl, b3, L9', ru9', ub2, fun m hm => (List.mem_filter.mp (hms ▸ (List.mem_filter.mp hm).1 : m ∈ (candN I J).filter (inN ls rs))).1, fun _ => rfl⟩)
        have ek : kvs = [] := by cases kvs with | nil => rfl | cons _ _ => cases c1
        refine ⟨_, rfl, s1a, rfl, ⟨_, SqL.of L9⟩, lc_list (K := K) (a := s1a) (xs := us1) (fun j zs H' => (∃ gs, Reps K H' (gs.map t3D) zs ∧ gs.length ≤ j ∧ ∀ m ∈ gs, m ∈ ms) ∧ Same H9 H') ⟨⟨[], (show Reps K H9 (([] : List (Str × Nat × Nat)).map t3D) [] from rfl), Nat.le_refl _, (fun m hm => nomatch hm)⟩, Same.refl _⟩ (fun j zs H' ⟨_, s'⟩ => SqL.of (s' _ _ L9)) ?_ ?_⟩
        · rintro j x zs Ha hx ⟨⟨gs, rz, gl, gm⟩, sa⟩
          obtain ⟨d0, e1, r1⟩ := (ru9.same sa).get hx
          rw [List.getElem?_map] at e1
          obtain ⟨m, em, rfl⟩ := Option.map_eq_some_iff.mp e1
          obtain ⟨c, rfl, hc⟩ := t3_open r1
          have hj : j < ms.length := (List.getElem?_eq_some_iff.mp em).1
          have zl := rz.len
          rw [List.length_map] at zl
          have mi : inN ls rs m = true := (List.mem_filter.mp (hms ▸ List.mem_of_getElem? em : m ∈ (candN I J).filter (inN ls rs))).2
          unfold inN at mi
          rw [Bool.and_eq_true] at mi
          have m1 : m.2.1 < ls.length := of_decide_eq_true mi.1
          have m2 : m.2.2 < rs.length := of_decide_eq_true mi.2
          refine ⟨rfl, ⟨_, rfl, _, rfl, c, _, _, _, rfl, rfl, hc, rfl, l, _, _, _, rfl, rfl, SqL.of (sa _ _ (b3 _ _ L3)), at_ints m1, _, rfl, _, _, rfl, rfl, _, rfl, _, rfl, c, _, _, _, rfl, rfl, hc, rfl, r, _, _, _, rfl, rfl, SqL.of (sa _ _ (b3 _ _ R3)), at_ints m2, _, _, rfl, rfl, _, rfl, ite2 (fun c2 => ?_) (fun c2 => ⟨⟨gs, rz, by omega, gm⟩, sa⟩)⟩⟩
          refine ⟨_, rfl, by omega, ⟨gs ++ [m], by rw [List.map_append]; exact Reps.snoc r1 rz, by rw [List.length_append]; exact Nat.succ_le_succ gl, fun m' hm' => ?_⟩, sa⟩
          rcases List.mem_append.mp hm' with z | z
          · exact gm m' z
          · rw [List.mem_singleton.mp z]; exact List.mem_of_getElem? em
        · rintro zs Ha ⟨⟨gs, rz, gl, gm⟩, sa⟩
          have zl := rz.len
          rw [List.length_map] at zl
          refine ⟨by omega, fun gp hgp => ⟨gp, zs, gs, rfl, b3.trans (sa.trans (same_upd hgp)), upd_same, rz.same (same_upd hgp), by omega, fun m hm => (List.mem_filter.mp (hms ▸ gm m hm : m ∈ (candN I J).filter (inN ls rs))).1, fun z => absurd ek z⟩⟩
      rintro σ' H9 ⟨gp, us, gs, rfl, s9, G9, R9, gb, gm, gk⟩
      have gl := R9.len
      rw [List.length_map] at gl
      have ne : backN ls rs g 0 0 = true → kvs ≠ [] := fun e z => by
        have := tb 0 0
        rw [z, e] at this
        cases this
      have S9 := S3.trans (SameB.of s9)
      refine ⟨_, rfl, le0, fun q0 hq0 => ⟨gp, q0, us, rfl, rfl, SqL.of ((same_upd hq0) _ _ G9), SqL.of upd_same, _, rfl, ite2 (fun c1 => ?_) (fun c1 => ?_)⟩⟩
      · have gn : gs = [] := by
          cases gs with
          | nil => rfl
          | cons _ _ =>
            cases us with
            | nil => simp at gl
            | cons _ _ => cases c1
        refine ⟨_, rfl, k q ws _ (S9.new hq0) ((((B3.same s9).new hq0)).mono (by omega)) nqb NQ ((same_upd hq0) _ _ (s9 _ _ Q3)) (by omega) ww fun e => ?_⟩
        obtain ⟨w1, w2⟩ := wk e
        rw [w1]
        refine congrArg some (back_end w2 ?_)
        rw [hms, ← gk (ne e)]
        exact gn
      have gp0 : 0 < us.length := by
        cases us with
        | nil => exact absurd rfl c1
        | cons _ _ => exact Nat.succ_pos _
      have G10 := (same_upd (o := .lst []) hq0) _ _ G9
      have R10 := R9.same (same_upd (o := .lst []) hq0)
      have S10 := S9.new (o := .lst []) hq0
      have B10 := (B3.same s9).new (o := .lst []) hq0
      have Q10 := (same_upd (o := .lst []) hq0) _ _ (s9 _ _ Q3)
      have D10 := (same_upd (o := .lst []) hq0) _ _ (s9 _ _ D3)
      generalize upd H9 q0 (.lst []) = H10 at G10 R10 S10 B10 Q10 D10
      have ngb : gp ≠ b := fun z => by
        obtain ⟨b0, b1', b2', eb, _⟩ := B10
        rw [z, eb] at G10
        injection G10 with G10
        injection G10 with G10
        cases gs with
        | nil => rw [show us = [] from R10] at gp0; exact absurd gp0 (by decide)
        | cons m gs' =>
          obtain ⟨v, rr, e, hv, _⟩ := R10
          obtain ⟨c, rfl, _⟩ := t3_open hv
          rw [e] at G10
          cases G10
      refine ⟨_, rfl, _, rfl, _, rfl, gp, us, rfl, .inl (SqL.of G10), b, _, _, rfl, B10, by omega, by omega, by omega, fun x H11 x0 x1 B11 S11 => ?_⟩
      have G11 := S11 _ _ G10 ngb
      have Q11 := S11 _ _ Q10 nqb
      have D11 := S11 _ _ D10 ndb
      have T11 := SameT.draw B10 S11
      have R11 := R10.keep T11 (t3s_imm _)
      obtain ⟨v, ev, ev'⟩ := atI_in (xs := us) x0 x1
      obtain ⟨d0, e1, r1⟩ := R11.get ev'
      rw [List.getElem?_map] at e1
      obtain ⟨m, em, rfl⟩ := Option.map_eq_some_iff.mp e1
      obtain ⟨c, rfl, hc⟩ := t3_open r1
      have hm := List.mem_of_getElem? em
      have mc := gm m hm
      refine ⟨gp, us, x, _, rfl, rfl, SqL.of G11, ev, c, _, rfl, hc, rfl, _, _, rfl, _, _, rfl, _, _, rfl, rfl, ?_⟩
      refine ⟨_, rfl, .inl ⟨rfl, _, SqL.of Q11⟩, _, rfl, q, _, _, rfl, rfl, Q11, by rw [List.length_map]; omega, ?_⟩
      refine ⟨_, _, _, _, m.2.1, m.2.2, ws ++ [m.1], rfl, (S10.trans S11).put NQ, (B11.other nqb).mono (by omega), ?_, by rw [upd_same, List.map_append]; rfl, by rw [List.length_append, wl]; rfl, ?_, fun y hy => ?_, fun e => ?_⟩
      · rw [upd_ne (ne_of D11 Q11 (by intro z; cases z))]
        exact D11
      · unfold candN at mc
        simp only [List.mem_cons, List.not_mem_nil, or_false] at mc
        rcases mc with rfl | rfl | rfl <;> simp only <;> omega
      · rcases List.mem_append.mp hy with z | z
        · exact ww y z
        · rw [List.mem_singleton.mp z]
          unfold candN at mc
          simp only [List.mem_cons, List.not_mem_nil, or_false] at mc
          rcases mc with rfl | rfl | rfl
          · exact .inl rfl
          · exact .inr (.inl rfl)
          · exact .inr (.inr rfl)
      · obtain ⟨w1, w2⟩ := wk e
        have hb : backN ls rs g m.2.1 m.2.2 = true := by
          have := hm
          rw [gk (ne e)] at this
          exact (List.mem_filter.mp this).2
        refine ⟨?_, hb⟩
        rw [List.map_append, walk_app, w1]
        show (goalN (.str m.1) (movesN ls rs g I J)).bind (fun p' => walkN ls rs g p' []) = _
        rw [cand_goal mc hb]
        rfl
    · rintro σ H3 ⟨v8, v9, v10, v11, I, J, ws, rfl, S3, B3, D3, Q3, wl, wij, ww, wk⟩
      rw [eN] at B3 wl wij
      refine ⟨_, rfl, k q ws H3 S3 (B3.mono (by omega)) nqb NQ Q3 (by omega) ww fun e => ?_⟩
      obtain ⟨w1, w2⟩ := wk e
      obtain ⟨h1, h2, _⟩ := back_ok w2
      omega
end
end L2

set_option Elab.async false
set_option linter.all false
set_option maxRecDepth 100000
set_option maxHeartbeats 4000000
namespace L2
open PySem PySem.Spec PyProof.Rows
theorem blks_app : ∀ a b : List Dat, Dat.blks (a ++ b) = Dat.blks a + Dat.blks b
  | [], b => by show Dat.blks b = 0 + Dat.blks b; omega
  | d :: a, b => by
    have := blks_app a b
    show d.blk + 1 + Dat.blks (a ++ b) = d.blk + 1 + Dat.blks a + Dat.blks b
    omega
theorem gds_app {k : Nat} : ∀ {a b : List Dat}, Dat.gds k a = true → Dat.gds k b = true → Dat.gds k (a ++ b) = true
  | [], _, _, h => h
  | d :: a, b, h, h' => by
    have e : (d.gd k && Dat.gds k a) = true := h
    rw [Bool.and_eq_true] at e
    show (d.gd k && Dat.gds k (a ++ b)) = true
    rw [e.1, gds_app e.2 h']; rfl
theorem gds_parts {k : Nat} : ∀ {a b : List Dat}, Dat.gds k (a ++ b) = true → Dat.gds k a = true ∧ Dat.gds k b = true
  | [], _, h => ⟨rfl, h⟩
  | d :: a, b, h => by
    have e : (d.gd k && Dat.gds k (a ++ b)) = true := h
    rw [Bool.and_eq_true] at e
    obtain ⟨h1, h2⟩ := gds_parts e.2
    refine ⟨?_, h2⟩
    show (d.gd k && Dat.gds k a) = true
    rw [e.1, h1]; rfl
theorem deps_app : ∀ a b : List Dat, PyData.depthAll (Dat.pys (a ++ b)) = max (PyData.depthAll (Dat.pys a)) (PyData.depthAll (Dat.pys b))
  | [], b => by show PyData.depthAll (Dat.pys b) = max 0 (PyData.depthAll (Dat.pys b)); omega
  | d :: a, b => by
    have := deps_app a b
    show max d.py.depth (PyData.depthAll (Dat.pys (a ++ b))) = max (max d.py.depth (PyData.depthAll (Dat.pys a))) (PyData.depthAll (Dat.pys b))
    omega
section
variable {P : Program} {w : World} {K : PySem.W.Frag} {mg : Str → Option Value} {base : Heap}
def GL (K : PySem.W.Frag) (F : Hp) (k z D : Nat) (xs : List V) : Prop := ∃ ds, Reps K F ds xs ∧ Dat.gds k ds = true ∧ Dat.blks ds ≤ z ∧ PyData.depthAll (Dat.pys ds) ≤ D
theorem GL.up {F F' : Hp} {k z D k' z' D' : Nat} {xs : List V} (h : GL K F k z D xs) (s : Same F F') (h1 : k ≤ k') (h2 : z ≤ z') (h3 : D ≤ D') : GL K F' k' z' D' xs := let ⟨ds, r, g, b, p⟩ := h; ⟨ds, r.same s, Dat.gds_up h1 g, Nat.le_trans b h2, Nat.le_trans p h3⟩
theorem Reps.parts {H : Hp} : ∀ {ds : List Dat} {xs ys : List V}, Reps K H ds (xs ++ ys) → ∃ d1 d2, ds = d1 ++ d2 ∧ Reps K H d1 xs ∧ Reps K H d2 ys
  | ds, [], ys, h => ⟨[], ds, rfl, rfl, h⟩
  | [], x :: xs, ys, h => by cases (show x :: (xs ++ ys) = [] from h)
  | d :: ds, x :: xs, ys, h => by
    obtain ⟨v, r, e, h1, h2⟩ := h
    cases e
    obtain ⟨d1, d2, rfl, r1, r2⟩ := Reps.parts (xs := xs) (ys := ys) h2
    exact ⟨d :: d1, d2, rfl, ⟨_, _, rfl, h1, r1⟩, r2⟩
theorem GL.parts {F : Hp} {k z D : Nat} {xs ys : List V} (h : GL K F k z D (xs ++ ys)) : ∃ z1 z2, z1 + z2 = z ∧ GL K F k z1 D xs ∧ GL K F k z2 D ys := by
  obtain ⟨ds, r, g, b, p⟩ := h
  obtain ⟨d1, d2, rfl, r1, r2⟩ := Reps.parts r
  obtain ⟨g1, g2⟩ := gds_parts g
  rw [blks_app] at b
  rw [deps_app] at p
  exact ⟨Dat.blks d1, z - Dat.blks d1, by omega, ⟨d1, r1, g1, Nat.le_refl _, by omega⟩, ⟨d2, r2, g2, by omega, by omega⟩⟩
theorem GL.app {F : Hp} {k z1 z2 D : Nat} {xs ys : List V} (h : GL K F k z1 D xs) (h' : GL K F k z2 D ys) : GL K F k (z1 + z2) D (xs ++ ys) := by
  obtain ⟨d1, r1, g1, b1, p1⟩ := h
  obtain ⟨d2, r2, g2, b2, p2⟩ := h'
  exact ⟨d1 ++ d2, Reps.app r1 r2, gds_app g1 g2, by rw [blks_app]; omega, by rw [deps_app]; omega⟩
theorem GL.one {F : Hp} {k z D : Nat} {v : V} (h : DS K F k z D v) : GL K F k (z + 1) D [v] := by
  obtain ⟨d, r, g, b, p⟩ := h
  refine ⟨[d], ⟨v, [], rfl, r, rfl⟩, ?_, ?_, ?_⟩
  · show (d.gd k && true) = true
    rw [g]; rfl
  · show d.blk + 1 + 0 ≤ _
    omega
  · show max d.py.depth 0 ≤ D
    omega
theorem GL.nil {F : Hp} {k z D : Nat} : GL K F k z D [] := ⟨[], rfl, rfl, Nat.zero_le _, Nat.zero_le _⟩
theorem GL.take {F : Hp} {k z D : Nat} {xs : List V} (n : Nat) (h : GL K F k z D xs) : GL K F k z D (xs.take n) := by
  rw [← List.take_append_drop n xs] at h
  obtain ⟨z1, z2, e, h1, _⟩ := h.parts
  exact h1.up (Same.refl _) (Nat.le_refl _) (by omega) (Nat.le_refl _)
theorem GL.drop {F : Hp} {k z D : Nat} {xs : List V} (n : Nat) (h : GL K F k z D xs) : GL K F k z D (xs.drop n) := by
  rw [← List.take_append_drop n xs] at h
  obtain ⟨z1, z2, e, _, h2⟩ := h.parts
  exact h2.up (Same.refl _) (Nat.le_refl _) (by omega) (Nat.le_refl _)
theorem GL.cut {F : Hp} {k z D : Nat} {xs : List V} (lo hi : Option Int) (h : GL K F k z D xs) : GL K F k z D (cutV xs lo hi) := by
  unfold cutV
  first | exact (h.drop _).take _ | exact (h.take _).drop _
theorem GL.lst {F : Hp} {k z D : Nat} {a : Addr} {xs : List V} (q : SqL K F a xs) (h : GL K F k z D xs) : DS K F k z (D + 1) (.ref a) := by
  obtain ⟨ds, r, g, b, p⟩ := h
  refine ⟨.lst ds, ⟨a, xs, rfl, q, r⟩, g, b, ?_⟩
  show PyData.depth (.list (Dat.pys ds)) ≤ _
  simp only [PyData.depth]
  omega
theorem GL.tup {F : Hp} {k z D : Nat} {a : Addr} {xs : List V} (q : SqT K F a xs) (h : GL K F k z D xs) : DS K F k z (D + 1) (.ref a) := by
  obtain ⟨ds, r, g, b, p⟩ := h
  refine ⟨.tup ds, ⟨a, xs, rfl, q, r⟩, g, b, ?_⟩
  show PyData.depth (.tuple (Dat.pys ds)) ≤ _
  simp only [PyData.depth]
  omega
theorem GL.all {F : Hp} {k z D : Nat} {xs : List V} (h : GL K F k z D xs) : xs.length ≤ z ∧ ∀ x ∈ xs, DS K F k z D x := by
  obtain ⟨ds, r, g, b, p⟩ := h
  obtain ⟨l, al⟩ := all_of r g b p
  exact ⟨l, fun x hx => (al x hx).up (Same.refl _) (Nat.le_refl _) (by omega) (Nat.le_refl _)⟩
theorem GL.some {F : Hp} {k z D : Nat} {xs zs : List V} (h : GL K F k z D xs) (m : ∀ y ∈ zs, y ∈ xs) : GL K F k ((z + 1) * zs.length) D zs := rows_of fun y hy => h.all.2 y (m y hy)
theorem GL.rev {F : Hp} {k z D : Nat} : ∀ {xs : List V}, GL K F k z D xs → GL K F k z D xs.reverse := by
  intro xs
  induction xs generalizing z with
  | nil => exact id
  | cons x xs ih =>
    intro h
    obtain ⟨z1, z2, e, h1, h2⟩ := GL.parts (xs := [x]) (ys := xs) h
    rw [List.reverse_cons]
    exact ((ih h2).app h1).up (Same.refl _) (Nat.le_refl _) (by omega) (Nat.le_refl _)
end
end L2

set_option Elab.async false
set_option linter.all false
set_option maxRecDepth 100000
set_option maxHeartbeats 4000000
namespace L2
open PySem PySem.Spec PyProof.Rows
section
variable {P : Program} {w : World} {K : PySem.W.Frag} {mg : Str → Option Value} {base : Heap}
def spORowA (K : PySem.W.Frag) : Sp := fun vs H Q _ => ∃ (b a : Addr) (t : Bool) (xs : List V) (n : Int) (k z D : Nat) (ex : List Addr), vs = [.ref b, .ref a] ∧ BoxAt H b n ∧ n < 1099511000000 ∧ Ex H b ex ∧ SqQ K (WX ex H) t a xs ∧ GL K (WX ex H) k z D xs ∧ z ≤ 50000 ∧ 3 ≤ D ∧
  ∀ v H', SameB b H H' → BoxAt H' b (n + 3) → DS K (WX ex H') k (4 * z + 20) (D + 1) v → Q v H'
theorem scORowA : FnScope ["_law_box_here", "_law_thing", "_law_draw", "_law_at", "_law_some"] ["_law_box_here", "_law_thing"] (defScope (topL 14)) := ⟨rfl, rfl, rfl, by decide +kernel, rfl, by decide +kernel, by decide +kernel⟩
theorem ok_orowA {f : Addr} {fd : FuncData} (F : Fun K "_law_other_row" "_law_other_row" (topL 14) f fd) (B : Blt mg) (D_take : Dfn P w K mg base "_law_take" 1 ["_law_box_here", "_law_size"] spTake) (D_odd : Dfn P w K mg base "_law_odd" 2 ["_law_box_here"] (spOdd K)) : FnOk P w K mg base CX0 3 f fd ["_law_box_here", "_law_thing"] (spORowA K) := by
  have nd := scORowA.nd
  refine F.ok scORowA (fun vs H Q E h => ?_) (fun cdv A outer s H vs Q E hr h => ?_)
  · obtain ⟨b, a, t, xs, n, k, z, D, ex, rfl, _⟩ := h
    rfl
  · obtain ⟨b, a, t, xs, n, k', z, D, ex, rfl, B0, hn, E0, hq, gl0, hz1, hD, k⟩ := h
    have hxl := gl0.all.1
    have hbig : 100000 < sizeLine := by rw [sizeLine_eq]; decide
    have e62 : (2 : Int) ^ 62 = 4611686018427387904 := by decide
    have sq : ∀ H', SameB b H H' → SqQ K H' t a xs := fun H' s => hq.same ((WX.draw E0.mem s).trans WX.le)
    have old : ∀ H', SameB b H H' → GL K (WX ex H') k' z D xs := fun H' s => gl0.up (WX.draw E0.mem s) (Nat.le_refl _) (Nat.le_refl _) (Nat.le_refl _)
    have grow : ∀ {F : Hp} {m : Nat} {ys : List V}, GL K F k' m D ys → m ≤ 4 * z + 20 → GL K F k' (4 * z + 20) D ys := fun h l => h.up (Same.refl _) (Nat.le_refl _) l (Nat.le_refl _)
    refine ⟨_, (pss_cons (ps_par (i := 2) (j := 3) rfl nd rfl rfl (by decide) rfl rfl (pa_cons (pe_callD D_take (hr.mono (by first | decide | exact Nat.le_refl _ | omega)) rfl (pa_cons (pv 0) (pa_cons pe_int pa_nil))) (pa_cons (pe_callD D_take (hr.mono (by first | decide | exact Nat.le_refl _ | omega)) rfl (pa_cons (pv 0) (pa_cons (pe_op op_add (pe_callB call_len_seq rfl B.len boot_len (pa_cons (pv 1) pa_nil)) pe_int) pa_nil))) pa_nil)) (by rfl))
      (pss_cons (ps_set (i := 4) nd rfl (Or.inl rfl) (pe_callTy call_list_of rfl B.list boot_list (pa_cons (pv 1) pa_nil)))
      (pss_cons (ps_weak (ps_if (pt_cmpR op_eq (pv 2) pe_int (nomark _))
      (pss_one (ps_set (i := 4) nd rfl (Or.inl rfl) (pe_op op_cat (pe_slice sl_list (pv 4) po_none (po_some (pv 3))) (pe_slice sl_list (pv 4) (po_some (pe_op op_add (pv 3) pe_int)) po_none))))
      (pss_one (ps_if (pt_cmpR op_eq (pv 2) pe_int (nomark _))
        (pss_one (ps_set (i := 4) nd rfl (Or.inl rfl) (pe_op op_cat (pe_op op_cat (pe_slice sl_list (pv 4) po_none (po_some (pv 3))) (pe_slice sl_list (pv 4) (po_some (pv 3)) (po_some (pe_op op_add (pv 3) pe_int)))) (pe_slice sl_list (pv 4) (po_some (pv 3)) po_none))))
        (pss_one (ps_if (pt_cmpR op_eq (pv 2) pe_int (nomark _))
          (pss_one (ps_expr (pe_bm PySem.F.plainAttrs_list PySem.F.slot_list_insert PySem.F.type_list_insert mt_insert (pv 4) (pa_cons (pv 3) (pa_cons (pe_callD D_odd (hr.mono (by first | decide | exact Nat.le_refl _ | omega)) rfl (pa_cons (pv 0) pa_nil)) pa_nil)))))
          (pss_one (ps_if (pt_cmpR op_eq (pv 2) pe_int (nomark _))
            (pss_one (ps_set (i := 4) nd rfl (Or.inl rfl) (pe_op op_cat (pe_op op_cat (pe_slice sl_list (pv 4) po_none (po_some (pv 3))) (pe_sliceK (pe_slice sl_list (pv 4) (po_some (pv 3)) (po_some (pe_op op_add (pv 3) pe_int))) (po_some (pe_un un_neg pe_int)))) (pe_slice sl_list (pv 4) (po_some (pe_op op_add (pv 3) pe_int)) po_none))))
            (pss_one (ps_if (pt_cmpR op_eq (pv 2) pe_int (nomark _))
              (pss_one (ps_expr (pe_bm0 PySem.F.plainAttrs_list PySem.F.slot_list_reverse PySem.F.type_list_reverse mt_reverse (pv 4))))
              (pss_one (ps_ret (pe_ifExp (pt_val (pe_callB call_isi rfl B.isinstance boot_isinstance (pa_cons (pv 1) (pa_cons (pe_bltn (v := .ty "list") rfl B.list boot_list rfl) pa_nil)))) (pe_callTy call_tuple_of rfl B.tuple boot_tuple (pa_cons (pv 1) pa_nil)) (pv 4))))))))))))))
      (pss_one (ps_ret (pe_ifExp (pt_val (pe_callB call_isi rfl B.isinstance boot_isinstance (pa_cons (pv 1) (pa_cons (pe_bltn (v := .ty "list") rfl B.list boot_list rfl) pa_nil)))) (pv 4) (pe_callTy call_tuple_of rfl B.tuple boot_tuple (pa_cons (pv 4) pa_nil)))))))), ?_⟩
    refine ⟨_, rfl, b, 6, n, rfl, B0, by omega, by decide, by decide, fun way H1 w0 w1 B1 S1 => ⟨_, rfl, _, rfl, a, xs, rfl, (sq _ S1).or, _, _, rfl, rfl, b, _, n + 1, rfl, B1, by omega, by omega, by omega, fun q H2 q0 q1 B2 S2 => ⟨_, _, rfl, ?_⟩⟩⟩
    have S2' := S1.trans S2
    obtain ⟨q, rfl⟩ : ∃ q' : Nat, q = (q' : Int) := ⟨q.toNat, by omega⟩
    refine ⟨_, rfl, a, xs, rfl, (sq _ S2').or, fun m hm => ?_⟩
    have E2 := E0.next S2' B2
    have mH : H m = none := S2'.none hm (B2.nne hm)
    have mb := B2.nne hm
    have mx := E2.out hm
    have S3 := S2'.new (o := .lst xs) hm
    have B3 := B2.new (o := .lst xs) hm
    have E3 := E2.same (same_upd (o := .lst xs) hm)
    have f3 : upd H2 m (.lst xs) m = some (.lst xs) := upd_same
    generalize upd H2 m (.lst xs) = H3 at S3 B3 E3 f3
    clear S1 S2 B1 B2 E2 hm
    refine ⟨fun σ' H' => ∃ (p : Addr) (ys : List V), σ' = [some (.ref b), some (.ref a), some (.int way), some (.int q), some (.ref p)] ∧ SameB b H H' ∧ BoxAt H' b (n + 3) ∧ p ∉ ex ∧ H' p = some (.lst ys) ∧ GL K (WX ex H') k' (4 * z + 20) D ys, ?_, ?_⟩
    · have mem : ∀ {lo hi : Option Int} {y : V}, y ∈ cutV xs lo hi → y ∈ xs := fun h => cutV_mem h
      refine ⟨_, rfl, rfl, _, rfl, ite2 (fun c0 => ?_) (fun c0 => ⟨_, rfl, rfl, _, rfl, ite2 (fun c1 => ?_) (fun c1 => ⟨_, rfl, rfl, _, rfl, ite2 (fun c2 => ?_) (fun c2 => ⟨_, rfl, rfl, _, rfl, ite2 (fun c3 => ?_) (fun c3 => ⟨_, rfl, rfl, _, rfl, ite2 (fun c4 => ?_) (fun c4 => ?_)⟩)⟩)⟩)⟩)⟩
      · refine ⟨_, rfl, _, rfl, _, rfl, m, xs, rfl, SqL.of f3, fun p1 h1 => ?_⟩
        refine ⟨_, rfl, _, rfl, _, _, rfl, rfl, _, rfl, m, xs, rfl, SqL.of ((same_upd h1) _ _ f3), fun p2 h2 => ?_⟩
        have l1 := cutL0 xs q
        have l2 : (cutV xs (some ((q : Int) + 1)) none).length ≤ xs.length - (q + 1) := cutL1 xs (q + 1)
        refine ⟨p1, p2, _, _, rfl, rfl, (same_upd h2) _ _ upd_same, upd_same, by omega, fun p3 h3 => ?_⟩
        refine ⟨p3, _, rfl, ((S3.new h1).new h2).new h3, (((B3.new h1).new h2).new h3).mono (by omega), ((E3.same (same_upd h1)).same (same_upd h2)).out h3, upd_same, grow (((old _ (((S3.new h1).new h2).new h3)).cut _ _).app ((old _ (((S3.new h1).new h2).new h3)).cut _ _)) (by omega)⟩
      · refine ⟨_, rfl, _, rfl, _, rfl, m, xs, rfl, SqL.of f3, fun p1 h1 => ?_⟩
        refine ⟨_, rfl, _, rfl, _, rfl, _, rfl, _, _, rfl, rfl, _, rfl, m, xs, rfl, SqL.of ((same_upd h1) _ _ f3), fun p2 h2 => ?_⟩
        have l1 := cutL0 xs q
        have l2 : (cutV xs (some (q : Int)) (some ((q : Int) + 1))).length ≤ (q + 1) - q := (cutL2 xs q (q + 1)).1
        have l3 := cutL1 xs q
        refine ⟨p1, p2, _, _, rfl, rfl, (same_upd h2) _ _ upd_same, upd_same, by omega, fun p3 h3 => ?_⟩
        refine ⟨_, rfl, _, rfl, _, rfl, m, xs, rfl, SqL.of ((((same_upd h1).trans (same_upd h2)).trans (same_upd h3)) _ _ f3), fun p4 h4 => ?_⟩
        refine ⟨p3, p4, _, _, rfl, rfl, (same_upd h4) _ _ upd_same, upd_same, by rw [List.length_append]; omega, fun p5 h5 => ?_⟩
        refine ⟨p5, _, rfl, ((((S3.new h1).new h2).new h3).new h4).new h5, (((((B3.new h1).new h2).new h3).new h4).new h5).mono (by omega), ((((E3.same (same_upd h1)).same (same_upd h2)).same (same_upd h3)).same (same_upd h4)).out h5, upd_same, grow ((((old _ (((((S3.new h1).new h2).new h3).new h4).new h5)).cut _ _).app ((old _ (((((S3.new h1).new h2).new h3).new h4).new h5)).cut _ _)).app ((old _ (((((S3.new h1).new h2).new h3).new h4).new h5)).cut _ _)) (by omega)⟩
      · refine ⟨_, rfl, .inl ⟨rfl, _, SqL.of f3⟩, _, rfl, _, rfl, b, n + 1 + 1, m :: ex, rfl, B3, by omega, E3.cons f3, fun v H4 S4 B4 dv => ?_⟩
        have f4 := S4 m _ f3 mb
        refine ⟨m, xs, q, v, rfl, rfl, f4, q0, by rw [e62]; omega, by omega, ?_⟩
        have S5 := (S3.trans S4).put (o := .lst (xs.take (q : Int).toNat ++ v :: xs.drop (q : Int).toNat)) mH
        refine ⟨m, _, rfl, S5, (B4.other mb).mono (by omega), mx, upd_same, grow (((old _ S5).take _).app ((GL.one (dv.up ((WX.put List.mem_cons_self).trans WX.cons) (Nat.zero_le _) (Nat.le_refl 10) hD)).app ((old _ S5).drop _))) (by omega)⟩
      · refine ⟨_, rfl, _, rfl, _, rfl, m, xs, rfl, SqL.of f3, fun p1 h1 => ?_⟩
        refine ⟨_, rfl, _, rfl, _, rfl, _, rfl, _, _, rfl, rfl, _, rfl, m, xs, rfl, SqL.of ((same_upd h1) _ _ f3), fun p2 h2 => ?_⟩
        have l1 := cutL0 xs q
        have l2 : (cutV xs (some (q : Int)) (some ((q : Int) + 2))).length ≤ (q + 2) - q ∧ (cutV xs (some (q : Int)) (some ((q : Int) + 2))).length ≤ xs.length - q := cutL2 xs q (q + 2)
        have l3 : (cutV xs (some ((q : Int) + 2)) none).length ≤ xs.length - (q + 2) := cutL1 xs (q + 2)
        refine ⟨_, rfl, _, rfl, p2, _, rfl, (by decide), SqL.of upd_same, fun zs p3 zm zl h3 => ?_⟩
        refine ⟨p1, p3, _, _, rfl, rfl, ((same_upd h2).trans (same_upd h3)) _ _ upd_same, upd_same, by omega, fun p4 h4 => ?_⟩
        refine ⟨_, rfl, _, rfl, _, _, rfl, rfl, _, rfl, m, xs, rfl, SqL.of (((((same_upd h1).trans (same_upd h2)).trans (same_upd h3)).trans (same_upd h4)) _ _ f3), fun p5 h5 => ?_⟩
        refine ⟨p4, p5, _, _, rfl, rfl, (same_upd h5) _ _ upd_same, upd_same, by rw [List.length_append]; omega, fun p6 h6 => ?_⟩
        refine ⟨p6, _, rfl, (((((S3.new h1).new h2).new h3).new h4).new h5).new h6, ((((((B3.new h1).new h2).new h3).new h4).new h5).new h6).mono (by omega), (((((E3.same (same_upd h1)).same (same_upd h2)).same (same_upd h3)).same (same_upd h4)).same (same_upd h5)).out h6, upd_same, grow ((((old _ ((((((S3.new h1).new h2).new h3).new h4).new h5).new h6)).cut _ _).app ((((old _ ((((((S3.new h1).new h2).new h3).new h4).new h5).new h6)).cut _ _).some zm).up (Same.refl _) (Nat.le_refl _) (show (z + 1) * zs.length ≤ 2 * z + 2 from Nat.le_trans (Nat.mul_le_mul (Nat.le_refl _) (show zs.length ≤ 2 by omega)) (by omega)) (Nat.le_refl _))).app ((old _ ((((((S3.new h1).new h2).new h3).new h4).new h5).new h6)).cut _ _)) (by omega)⟩
      · refine ⟨_, rfl, .inl ⟨rfl, _, SqL.of f3⟩, m, xs, rfl, rfl, f3, ?_⟩
        have S4 := S3.put (o := .lst xs.reverse) mH
        exact ⟨m, _, rfl, S4, (B3.other mb).mono (by omega), mx, upd_same, grow (old _ S4).rev (by omega)⟩
      · refine ⟨_, rfl, _, tyQ t, "list", rfl, (sq _ S3).ty, (by decide), _, rfl, ite2 (fun d => ⟨_, rfl, a, xs, rfl, ?_⟩) (fun d => ⟨_, rfl, ?_⟩)⟩
        · cases t with
          | false => exact .inl ⟨sq _ S3, fun p hp => k _ _ (S3.new hp) ((B3.new hp).mono (by omega)) (GL.tup (SqT.of (WX.at (E3.out hp) upd_same)) (grow (old _ (S3.new hp)) (by omega)))⟩
          | true => exact .inr ⟨sq _ S3, k _ H3 S3 (B3.mono (by omega)) (GL.tup (hq.same (WX.draw E0.mem S3)) (grow (old _ S3) (by omega)))⟩
        · exact k _ H3 S3 (B3.mono (by omega)) (GL.lst (SqL.of (WX.at mx f3)) (grow (old _ S3) (by omega)))
    · rintro σ' H4 ⟨p, ys, rfl, S4, B4, px, f4, yd⟩
      refine ⟨_, rfl, _, tyQ t, "list", rfl, (sq _ S4).ty, (by decide), _, rfl, ite2 (fun d => ⟨_, rfl, ?_⟩) (fun d => ⟨_, rfl, p, ys, rfl, .inl ⟨SqL.of f4, fun p' hp => ?_⟩⟩)⟩
      · exact k _ H4 S4 B4 (GL.lst (SqL.of (WX.at px f4)) yd)
      · have E4 := E0.next S4 B4
        exact k _ _ (S4.new hp) (B4.new hp) (GL.tup (SqT.of (WX.at (E4.out hp) upd_same)) (yd.up (WX.new hp) (Nat.le_refl _) (Nat.le_refl _) (Nat.le_refl _)))
end
end L2

set_option Elab.async false
set_option linter.all false
set_option maxRecDepth 100000
set_option maxHeartbeats 4000000
namespace L2
open PySem PySem.Spec PyProof.Rows
section
variable {P : Program} {w : World} {K : PySem.W.Frag} {mg : Str → Option Value} {base : Heap}
def spInstA (K : PySem.W.Frag) : Sp := fun vs H Q _ => ∃ (b : Addr) (v : V) (n : Int) (k z D : Nat) (ex : List Addr), vs = [.ref b, v] ∧ BoxAt H b n ∧ n < 1099510900000 ∧ Ex H b ex ∧ DS K (WX ex H) k z D v ∧ z ≤ 50000 ∧ k ≤ 100 ∧
  ∀ v' H', SameB b H H' → BoxAt H' b (n + 4) → DS K (WX ex H') (k + 1) (4 * z + 20) (D + 4) v' → Q v' H'
theorem scInstA : FnScope ["_law_box_here", "_law_thing"] ["_law_box_here", "_law_thing"] (defScope (topL 16)) := ⟨rfl, rfl, rfl, by decide +kernel, rfl, by decide +kernel, by decide +kernel⟩
theorem ok_instA {f : Addr} {fd : FuncData} (F : Fun K "_law_instead" "_law_instead" (topL 16) f fd) (B : Blt mg) (D_take : Dfn P w K mg base "_law_take" 1 ["_law_box_here", "_law_size"] spTake) (D_odd : Dfn P w K mg base "_law_odd" 2 ["_law_box_here"] (spOdd K)) (D_other_row : Dfn P w K mg base "_law_other_row" 3 ["_law_box_here", "_law_thing"] (spORowA K)) (D_is_number : Dfn P w K mg base "_law_is_number" 1 ["_law_thing"] (spIsNum K)) : FnOk P w K mg base CX0 4 f fd ["_law_box_here", "_law_thing"] (spInstA K) := by
  have nd := scInstA.nd
  refine F.ok scInstA (fun vs H Q E h => ?_) (fun cdv A outer s H vs Q E hr h => ?_)
  · obtain ⟨b, v, n, k, z, D, ex, rfl, _⟩ := h
    rfl
  · obtain ⟨b, v, n, k', z, D, ex, rfl, B0, hn, E0, dv, hz1, hk, k⟩ := h
    have hbig : 100000 < sizeLine := by rw [sizeLine_eq]; decide
    refine ⟨_, (pss_cons (ps_if (PW.pt (pw_and (pt_val (pe_callB call_isiT rfl B.isinstance boot_isinstance (pa_cons (pv 1) (pa_cons (pe_tup (pa_cons (pe_bltn (v := .ty "list") rfl B.list boot_list rfl) (pa_cons (pe_bltn (v := .ty "tuple") rfl B.tuple boot_tuple rfl) pa_nil))) pa_nil)))) (pw_and1 (pt_cmpR op_gt (pe_callD D_take (hr.mono (by first | decide | exact Nat.le_refl _ | omega)) rfl (pa_cons (pv 0) (pa_cons pe_int pa_nil))) pe_int (nomark _)))))
      (pss_one (ps_ret (pe_callD D_other_row (hr.mono (by first | decide | exact Nat.le_refl _ | omega)) rfl (pa_cons (pv 0) (pa_cons (pv 1) pa_nil)))))
      pss_nil)
      (pss_cons (ps_if (pt_val (pe_callD D_is_number (hr.mono (by first | decide | exact Nat.le_refl _ | omega)) rfl (pa_cons (pv 1) pa_nil)))
      (pss_one (ps_ret (pe_ix ix_list (pe_lst (pa6 (pe_op op_add (pv 1) pe_int) (pe_op op_sub (pv 1) pe_int) (pe_op op_sub pe_int (pv 1)) (pe_cmpR op_eq (pv 1) pe_int (nomark _)) (pe_callTy call_str_int rfl B.str boot_str (pa_cons (pv 1) pa_nil)) (pe_callD D_odd (hr.mono (by first | decide | exact Nat.le_refl _ | omega)) rfl (pa_cons (pv 0) pa_nil)))) (pe_callD D_take (hr.mono (by first | decide | exact Nat.le_refl _ | omega)) rfl (pa_cons (pv 0) (pa_cons pe_int pa_nil))) (fun _ _ => rfl))))
      pss_nil)
      (pss_one (ps_ret (pe_callD D_odd (hr.mono (by first | decide | exact Nat.le_refl _ | omega)) rfl (pa_cons (pv 0) pa_nil)))))), ?_⟩
    have odd : ∀ H1 (m : Int), SameB b H H1 → BoxAt H1 b m → m ≤ n + 1 → spOdd K [.ref b] H1 Q E := fun H1 m S1 B1 hm1 =>
      ⟨b, m, ex, rfl, B1, by omega, E0.next S1 B1, fun v' H' S' B' dv' => k v' H' (S1.trans S') (B'.mono (by omega)) (dv'.up (Same.refl _) (Nat.zero_le _) (by omega) (by omega))⟩
    have S0 := SameB.refl b H
    rcases dv.split2 with rfl | ⟨c, rfl⟩ | ⟨i, rfl, h⟩ | ⟨x, rfl⟩ | ⟨a, t, xs, ds, rfl, hq, rs, gs, bs, psd⟩
    · refine ⟨_, rfl, two_le, fun p hp => ⟨_, "NoneType", p, ["list", "tuple"], rfl, rfl, upd_same, (by decide), _, rfl, ifF (by decide) (ifF rfl ?_)⟩⟩
      exact ⟨_, rfl, _, k', z, D, rfl, DS.non, _, rfl, ifF rfl ⟨_, rfl, odd _ n (S0.new hp) (B0.new hp) (by omega)⟩⟩
    · refine ⟨_, rfl, two_le, fun p hp => ⟨_, "bool", p, ["list", "tuple"], rfl, rfl, upd_same, (by decide), _, rfl, ifF (by decide) (ifF rfl ?_)⟩⟩
      exact ⟨_, rfl, _, k', z, D, rfl, DS.bl c, _, rfl, ifF rfl ⟨_, rfl, odd _ n (S0.new hp) (B0.new hp) (by omega)⟩⟩
    · refine ⟨_, rfl, two_le, fun p hp => ⟨_, "int", p, ["list", "tuple"], rfl, rfl, upd_same, (by decide), _, rfl, ifF (by decide) (ifF rfl ?_)⟩⟩
      refine ⟨_, rfl, _, k', z, D, rfl, DS.int h, _, rfl, ifT rfl ?_⟩
      have hs : i.natAbs < 1000000000000 := by omega
      refine ⟨_, rfl, _, _, rfl, rfl, _, rfl, _, _, rfl, rfl, _, rfl, _, _, rfl, rfl, _, rfl, rfl, _, rfl, i, rfl, nat_log hs, ?_⟩
      refine ⟨_, rfl, b, n, ex, rfl, B0.new hp, by omega, E0.same (same_upd hp), fun v' H1 S1 B1 dv1 => ⟨leN (by show 6 ≤ 1000; decide), fun l hl => ?_⟩⟩
      refine ⟨_, rfl, b, 6, _, rfl, B1.new hl, by omega, by decide, by decide, fun r H2 r0 r1 B2 S2 => ?_⟩
      have nl := B1.nne hl
      have gl := S2 l _ upd_same nl
      have S3 := (((S0.new (o := .tup [V.ty "list", V.ty "tuple"]) hp).trans S1).new (o := .lst [.int (i + 1), .int (i - 1), .int (0 - i), .bl (decide (V.int i = V.int 1)), .str (toString i), v']) hl).trans S2
      have w2 := (WX.new (ex := ex) (H := H1) (o := .lst [.int (i + 1), .int (i - 1), .int (0 - i), .bl (decide (V.int i = V.int 1)), .str (toString i), v']) hl).trans (WX.draw E0.mem S2)
      obtain ⟨u, eu, du⟩ := pickL (α := fun x => DS K (WX ex H2) (k' + 1) (4 * z + 20) (D + 4) x) gl r0 r1 (fm (DS.int (by omega)) (fm (DS.int (by omega)) (fm (DS.int (by omega)) (fm (DS.bl _) (fm (DS.istr hs (by omega)) (fm (dv1.up w2 (Nat.zero_le _) (by omega) (by omega)) fm0))))))
      exact ⟨l, _, _, u, rfl, rfl, SqL.of gl, eu, k u H2 S3 (B2.mono (by omega)) du⟩
    · refine ⟨_, rfl, two_le, fun p hp => ⟨_, "str", p, ["list", "tuple"], rfl, rfl, upd_same, (by decide), _, rfl, ifF (by decide) (ifF rfl ?_)⟩⟩
      exact ⟨_, rfl, _, k', z, D, rfl, (dv.up ((WX.new hp).trans WX.le) (Nat.le_refl _) (Nat.le_refl _) (Nat.le_refl _)), _, rfl, ifF rfl ⟨_, rfl, odd _ n (S0.new hp) (B0.new hp) (by omega)⟩⟩
    · have sq : ∀ H', SameB b H H' → SqQ K H' t a xs := fun H' s => hq.same ((WX.draw E0.mem s).trans WX.le)
      obtain ⟨lx, al⟩ := all_of (z := z) (D := D) rs gs bs (by omega)
      have ny : (["list", "tuple"].any fun C => subT (tyQ t) C) = true := by cases t <;> decide
      refine ⟨_, rfl, two_le, fun p hp => ⟨_, tyQ t, p, ["list", "tuple"], rfl, (sq _ (S0.new hp)).ty, upd_same, (by decide), _, rfl, ifT ny ?_⟩⟩
      have S1 := S0.new (o := .tup [V.ty "list", V.ty "tuple"]) hp
      have B1 := B0.new (o := .tup [V.ty "list", V.ty "tuple"]) hp
      generalize upd H p (.tup [V.ty "list", V.ty "tuple"]) = H1 at S1 B1
      refine ⟨_, rfl, b, 8, n, rfl, B1, by omega, by decide, by decide, fun r H2 r0 r1 B2 S2 => ⟨_, _, rfl, rfl, _, rfl, ite2 (fun c => ?_) (fun c => ?_)⟩⟩
      · have S2' := S1.trans S2
        refine ⟨_, rfl, _, rfl, b, a, t, xs, n + 1, k', z, D + 3, ex, rfl, B2, by omega, E0.next S2' B2, hq.same (WX.draw E0.mem S2'), ⟨ds, rs.same (WX.draw E0.mem S2'), gs, bs, by omega⟩, hz1, by omega, fun v' H' S' B' dv' => k v' H' (S2'.trans S') (B'.mono (by omega)) (dv'.up (Same.refl _) (by omega) (Nat.le_refl _) (by omega))⟩
      · have S2' := S1.trans S2
        refine ⟨_, rfl, _, k', z, D, rfl, dv.up ((WX.draw E0.mem S2').trans WX.le) (Nat.le_refl _) (Nat.le_refl _) (Nat.le_refl _), _, rfl, ifF rfl ⟨_, rfl, odd _ _ S2' B2 (by omega)⟩⟩
def spSpoilA (K : PySem.W.Frag) : Nat → Sp
  | 0 => fun _ _ _ _ => False
  | j + 1 => fun vs H Q _ => ∃ (b : Addr) (v : V) (n : Int) (k z D : Nat) (ex : List Addr), vs = [.ref b, v] ∧ BoxAt H b n ∧ n + 10 * (j + 1) < 1099510000000 ∧ Ex H b ex ∧ DS K (WX ex H) k z D v ∧ z ≤ 50000 ∧ k ≤ 100 ∧ D ≤ j ∧ j ≤ 20 ∧
    ∀ v' H', SameB b H H' → BoxAt H' b (n + 8 * (j + 1)) → DS K (WX ex H') (k + 1) ((4 * z + 20) + (j + 1) * (z + 2)) (D + 4) v' → Q v' H'
theorem scSpoilA : FnScope ["_law_box_here", "_law_thing", "_law_at", "_law_some"] ["_law_box_here", "_law_thing"] (defScope (topL 15)) := ⟨rfl, rfl, rfl, by decide +kernel, rfl, by decide +kernel, by decide +kernel⟩
theorem ok_spoilA {f : Addr} {fd : FuncData} (F : Fun K "_law_spoilt" "_law_spoilt" (topL 15) f fd) (B : Blt mg) (hm : mg "_law_spoilt" = some (.ref f)) (hb : Binds K fd ["_law_box_here", "_law_thing"] [])
    (D_take : Dfn P w K mg base "_law_take" 1 ["_law_box_here", "_law_size"] spTake) (D_instead : Dfn P w K mg base "_law_instead" 4 ["_law_box_here", "_law_thing"] (spInstA K)) :
    ∀ j : Nat, FnOk P w K mg base CX0 (j + 5) f fd ["_law_box_here", "_law_thing"] (spSpoilA K j)
  | 0 => ⟨fun _ _ _ _ h => h.elim, fun _ _ _ _ _ _ _ _ _ _ _ _ _ h => h.elim⟩
  | j + 1 => by
    have D_spoilt : Dfn P w K mg base "_law_spoilt" (j + 5) ["_law_box_here", "_law_thing"] (spSpoilA K j) := ⟨f, fd, ok_spoilA F B hm hb D_take D_instead j, hm, F.kp, hb⟩
    have nd := scSpoilA.nd
    refine F.ok scSpoilA (fun vs H Q E h => ?_) (fun cdv A outer s H vs Q E hr h => ?_)
    · obtain ⟨b, v, n, k, z, D, ex, rfl, _⟩ := h
      rfl
    · obtain ⟨b, v, n, k', z, D, ex, rfl, B0, hn, E0, dv, hz1, hk, hD, hj, k⟩ := h
      have hbig : 100000 < sizeLine := by rw [sizeLine_eq]; decide
      refine ⟨_, (pss_cons (ps_if (PW.pt (pw_or (pt_not (pt_val (pe_callB call_isiT rfl B.isinstance boot_isinstance (pa_cons (pv 1) (pa_cons (pe_tup (pa_cons (pe_bltn (v := .ty "list") rfl B.list boot_list rfl) (pa_cons (pe_bltn (v := .ty "tuple") rfl B.tuple boot_tuple rfl) pa_nil))) pa_nil))))) (pw_or (pt_cmpR op_eq (pe_callB call_len_seq rfl B.len boot_len (pa_cons (pv 1) pa_nil)) pe_int (nomark _)) (pw_or1 (pt_cmpR op_eq (pe_callD D_take (hr.mono (by first | decide | exact Nat.le_refl _ | omega)) rfl (pa_cons (pv 0) (pa_cons pe_int pa_nil))) pe_int (nomark _))))))
      (pss_one (ps_ret (pe_callD D_instead (hr.mono (by first | decide | exact Nat.le_refl _ | omega)) rfl (pa_cons (pv 0) (pa_cons (pv 1) pa_nil)))))
      pss_nil)
      (pss_cons (ps_weak (ps_set (i := 2) nd rfl (Or.inl rfl) (pe_ifExp (pt_cmpR op_eq (pe_callD D_take (hr.mono (by first | decide | exact Nat.le_refl _ | omega)) rfl (pa_cons (pv 0) (pa_cons pe_int pa_nil))) pe_int (nomark _)) (pe_op op_sub (pe_callB call_len_seq rfl B.len boot_len (pa_cons (pv 1) pa_nil)) pe_int) (pe_callD D_take (hr.mono (by first | decide | exact Nat.le_refl _ | omega)) rfl (pa_cons (pv 0) (pa_cons (pe_callB call_len_seq rfl B.len boot_len (pa_cons (pv 1) pa_nil)) pa_nil))))))
      (pss_cons (ps_set (i := 3) nd rfl (Or.inl rfl) (pe_callTy call_list_of rfl B.list boot_list (pa_cons (pv 1) pa_nil)))
      (pss_cons (ps_asg (pe_callD D_spoilt (hr.mono (by first | decide | exact Nat.le_refl _ | omega)) rfl (pa_cons (pv 0) (pa_cons (pe_ix ix_seq (pv 1) (pv 2) (fun _ _ => rfl)) pa_nil))) (pg_sub (pv 3) (pv 2) set_list))
      (pss_one (ps_ret (pe_ifExp (pt_val (pe_callB call_isi rfl B.isinstance boot_isinstance (pa_cons (pv 1) (pa_cons (pe_bltn (v := .ty "list") rfl B.list boot_list rfl) pa_nil)))) (pv 3) (pe_callTy call_tuple_of rfl B.tuple boot_tuple (pa_cons (pv 3) pa_nil))))))))), ?_⟩
      have S0 := SameB.refl b H
      have inst : ∀ H1 (m : Int), SameB b H H1 → BoxAt H1 b m → m ≤ n + 1 → spInstA K [.ref b, v] H1 Q E := fun H1 m S1 B1 hm1 =>
        ⟨b, v, m, k', z, D, ex, rfl, B1, by omega, E0.next S1 B1, dv.up (WX.draw E0.mem S1) (Nat.le_refl _) (Nat.le_refl _) (Nat.le_refl _), hz1, hk, fun v' H' S' B' dv' => k v' H' (S1.trans S') (B'.mono (by omega)) (dv'.up (Same.refl _) (Nat.le_refl _) (Nat.le_add_right _ _) (Nat.le_refl _))⟩
      rcases dv.split2 with rfl | ⟨c, rfl⟩ | ⟨i, rfl, h⟩ | ⟨x, rfl⟩ | ⟨a, t, xs, ds, rfl, hq, rs, gs, bs, psd⟩
      · exact ⟨_, rfl, two_le, fun p hp => ⟨_, "NoneType", p, ["list", "tuple"], rfl, rfl, upd_same, (by decide), _, rfl, ifT (by decide) (ifT rfl ⟨_, rfl, _, rfl, inst _ n (S0.new hp) (B0.new hp) (by omega)⟩)⟩⟩
      · exact ⟨_, rfl, two_le, fun p hp => ⟨_, "bool", p, ["list", "tuple"], rfl, rfl, upd_same, (by decide), _, rfl, ifT (by decide) (ifT rfl ⟨_, rfl, _, rfl, inst _ n (S0.new hp) (B0.new hp) (by omega)⟩)⟩⟩
      · exact ⟨_, rfl, two_le, fun p hp => ⟨_, "int", p, ["list", "tuple"], rfl, rfl, upd_same, (by decide), _, rfl, ifT (by decide) (ifT rfl ⟨_, rfl, _, rfl, inst _ n (S0.new hp) (B0.new hp) (by omega)⟩)⟩⟩
      · exact ⟨_, rfl, two_le, fun p hp => ⟨_, "str", p, ["list", "tuple"], rfl, rfl, upd_same, (by decide), _, rfl, ifT (by decide) (ifT rfl ⟨_, rfl, _, rfl, inst _ n (S0.new hp) (B0.new hp) (by omega)⟩)⟩⟩
      -- rows
      have sq : ∀ H', SameB b H H' → SqQ K H' t a xs := fun H' s => hq.same ((WX.draw E0.mem s).trans WX.le)
      obtain ⟨lx, al⟩ := all_of (z := z) (D := D - 1) rs gs bs (by omega)
      have ny : (!(["list", "tuple"].any fun C => subT (tyQ t) C)) = false := by cases t <;> decide
      refine ⟨_, rfl, two_le, fun p hp => ⟨_, tyQ t, p, ["list", "tuple"], rfl, (sq _ (S0.new hp)).ty, upd_same, (by decide), _, rfl, ifF ny ?_⟩⟩
      have S1 := S0.new (o := .tup [V.ty "list", V.ty "tuple"]) hp
      have B1 := B0.new (o := .tup [V.ty "list", V.ty "tuple"]) hp
      generalize upd H p (.tup [V.ty "list", V.ty "tuple"]) = H1 at S1 B1
      refine ⟨_, rfl, a, xs, rfl, (sq _ S1).or, rfl, _, rfl, ite2 (fun c2 => ifT rfl ⟨_, rfl, _, rfl, inst H1 n S1 B1 (by omega)⟩) (fun c2 => ⟨_, rfl, b, 4, n, rfl, B1, by omega, by decide, by decide, fun r H2 r0 r1 B2 S2 => ⟨rfl, _, rfl, ite2 (fun c3 => ⟨_, rfl, _, rfl, inst H2 _ (S1.trans S2) B2 (by omega)⟩) (fun c3 => ?_)⟩⟩)⟩
      have S2' := S1.trans S2
      have x0 : xs.length ≠ 0 := fun z => c2 (by rw [z]; exact decide_eq_true rfl)
      clear S1 S2 B1
      -- at
      refine ⟨fun σ' H' => ∃ q : Int, σ' = [some (.ref b), some (.ref a), some (.int q), none] ∧ SameB b H H' ∧ BoxAt H' b (n + 3) ∧ 0 ≤ q ∧ q < xs.length, ?_, ?_⟩
      · refine ⟨_, rfl, b, 3, n + 1, rfl, B2, by omega, by decide, by decide, fun r2 H3 r20 r21 B3 S3 => ⟨rfl, _, rfl, ite2 (fun e => ?_) (fun e => ?_)⟩⟩
        · exact ⟨_, rfl, a, xs, rfl, (sq _ (S2'.trans S3)).or, _, _, rfl, rfl, _, rfl, S2'.trans S3, B3.mono (by omega), by omega, by omega⟩
        · exact ⟨_, rfl, _, rfl, a, xs, rfl, (sq _ (S2'.trans S3)).or, b, _, n + 1 + 1, rfl, B3, by omega, by omega, by omega, fun q H4 q0 q1 B4 S4 => ⟨q, rfl, (S2'.trans S3).trans S4, B4.mono (by omega), q0, q1⟩⟩
      rintro σ' H3 ⟨q, rfl, S3, B3, q0, q1⟩
      clear S2' B2
      refine ⟨_, rfl, a, xs, rfl, (sq _ S3).or, fun m hm => ?_⟩
      have E3 := E0.next S3 B3
      have mH : H m = none := S3.none hm (B3.nne hm)
      have mb := B3.nne hm
      have mx := E3.out hm
      have S4 := S3.new (o := .lst xs) hm
      have B4 := B3.new (o := .lst xs) hm
      have E4 := E3.same (same_upd (o := .lst xs) hm)
      have w4 := (WX.draw E0.mem S3).trans (WX.fresh hm (.lst xs))
      have f4 : upd H3 m (.lst xs) m = some (.lst xs) := upd_same
      generalize upd H3 m (.lst xs) = H4 at S4 B4 E4 f4 w4
      obtain ⟨x, ex1, ex2⟩ := atI_in (xs := xs) q0 q1
      have dx := (al x (List.mem_of_getElem? ex2)).up w4 (Nat.le_refl _) (by omega : z - 1 ≤ z) (Nat.le_refl _)
      obtain ⟨j', rfl⟩ : ∃ j', j = j' + 1 := ⟨j - 1, by omega⟩
      have ty := fun H' s => (sq H' s).ty
      have D1 : 1 ≤ D := by omega
      cases t
      all_goals
        refine ⟨_, rfl, _, rfl, _, rfl, ?_⟩
        first
          | refine .inl ⟨a, xs, _, x, rfl, rfl, sq _ S4, ex1, ?_⟩
          | refine .inr (.inl ⟨a, xs, _, x, rfl, rfl, sq _ S4, ex1, ?_⟩)
        refine ⟨b, x, n + 3, k', z, D - 1, m :: ex, rfl, B4, by omega, E4.cons f4, dx, hz1, hk, by omega, by omega, fun v' H5 S5 B5 dv5 => ?_⟩
        have f5 := S5 m _ f4 mb
        refine ⟨_, rfl, _, rfl, m, xs, q, q.toNat, rfl, rfl, f5, ixN_in q0 q1, ?_⟩
        have S6 := (S4.trans S5).put (o := .lst (xs.set q.toNat v')) mH
        have B6 := B5.other (o := .lst (xs.set q.toNat v')) mb
        have f6 : upd H5 m (.lst (xs.set q.toNat v')) m = some (.lst (xs.set q.toNat v')) := upd_same
        have dv6 := dv5.up ((WX.put (H := H5) (o := .lst (xs.set q.toNat v')) List.mem_cons_self).trans WX.cons) (Nat.le_refl _) (Nat.le_refl _) (Nat.le_refl _)
        generalize upd H5 m (.lst (xs.set q.toNat v')) = H6 at S6 B6 f6 dv6
        have E6 := E0.next S6 B6
        obtain ⟨d', rd, gd⟩ := dv6
        have rs6 := Reps.set (i := q.toNat) (rs.same (WX.draw E0.mem S6)) rd
        have g6 := gds_set (i := q.toNat) (d := d') (Dat.gds_up (by omega : k' ≤ k' + 1) gs) gd.g
        have b6 := blks_set (ds := ds) (i := q.toNat) (d := d')
        have p6 := deps_set (ds := ds) (i := q.toNat) (d := d')
        have gb := gd.b
        have gp := gd.p
        have em : (j' + 1 + 1) * (z + 2) = (j' + 1) * (z + 2) + (z + 2) := Nat.succ_mul _ _
        have hb6 : Dat.blks (ds.set q.toNat d') ≤ (4 * z + 20) + (j' + 1 + 1) * (z + 2) := by
          rw [em]
          omega
        have hp6 : PyData.depthAll (Dat.pys (ds.set q.toNat d')) + 1 ≤ D + 4 := by omega
        refine ⟨_, rfl, _, _, "list", rfl, ty _ S6, (by decide), _, rfl, ite2 (fun e => ⟨_, rfl, ?_⟩) (fun e => ⟨_, rfl, m, _, rfl, .inl ⟨SqL.of f6, fun p' hp' => ?_⟩⟩)⟩
        · exact k _ H6 S6 (B6.mono (by omega)) ⟨.lst (ds.set q.toNat d'), ⟨m, _, rfl, SqL.of (WX.at mx f6), rs6⟩, g6, hb6, hp6⟩
        · exact k _ _ (S6.new hp') ((B6.new hp').mono (by omega)) ⟨.tup (ds.set q.toNat d'), ⟨p', _, rfl, SqT.of (WX.at (E6.out hp') upd_same), rs6.same (WX.new hp')⟩, g6, hb6, hp6⟩
end
end L2

set_option Elab.async false
set_option linter.all false
set_option maxRecDepth 100000
set_option maxHeartbeats 4000000
namespace L2
open PySem PySem.Spec PyProof.Rows
section
variable {P : Program} {w : World} {K : PySem.W.Frag} {mg : Str → Option Value} {base : Heap}
theorem strw {x : Str} {k D : Nat} {F : Hp} (h : decide (x.length ≤ 6) = true) (hc : (x.cps.toList.all fun c => decide (c < 1000000)) = true) : DS K F k 6 D (.str x) := strc h hc (Nat.le_refl _)
def spBent (K : PySem.W.Frag) : Sp := fun vs H Q _ => ∃ (b a : Addr) (xs : List V) (n : Int) (k z D : Nat) (ex : List Addr), vs = [.ref b, .ref a] ∧ BoxAt H b n ∧ n < 1000000000 ∧ Ex H b ex ∧ SqL K (WX ex H) a xs ∧ GL K (WX ex H) k z D xs ∧ z ≤ 50000 ∧ k ≤ 100 ∧ D + 1 ≤ 9 ∧
  ∀ v H', SameB b H H' → BoxAt H' b (n + 90) → DS K (WX ex H') (k + 1) (14 * z + 60) (D + 5) v → Q v H'
theorem scBent : FnScope ["_law_box_here", "_law_some", "_law_draw", "_law_at"] ["_law_box_here", "_law_some"] (defScope (topL 22)) := ⟨rfl, rfl, rfl, by decide +kernel, rfl, by decide +kernel, by decide +kernel⟩
theorem ok_bent {f : Addr} {fd : FuncData} (F : Fun K "_law_bent" "_law_bent" (topL 22) f fd) (B : Blt mg) (D_take : Dfn P w K mg base "_law_take" 1 ["_law_box_here", "_law_size"] spTake) (D_spoilt : Dfn P w K mg base "_law_spoilt" 15 ["_law_box_here", "_law_thing"] (spSpoilA K 10)) : FnOk P w K mg base CX0 16 f fd ["_law_box_here", "_law_some"] (spBent K) := by
  have nd := scBent.nd
  refine F.ok scBent (fun vs H Q E h => ?_) (fun cdv A outer s H vs Q E hr h => ?_)
  · obtain ⟨b, a, xs, n, k, z, D, ex, rfl, _⟩ := h
    rfl
  · obtain ⟨b, a, xs, n, k', z, D, ex, rfl, B0, hn, E0, hq, gl0, hz1, hk, hD, k⟩ := h
    have hu64 := hr.units
    have hxl := gl0.all.1
    have hbig : 100000 < sizeLine := by rw [sizeLine_eq]; decide
    have sq : ∀ H', SameB b H H' → SqL K H' a xs := fun H' s => ((WX.draw E0.mem s).trans WX.le).seq hq
    have old : ∀ H', SameB b H H' → GL K (WX ex H') k' z D xs := fun H' s => gl0.up (WX.draw E0.mem s) (Nat.le_refl _) (Nat.le_refl _) (Nat.le_refl _)
    have grow : ∀ {F : Hp} {m : Nat} {ys : List V} {p : Addr}, SqL K F p ys → GL K F k' m D ys → m ≤ 14 * z + 60 → DS K F (k' + 1) (14 * z + 60) (D + 5) (.ref p) := fun q h l => (GL.lst q (h.up (Same.refl _) (Nat.le_refl _) l (Nat.le_refl _))).up (Same.refl _) (by omega) (Nat.le_refl _) (by omega)
    refine ⟨_, (pss_cons (ps_par (i := 2) (j := 3) rfl nd rfl rfl (by decide) rfl rfl (pa_cons (pe_callD D_take (hr.mono (by first | decide | exact Nat.le_refl _ | omega)) rfl (pa_cons (pv 0) (pa_cons pe_int pa_nil))) (pa_cons (pe_callD D_take (hr.mono (by first | decide | exact Nat.le_refl _ | omega)) rfl (pa_cons (pv 0) (pa_cons (pe_op op_add (pe_callB call_len_seq rfl B.len boot_len (pa_cons (pv 1) pa_nil)) pe_int) pa_nil))) pa_nil)) (by rfl))
      (pss_cons (ps_weak (ps_if (PW.pt (pw_and (pt_cmpR op_eq (pv 2) pe_int (nomark _)) (pw_and1 (pt_cmpR (op_eqLW hu64) (pe_slice sl_list (pv 1) (po_some (pv 3)) (po_some (pe_op op_add (pv 3) pe_int))) (pe_lst (pa_cons pe_str pa_nil)) (nomark _)))))
      (pss_one (ps_ret (pe_op op_cat (pe_op op_cat (pe_slice sl_list (pv 1) po_none (po_some (pv 3))) (pe_ix ix_list (pe_lst (pa_cons (pe_lst (pa_cons pe_str (pa_cons pe_str pa_nil))) (pa_cons (pe_lst (pa_cons pe_str (pa_cons pe_str pa_nil))) pa_nil))) (pe_callD D_take (hr.mono (by first | decide | exact Nat.le_refl _ | omega)) rfl (pa_cons (pv 0) (pa_cons pe_int pa_nil))) (fun _ _ => rfl))) (pe_slice sl_list (pv 1) (po_some (pe_op op_add (pv 3) pe_int)) po_none))))
      pss_nil))
      (pss_cons (ps_if (pt_cmpR op_eq (pv 2) pe_int (nomark _))
      (pss_one (ps_ret (pe_op op_cat (pe_op op_cat (pe_slice sl_list (pv 1) po_none (po_some (pv 3))) (pe_lst (pa_cons (pe_ix ix_list (pe_lst (pa6 pe_str pe_str pe_str pe_str pe_str pe_str)) (pe_callD D_take (hr.mono (by first | decide | exact Nat.le_refl _ | omega)) rfl (pa_cons (pv 0) (pa_cons pe_int pa_nil))) (fun _ _ => rfl)) pa_nil))) (pe_slice sl_list (pv 1) (po_some (pe_op op_add (pv 3) pe_int)) po_none))))
      pss_nil)
      (pss_cons (ps_if (pt_cmpR op_eq (pv 2) pe_int (nomark _))
      (pss_one (ps_ret (pe_op op_cat (pe_op op_cat (pe_slice sl_list (pv 1) po_none (po_some (pv 3))) (pe_sliceK (pe_slice sl_list (pv 1) (po_some (pv 3)) (po_some (pe_op op_add (pv 3) pe_int))) (po_some (pe_un un_neg pe_int)))) (pe_slice sl_list (pv 1) (po_some (pe_op op_add (pv 3) pe_int)) po_none))))
      pss_nil)
      (pss_one (ps_ret (pe_callD D_spoilt (hr.mono (by first | decide | exact Nat.le_refl _ | omega)) rfl (pa_cons (pv 0) (pa_cons (pv 1) pa_nil))))))))), ?_⟩
    refine ⟨_, rfl, b, 4, n, rfl, B0, by omega, by decide, by decide, fun way H1 w0 w1 B1 S1 => ⟨_, rfl, _, rfl, a, xs, rfl, .inl (sq _ S1), _, _, rfl, rfl, b, _, n + 1, rfl, B1, by omega, by omega, by omega, fun q H2 q0 q1 B2 S2 => ⟨_, _, rfl, ?_⟩⟩⟩
    have S2' := S1.trans S2
    obtain ⟨q, rfl⟩ : ∃ q' : Nat, q = (q' : Int) := ⟨q.toNat, by omega⟩
    have E2 := E0.next S2' B2
    clear S1 S2 B1
    refine ⟨fun σ' H' => σ' = [some (.ref b), some (.ref a), some (.int way), some (.int (q : Int))] ∧ SameB b H H' ∧ BoxAt H' b (n + 2), ?_, ?_⟩
    · refine ⟨_, rfl, rfl, _, rfl, ite2 (fun c0 => ?_) (fun c0 => ifF rfl ⟨rfl, S2', B2.mono (by omega)⟩)⟩
      refine ⟨_, rfl, _, rfl, _, rfl, _, rfl, _, _, rfl, rfl, _, rfl, a, xs, rfl, sq _ S2', fun p1 h1 => ⟨le1, fun p2 h2 => ?_⟩⟩
      have S3 := (S2'.new (o := .lst (cutV xs (some (q : Int)) (some ((q : Int) + 1)))) h1).new (o := .lst [.str "both"]) h2
      have B3 := (B2.new (o := .lst (cutV xs (some (q : Int)) (some ((q : Int) + 1)))) h1).new (o := .lst [.str "both"]) h2
      have E3 := (E2.same (same_upd (o := .lst (cutV xs (some (q : Int)) (some ((q : Int) + 1)))) h1)).same (same_upd (o := .lst [.str "both"]) h2)
      refine ⟨p1, p2, _, ["both"], rfl, rfl, SqL.of ((same_upd h2) _ _ upd_same), fun v hv => ?_, SqL.of upd_same, fun r => ⟨_, rfl, ite2 (fun c1 => ?_) (fun c1 => ⟨rfl, S3, B3.mono (by omega)⟩)⟩⟩
      · obtain ⟨d, rd, _⟩ := (old _ S3).all.2 v (cutV_mem hv)
        exact ⟨d, rd.same WX.le⟩
      generalize upd (upd H2 p1 (.lst (cutV xs (some (q : Int)) (some ((q : Int) + 1))))) p2 (.lst [.str "both"]) = H3 at S3 B3 E3
      refine ⟨_, rfl, _, rfl, _, rfl, a, xs, rfl, sq _ S3, fun p3 h3 => ⟨le2, fun p4 h4 => ⟨le2, fun p5 h5 => ⟨le2, fun p6 h6 => ?_⟩⟩⟩⟩
      have n3 := B3.nne h3
      have S4 := (((S3.new (o := .lst (cutV xs none (some (q : Int)))) h3).new (o := .lst [.str "left", .str "right"]) h4).new (o := .lst [.str "right", .str "left"]) h5).new (o := .lst [.ref p4, .ref p5]) h6
      have B3a := B3.new (o := .lst (cutV xs none (some (q : Int)))) h3
      have n4 := B3a.nne h4
      have B3b := B3a.new (o := .lst [.str "left", .str "right"]) h4
      have n5 := B3b.nne h5
      have B3c := B3b.new (o := .lst [.str "right", .str "left"]) h5
      have n6 := B3c.nne h6
      have B4 := B3c.new (o := .lst [.ref p4, .ref p5]) h6
      have a4 := same_upd (o := .lst [.str "left", .str "right"]) h4
      have a5 := same_upd (o := .lst [.str "right", .str "left"]) h5
      have a6 := same_upd (o := .lst [.ref p4, .ref p5]) h6
      have f3 := a6 p3 _ (a5 p3 _ (a4 p3 _ (upd_same (H := H3) (o := .lst (cutV xs none (some (q : Int)))))))
      have f4 := a6 p4 _ (a5 p4 _ (upd_same (o := .lst [.str "left", .str "right"])))
      have f5 := a6 p5 _ (upd_same (o := .lst [.str "right", .str "left"]))
      refine ⟨_, rfl, b, 2, _, rfl, B4, by omega, by decide, by decide, fun r H5 r0 r1 B5 S5 => ?_⟩
      have f6 := S5 p6 _ upd_same n6
      replace f3 := S5 _ _ f3 n3
      replace f4 := S5 _ _ f4 n4
      replace f5 := S5 _ _ f5 n5
      have S6 := S4.trans S5
      have E6 := E0.next S6 B5
      obtain ⟨px, ys, epx, fx, gy⟩ : ∃ px ys, atI [V.ref p4, V.ref p5] r = some (.ref px) ∧ H5 px = some (.lst ys) ∧ ys.length = 2 ∧ ∀ F, GL K F k' 14 D ys := by
        have gl : ∀ F, GL K F k' 7 D [.str "left"] := fun F => GL.one (strw (by decide) (by decide))
        have gr : ∀ F, GL K F k' 7 D [.str "right"] := fun F => GL.one (strw (by decide) (by decide))
        have hc : r = 0 ∨ r = 1 := by omega
        rcases hc with rfl | rfl
        · exact ⟨p4, _, rfl, f4, rfl, fun F => (gl F).app (gr F)⟩
        · exact ⟨p5, _, rfl, f5, rfl, fun F => (gr F).app (gl F)⟩
      have l1 := cutL0 xs q
      have l2 : (cutV xs (some ((q : Int) + 1)) none).length ≤ xs.length - (q + 1) := cutL1 xs (q + 1)
      refine ⟨p6, _, _, _, rfl, rfl, SqL.of f6, epx, p3, px, _, _, rfl, rfl, f3, fx, by omega, fun p7 h7 => ⟨_, rfl, _, rfl, _, _, rfl, rfl, _, rfl, a, xs, rfl, sq _ (S6.new h7), fun p8 h8 => ⟨p7, p8, _, _, rfl, rfl, (same_upd h8) _ _ upd_same, upd_same, by rw [List.length_append]; omega, fun p9 h9 => ?_⟩⟩⟩
      have S9 := ((S6.new (o := .lst (cutV xs none (some (q : Int)) ++ ys)) h7).new (o := .lst (cutV xs (some ((q : Int) + 1)) none)) h8).new (o := .lst (cutV xs none (some (q : Int)) ++ ys ++ cutV xs (some ((q : Int) + 1)) none)) h9
      exact k _ _ S9 ((((B5.new h7).new h8).new h9).mono (by omega)) (grow (SqL.of (WX.at (((E6.same (same_upd h7)).same (same_upd h8)).out h9) upd_same)) ((((old _ S9).cut _ _).app (gy.2 _)).app ((old _ S9).cut _ _)) (by omega))
    rintro σ' H3 ⟨rfl, S3, B3⟩
    have E3 := E0.next S3 B3
    clear E2 B2 S2'
    refine ⟨_, rfl, rfl, _, rfl, ite2 (fun c1 => ?_) (fun c1 => ⟨_, rfl, rfl, _, rfl, ite2 (fun c2 => ?_) (fun c2 => ?_)⟩)⟩
    · refine ⟨_, rfl, _, rfl, _, rfl, a, xs, rfl, sq _ S3, fun p1 h1 => ⟨leN (by show 6 ≤ 1000; decide), fun p2 h2 => ?_⟩⟩
      have n1 := B3.nne h1
      have B3a := B3.new (o := .lst (cutV xs none (some (q : Int)))) h1
      have n2 := B3a.nne h2
      have f1 := (same_upd (o := .lst [.str "both", .str "left", .str "right", .str "Left", .str "on", .str ""]) h2) p1 _ (upd_same (H := H3) (o := .lst (cutV xs none (some (q : Int)))))
      refine ⟨_, rfl, b, 6, _, rfl, B3a.new h2, by omega, by decide, by decide, fun r H5 r0 r1 B5 S5 => ?_⟩
      have f2 := S5 p2 _ upd_same n2
      replace f1 := S5 _ _ f1 n1
      have S6 := ((S3.new (o := .lst (cutV xs none (some (q : Int)))) h1).new (o := .lst [.str "both", .str "left", .str "right", .str "Left", .str "on", .str ""]) h2).trans S5
      have E6 := E0.next S6 B5
      obtain ⟨v, ev, dv⟩ := pickP (α := fun x => ∀ F, DS K F k' 6 D x) (xs := [.str "both", .str "left", .str "right", .str "Left", .str "on", .str ""]) r0 r1 (fm (fun F => strw (by decide) (by decide)) (fm (fun F => strw (by decide) (by decide)) (fm (fun F => strw (by decide) (by decide)) (fm (fun F => strw (by decide) (by decide)) (fm (fun F => strw (by decide) (by decide)) (fm (fun F => strw (by decide) (by decide)) fm0))))))
      have l1 := cutL0 xs q
      have l2 : (cutV xs (some ((q : Int) + 1)) none).length ≤ xs.length - (q + 1) := cutL1 xs (q + 1)
      refine ⟨p2, _, _, v, rfl, rfl, SqL.of f2, ev, le1, fun p3 h3 => ⟨p1, p3, _, _, rfl, rfl, (same_upd h3) _ _ f1, upd_same, by show _ + 1 ≤ _; omega, fun p4 h4 => ?_⟩⟩
      refine ⟨_, rfl, _, rfl, _, _, rfl, rfl, _, rfl, a, xs, rfl, sq _ ((S6.new h3).new h4), fun p5 h5 => ⟨p4, p5, _, _, rfl, rfl, (same_upd h5) _ _ upd_same, upd_same, by rw [List.length_append]; show _ + 1 + _ ≤ _; omega, fun p6 h6 => ?_⟩⟩
      have S9 := (((S6.new (o := .lst [v]) h3).new (o := .lst (cutV xs none (some (q : Int)) ++ [v])) h4).new (o := .lst (cutV xs (some ((q : Int) + 1)) none)) h5).new (o := .lst (cutV xs none (some (q : Int)) ++ [v] ++ cutV xs (some ((q : Int) + 1)) none)) h6
      exact k _ _ S9 (((((B5.new h3).new h4).new h5).new h6).mono (by omega)) (grow (SqL.of (WX.at ((((E6.same (same_upd h3)).same (same_upd h4)).same (same_upd h5)).out h6) upd_same)) ((((old _ S9).cut _ _).app (GL.one (dv _))).app ((old _ S9).cut _ _)) (by omega))
    · refine ⟨_, rfl, _, rfl, _, rfl, a, xs, rfl, sq _ S3, fun p1 h1 => ?_⟩
      refine ⟨_, rfl, _, rfl, _, rfl, _, rfl, _, _, rfl, rfl, _, rfl, a, xs, rfl, sq _ (S3.new h1), fun p2 h2 => ?_⟩
      have l1 := cutL0 xs q
      have l2 : (cutV xs (some (q : Int)) (some ((q : Int) + 2))).length ≤ (q + 2) - q ∧ (cutV xs (some (q : Int)) (some ((q : Int) + 2))).length ≤ xs.length - q := cutL2 xs q (q + 2)
      have l3 : (cutV xs (some ((q : Int) + 2)) none).length ≤ xs.length - (q + 2) := cutL1 xs (q + 2)
      refine ⟨_, rfl, _, rfl, p2, _, rfl, (by decide), SqL.of upd_same, fun zs p3 zm zl h3 => ?_⟩
      refine ⟨p1, p3, _, _, rfl, rfl, ((same_upd h2).trans (same_upd h3)) _ _ upd_same, upd_same, by omega, fun p4 h4 => ?_⟩
      refine ⟨_, rfl, _, rfl, _, _, rfl, rfl, _, rfl, a, xs, rfl, sq _ ((((S3.new h1).new h2).new h3).new h4), fun p5 h5 => ?_⟩
      refine ⟨p4, p5, _, _, rfl, rfl, (same_upd h5) _ _ upd_same, upd_same, by rw [List.length_append]; omega, fun p6 h6 => ?_⟩
      have S9 := (((((S3.new (o := .lst (cutV xs none (some (q : Int)))) h1).new (o := .lst (cutV xs (some (q : Int)) (some ((q : Int) + 2)))) h2).new (o := .lst zs) h3).new (o := .lst (cutV xs none (some (q : Int)) ++ zs)) h4).new (o := .lst (cutV xs (some ((q : Int) + 2)) none)) h5).new (o := .lst (cutV xs none (some (q : Int)) ++ zs ++ cutV xs (some ((q : Int) + 2)) none)) h6
      exact k _ _ S9 (((((((B3.new h1).new h2).new h3).new h4).new h5).new h6).mono (by omega)) (grow (SqL.of (WX.at ((((((E3.same (same_upd h1)).same (same_upd h2)).same (same_upd h3)).same (same_upd h4)).same (same_upd h5)).out h6) upd_same)) ((((old _ S9).cut _ _).app ((((old _ S9).cut _ _).some zm).up (Same.refl _) (Nat.le_refl _) (show (z + 1) * zs.length ≤ 2 * z + 2 from Nat.le_trans (Nat.mul_le_mul (Nat.le_refl _) (show zs.length ≤ 2 by omega)) (by omega)) (Nat.le_refl _))).app ((old _ S9).cut _ _)) (by omega))
    · refine ⟨_, rfl, _, rfl, b, .ref a, n + 2, k', z, D + 1, ex, rfl, B3, (by show n + 2 + 10 * ((9 : Int) + 1) < 1099510000000; omega), E3, GL.lst ((WX.draw E0.mem S3).seq hq) (old _ S3), hz1, hk, by omega, by decide, fun v' H' S' B' dv' => ?_⟩
      exact k v' H' (S3.trans S') (B'.mono (by show n + 2 + 8 * ((9 : Int) + 1) ≤ n + 90; omega)) (dv'.up (Same.refl _) (Nat.le_refl _) (show (4 * z + 20) + 10 * (z + 2) ≤ 14 * z + 60 by omega) (by omega))
end
end L2

set_option Elab.async false
set_option linter.all false
set_option maxRecDepth 100000
set_option maxHeartbeats 4000000
namespace L2
open PySem PySem.Spec PyProof.Rows
def rowI (ls : List Int) : Dat := .lst (ls.map Dat.int)
theorem ints_gd {k z : Nat} : ∀ {ls : List Int}, (∀ i ∈ ls, i.natAbs ≤ 10000000000 + k) → Dat.gds k (ls.map Dat.int) = true ∧ Dat.blks (ls.map Dat.int) = ls.length ∧ PyData.depthAll (Dat.pys (ls.map Dat.int)) = 0
  | [], _ => ⟨rfl, rfl, rfl⟩
  | i :: ls, h => by
    obtain ⟨h1, h2, h3⟩ := ints_gd (z := z) (ls := ls) fun j hj => h j (List.mem_cons_of_mem _ hj)
    refine ⟨?_, ?_, ?_⟩
    · show (decide (i.natAbs ≤ 10000000000 + k) && Dat.gds k (ls.map Dat.int)) = true
      rw [h1, decide_eq_true (h i (by simp))]; rfl
    · show 0 + 1 + Dat.blks (ls.map Dat.int) = _
      rw [h2, List.length_cons]; omega
    · show max (PyData.depth (.int i)) (PyData.depthAll (Dat.pys (ls.map Dat.int))) = 0
      rw [h3]; simp [PyData.depth]
theorem walk_back {ls rs : List Int} {g : Int} : ∀ {ds : List Dat} {p : Nat × Nat}, okN ls rs g p.1 p.2 = true → walkN ls rs g p ds = some (endN ls rs) → backN ls rs g p.1 p.2 = true
  | [], p, ok, h => by
    unfold okN at ok
    simp only [Bool.and_eq_true, decide_eq_true_eq, Bool.not_eq_true'] at ok
    obtain ⟨h1, h2, h3⟩ := ok
    have e : p = endN ls rs := Option.some.inj h
    rw [back_in h1 h2, h3]
    have e1 : p.1 + 1 = ls.length := by rw [e]; show ls.length - 1 + 1 = _; omega
    have e2 : p.2 + 1 = rs.length := by rw [e]; show rs.length - 1 + 1 = _; omega
    rw [decide_eq_true e1, decide_eq_true e2]
    simp
  | d :: ds, p, ok, h => by
    unfold okN at ok
    simp only [Bool.and_eq_true, decide_eq_true_eq, Bool.not_eq_true'] at ok
    obtain ⟨h1, h2, h3⟩ := ok
    have h' : (goalN d (movesN ls rs g p.1 p.2)).bind (fun p' => walkN ls rs g p' ds) = some (endN ls rs) := h
    rw [goal_sel] at h'
    rw [back_in h1 h2, h3]
    split at h'
    · rename_i c
      rw [Bool.and_eq_true] at c
      rw [walk_back (p := (p.1 + 1, p.2 + 1)) c.1 h']; simp
    · split at h'
      · rename_i c
        rw [Bool.and_eq_true] at c
        have := walk_back (ds := ds) (p := (p.1 + 1, p.2 + 0)) c.1 h'
        simp only [Nat.add_zero] at this
        rw [this]; simp
      · split at h'
        · rename_i c
          rw [Bool.and_eq_true] at c
          have := walk_back (ds := ds) (p := (p.1 + 0, p.2 + 1)) c.1 h'
          simp only [Nat.add_zero] at this
          rw [this]; simp
        · cases h'
theorem shows_back {ls rs : List Int} {g : Int} {ds : List Dat} (nl : ls ≠ []) (nr : rs ≠ []) (h : backN ls rs g 0 0 = true → walkN ls rs g (0, 0) ds = some (endN ls rs)) : showsN ls rs g (.lst ds) = backN ls rs g 0 0 := by
  have ll : 0 < ls.length := List.length_pos_iff.mpr nl
  have lr : 0 < rs.length := List.length_pos_iff.mpr nr
  show (!nearN ls rs g 0 0 && decide (walkN ls rs g (0, 0) ds = some (endN ls rs))) = _
  cases e : backN ls rs g 0 0 with
  | true => rw [(back_ok e).2.2, h e, decide_eq_true rfl]; rfl
  | false =>
    cases en : nearN ls rs g 0 0 with
    | true => rfl
    | false =>
      rw [decide_eq_false (fun z => by
        rw [walk_back (p := (0, 0)) (by unfold okN; rw [decide_eq_true ll, decide_eq_true lr, en]; rfl) z] at e
        cases e)]
      rfl
def zq : Nat → Nat
  | 0 => 840
  | 1 => 11820
  | _ => 165540
theorem zq_le : ∀ m : Nat, zq m ≤ 165540
  | 0 => by decide
  | 1 => by decide
  | _ + 2 => Nat.le_refl _
section
variable {P : Program} {w : World} {K : PySem.W.Frag} {mg : Str → Option Value} {base : Heap}
theorem ints_reps {H : Hp} : ∀ (ls : List Int), Reps K H (ls.map Dat.int) (ls.map V.int)
  | [] => rfl
  | z :: ls => ⟨.int z, ls.map V.int, rfl, rfl, ints_reps ls⟩
theorem rowI_rep {H : Hp} {l : Addr} {ls : List Int} (h : H l = some (.lst (ls.map V.int))) : Rep K H (rowI ls) (.ref l) := ⟨l, _, rfl, SqL.of h, ints_reps ls⟩
theorem words_gl {F : Hp} : ∀ {ws : List Str}, (∀ x ∈ ws, x = "both" ∨ x = "left" ∨ x = "right") → GL K F 0 (7 * ws.length) 0 (ws.map V.str) ∧ Reps K F (ws.map Dat.str) (ws.map V.str)
  | [], _ => ⟨GL.nil, rfl⟩
  | x :: ws, h => by
    obtain ⟨h1, h2⟩ := words_gl (ws := ws) fun y hy => h y (List.mem_cons_of_mem _ hy)
    have hx : DS K F 0 6 0 (.str x) := by
      rcases h x (by simp) with rfl | rfl | rfl
      · exact strw (by decide) (by decide)
      · exact strw (by decide) (by decide)
      · exact strw (by decide) (by decide)
    exact ⟨((GL.one hx).app h1).up (Same.refl _) (Nat.le_refl _) (by rw [List.length_cons]; omega) (Nat.le_refl _), ⟨_, _, rfl, rfl, h2⟩⟩
theorem pickN {xs : List Int} {lo hi r : Int} (h0 : 0 ≤ r) (h1 : r < xs.length) (all : ∀ x ∈ xs, lo ≤ x ∧ x ≤ hi) : ∃ z : Int, atI (xs.map V.int) r = some (.int z) ∧ lo ≤ z ∧ z ≤ hi := by
  obtain ⟨v, e, e'⟩ := atI_in (xs := xs.map V.int) h0 (by rw [List.length_map]; exact h1)
  rw [List.getElem?_map] at e'
  obtain ⟨z, ez, rfl⟩ := Option.map_eq_some_iff.mp e'
  exact ⟨z, e, all z (List.mem_of_getElem? ez)⟩
def spRight : Sp := fun vs H Q _ => ∃ (b : Addr) (n : Int), vs = [.ref b] ∧ BoxAt H b n ∧ n < 1000 ∧ ∀ H', SameB b H H' → Q (.bl true) H'
theorem scRight : FnScope ["_law_box_here", "_law_left", "_law_right_here", "_law_gap", "_law_echo", "_law_some", "_law_thing", "_law_step", "_law_kept", "_law_due"] ["_law_box_here"] (defScope (topL 23)) := ⟨rfl, rfl, rfl, by decide +kernel, rfl, by decide +kernel, by decide +kernel⟩
theorem ok_right {f : Addr} {fd : FuncData} (F : Fun K "_law_right" "_law_right" (topL 23) f fd) (B : Blt mg) (D_take : Dfn P w K mg base "_law_take" 1 ["_law_box_here", "_law_size"] spTake) (D_rail : Dfn P w K mg base "_law_rail" 3 ["_law_box_here", "_law_most"] spRail) (D_drawn_moves : Dfn P w K mg base "_law_drawn_moves" 2 ["_law_box_here", "_law_left", "_law_right_here", "_law_gap"] (spDrawn K)) (D_same : Dfn P w K mg base "_law_same" 1 ["_law_found", "_law_due"] (spS K 1)) (Dshows_together : Dfn P w K mg base "shows_together" 3 ["left", "right", "gap", "thing"] (spShows K)) (D_back_open : Dfn P w K mg base "_law_back_open" 1 ["_law_left", "_law_right_here", "_law_gap"] (spBack K))
    (D_bent : Dfn P w K mg base "_law_bent" 16 ["_law_box_here", "_law_some"] (spBent K)) (D_spoilt : Dfn P w K mg base "_law_spoilt" 15 ["_law_box_here", "_law_thing"] (spSpoilA K 10)) (D_are_moves : Dfn P w K mg base "_law_are_moves" 1 ["_law_left", "_law_right_here", "_law_gap", "_law_thing"] (spAre K)) : FnOk P w K mg base CX0 17 f fd ["_law_box_here"] spRight := by
  have nd := scRight.nd
  refine F.ok scRight (fun vs H Q E h => ?_) (fun cdv A outer s H vs Q E hr h => ?_)
  · obtain ⟨b, n, rfl, _⟩ := h
    rfl
  · obtain ⟨b, n, rfl, B0, hn, k⟩ := h
    have hu64 := hr.units
    have hu1 := hu_of hr
    have hg := hr.gd
    have hbig : 1000000 < sizeLine := by rw [sizeLine_eq]; decide
    have e62 : (2 : Int) ^ 62 = 4611686018427387904 := by decide
    refine ⟨_, (pss_cons (ps_asg (pe_callD D_rail (hr.mono (by first | decide | exact Nat.le_refl _ | omega)) rfl (pa_cons (pv 0) (pa_cons pe_int pa_nil))) (pg_tup rfl (pgs_cons (pg_name (i := 1) nd rfl (Or.inl rfl)) (pgs_cons (pg_name (i := 2) nd rfl (Or.inl rfl)) (pgs_cons (pg_name (i := 3) nd rfl (Or.inl rfl)) pgs_nil)))))
      (pss_cons (ps_for PassesOwn.never rfl (pi_range1 rfl B.range (pa_cons pe_int pa_nil)) (pg_name (i := 4) nd rfl (Or.inl rfl))
      (pss_cons (ps_set (i := 5) nd rfl (Or.inl rfl) (pe_callD D_drawn_moves (hr.mono (by first | decide | exact Nat.le_refl _ | omega)) rfl (pa_cons (pv 0) (pa_cons (pv 1) (pa_cons (pv 2) (pa_cons (pv 3) pa_nil))))))
        (pss_cons (ps_if (pt_not (pt_val (pe_callD D_same (hr.mono (by first | decide | exact Nat.le_refl _ | omega)) rfl (pa_cons (pe_callD Dshows_together (hr.mono (by first | decide | exact Nat.le_refl _ | omega)) rfl (pa_cons (pv 1) (pa_cons (pv 2) (pa_cons (pv 3) (pa_cons (pv 5) pa_nil))))) (pa_cons (pe_cmp (pc_din hu1 (pe_tup (pa_cons pe_int (pa_cons pe_int pa_nil))) (pe_callD D_back_open (hr.mono (by first | decide | exact Nat.le_refl _ | omega)) rfl (pa_cons (pv 1) (pa_cons (pv 2) (pa_cons (pv 3) pa_nil)))))) pa_nil)))))
        (pss_one (ps_ret pe_bl))
        pss_nil)
        (pss_cons (ps_set (i := 6) nd rfl (Or.inl rfl) (pv 5))
        (pss_cons (ps_for PassesOwn.never rfl (pi_range1 rfl B.range (pa_cons (pe_ix ix_list (pe_lst (pa_cons pe_int (pa_cons pe_int (pa_cons pe_int pa_nil)))) (pe_callD D_take (hr.mono (by first | decide | exact Nat.le_refl _ | omega)) rfl (pa_cons (pv 0) (pa_cons pe_int pa_nil))) (fun _ _ => rfl)) pa_nil)) (pg_name (i := 7) nd rfl (Or.inl rfl))
        (pss_one (ps_set (i := 6) nd rfl (Or.inl rfl) (pe_ifExp (pt_val (pe_callB call_isi rfl B.isinstance boot_isinstance (pa_cons (pv 6) (pa_cons (pe_bltn (v := .ty "list") rfl B.list boot_list rfl) pa_nil)))) (pe_callD D_bent (hr.mono (by first | decide | exact Nat.le_refl _ | omega)) rfl (pa_cons (pv 0) (pa_cons (pv 6) pa_nil))) (pe_callD D_spoilt (hr.mono (by first | decide | exact Nat.le_refl _ | omega)) rfl (pa_cons (pv 0) (pa_cons (pv 6) pa_nil)))))))
        (pss_cons (ps_par (i := 8) (j := 9) rfl nd rfl rfl (by decide) rfl rfl (pa_cons (pe_callB (call_reprD hg hu64) rfl B.repr boot_repr (pa_cons (pe_lst (pa_cons (pv 1) (pa_cons (pv 2) (pa_cons (pv 6) pa_nil)))) pa_nil)) (pa_cons (pe_callD D_are_moves (hr.mono (by first | decide | exact Nat.le_refl _ | omega)) rfl (pa_cons (pv 1) (pa_cons (pv 2) (pa_cons (pv 3) (pa_cons (pv 6) pa_nil))))) pa_nil)) (by rfl))
        (pss_one (ps_if (PW.pt (pw_or (pt_not (pt_val (pe_callD D_same (hr.mono (by first | decide | exact Nat.le_refl _ | omega)) rfl (pa_cons (pe_callD Dshows_together (hr.mono (by first | decide | exact Nat.le_refl _ | omega)) rfl (pa_cons (pv 1) (pa_cons (pv 2) (pa_cons (pv 3) (pa_cons (pv 6) pa_nil))))) (pa_cons (pv 9) pa_nil))))) (pw_or1 (pt_cmpR op_ne (pe_callB (call_reprD hg hu64) rfl B.repr boot_repr (pa_cons (pe_lst (pa_cons (pv 1) (pa_cons (pv 2) (pa_cons (pv 6) pa_nil)))) pa_nil)) (pv 8) (nomark _)))))
        (pss_one (ps_ret pe_bl))
        pss_nil))))))))
      (pss_one (ps_ret pe_bl)))), ?_⟩
    refine ⟨_, rfl, b, n, rfl, B0, by omega, fun p l r ls rs g H1 S1 B1 hp tl tr nlb nrb g0 g1 => ⟨p, _, rfl, SqT.of hp, rfl, _, _, rfl, _, _, rfl, _, _, rfl, rfl, ?_⟩⟩
    obtain ⟨hl, nl, ll, bl⟩ := tl
    obtain ⟨hr', nr, lr, br⟩ := tr
    refine ⟨10, rfl, (by rw [e62]; omega), (by rw [e62]; omega), ?_⟩
    refine for_range (fun i σ H' => ∃ v4 v5 v6 v7 v8 v9, σ = [some (.ref b), some (.ref l), some (.ref r), some (.int g), v4, v5, v6, v7, v8, v9] ∧ SameB b H1 H' ∧ BoxAt H' b (n + 2500 + 2000 * i)) ⟨_, _, _, _, _, _, rfl, SameB.refl _ _, B1.mono (by omega)⟩ ?_ ?_
    · rintro i σ H2 hi ⟨v4, v5, v6, v7, v8, v9, rfl, S2, B2⟩
      have hi10 : i < 10 := hi
      have L2 := S2 _ _ hl nlb
      have R2 := S2 _ _ hr' nrb
      refine ⟨_, rfl, _, rfl, _, rfl, _, rfl, b, l, r, ls, rs, g, _, rfl, B2, by omega, L2, R2, nlb, nrb, by omega, by omega, nl, nr, fun q ws H3 S3 B3 nqb NQ Q3 wl ww wk => ?_⟩
      have S3' := S2.trans S3
      have L3 := S3 _ _ L2 nlb
      have R3 := S3 _ _ R2 nrb
      obtain ⟨gw, rw'⟩ := words_gl (K := K) (F := H3) ww
      refine ⟨_, rfl, _, rfl, _, rfl, _, rfl, l, r, ls, rs, g, .ref q, .lst (ws.map Dat.str), rfl, SqL.of L3, SqL.of R3, nl, nr, ⟨q, _, rfl, SqL.of Q3, rw'⟩, fun H4 s4 => ⟨le2, fun t ht => ?_⟩⟩
      have s5 := s4.trans (same_upd (o := .tup [.int 0, .int 0]) ht)
      have T5 : upd H4 t (.tup [.int 0, .int 0]) t = some (.tup ((kyN 0 0).map kV)) := upd_same
      generalize upd H4 t (.tup [.int 0, .int 0]) = H5 at s5 T5
      refine ⟨_, rfl, _, rfl, _, rfl, l, r, ls, rs, g, rfl, SqL.of (s5 _ _ L3), SqL.of (s5 _ _ R3), by omega, by omega, nl, nr, fun d kvs H6 _ s6 D6 tb => ⟨d, _, rfl, DGet.t D6 (s6 _ _ T5), ?_⟩⟩
      rw [tb, shows_back nl nr wk]
      refine ⟨.bl (backN ls rs g 0 0), _, _, rfl, rfl, rfl, trivial, fun H7 s7 => ⟨_, rfl, ifF rfl ?_⟩⟩
      have s8 := (s5.trans s6).trans s7
      have S8 := S3'.trans (SameB.of s8)
      have B8 := B3.same s8
      have Q8 := s8 _ _ Q3
      clear s5 s6 s7 T5 D6 ht
      refine ⟨_, rfl, ?_⟩
      refine ⟨le3, fun l4 h4 => ⟨_, rfl, b, 3, _, rfl, B8.new h4, by omega, by decide, by decide, fun r4 H9 r40 r41 B9 S9 => ?_⟩⟩
      have L9 := S9 l4 _ upd_same (B8.nne h4)
      have Q9 := S9 q _ ((same_upd (o := .lst [.int 1, .int 1, .int 2]) h4) _ _ Q8) nqb
      have S9' := (S8.new (o := .lst [.int 1, .int 1, .int 2]) h4).trans S9
      obtain ⟨z, ez, z0, z1⟩ := pickN (xs := [1, 1, 2]) (lo := 0) (hi := 2) r40 (by simpa using r41) (by decide)
      refine ⟨l4, _, _, _, rfl, rfl, SqL.of L9, ez, _, rfl, (by rw [e62]; omega), (by rw [e62]; omega), ?_⟩
      generalize hM : n + 2500 + 2000 * (i : Int) + 800 + 1 = M at B9
      refine for_range (fun j σ H' => ∃ v v7, σ = [some (.ref b), some (.ref l), some (.ref r), some (.int g), some (.int (0 + (i : Int))), some (.ref q), some v, v7, v8, v9] ∧ SameB b H1 H' ∧ BoxAt H' b (M + 90 * j) ∧ DS K (WX [b] H') j (zq j) (1 + 4 * j) v) ⟨_, _, rfl, S9', B9.mono (by omega), ?_⟩ ?_ ?_
      · have nb : q ∉ [b] := by simpa using nqb
        have gq := (words_gl (K := K) (F := WX [b] H9) ww).1
        exact (GL.lst (SqL.of (WX.at nb Q9)) gq).up (Same.refl _) (Nat.le_refl _) (show 7 * ws.length ≤ 840 by omega) (by omega)
      · rintro j σ Ha hj ⟨v, v7, rfl, Sa, Ba, dv⟩
        have ex : Ex Ha b [b] := ⟨by simp, fun e he => by rw [List.mem_singleton.mp he]; exact Ba.some⟩
        have hj2 : j = 0 ∨ j = 1 := by omega
        have zz : 14 * zq j + 60 ≤ zq (j + 1) ∧ zq j ≤ 50000 := by rcases hj2 with rfl | rfl <;> decide
        have fin : ∀ v' H', SameB b Ha H' → BoxAt H' b (M + 90 * (j : Int) + 90) → DS K (WX [b] H') (j + 1) (14 * zq j + 60) (1 + 4 * j + 4) v' → ∃ v0 v7', [some (V.ref b), some (.ref l), some (.ref r), some (.int g), some (.int (0 + (i : Int))), some (.ref q), some v', some (.int (0 + (j : Int))), v8, v9] = [some (.ref b), some (.ref l), some (.ref r), some (.int g), some (.int (0 + (i : Int))), some (.ref q), some v0, v7', v8, v9] ∧ SameB b H1 H' ∧ BoxAt H' b (M + 90 * ((j + 1 : Nat) : Int)) ∧ DS K (WX [b] H') (j + 1) (zq (j + 1)) (1 + 4 * (j + 1)) v0 := fun v' H' S' B' d' => ⟨v', _, rfl, Sa.trans S', B'.mono (by omega), d'.up (Same.refl _) (Nat.le_refl _) zz.1 (by omega)⟩
        have spo : spSpoilA K 10 [.ref b, v] Ha (fun v' H' => ∃ v0 v7', [some (V.ref b), some (.ref l), some (.ref r), some (.int g), some (.int (0 + (i : Int))), some (.ref q), some v', some (.int (0 + (j : Int))), v8, v9] = [some (.ref b), some (.ref l), some (.ref r), some (.int g), some (.int (0 + (i : Int))), some (.ref q), some v0, v7', v8, v9] ∧ SameB b H1 H' ∧ BoxAt H' b (M + 90 * ((j + 1 : Nat) : Int)) ∧ DS K (WX [b] H') (j + 1) (zq (j + 1)) (1 + 4 * (j + 1)) v0) E :=
          ⟨b, v, _, j, zq j, 1 + 4 * j, [b], rfl, Ba, (by show M + 90 * (j : Int) + 10 * ((9 : Int) + 1) < 1099510000000; omega), ex, dv, zz.2, by omega, (show 1 + 4 * j ≤ 9 by omega), by decide, fun v' H' S' B' d' => fin v' H' S' (B'.mono (by show M + 90 * (j : Int) + 8 * ((9 : Int) + 1) ≤ _; omega)) (d'.up (Same.refl _) (Nat.le_refl _) (show (4 * zq j + 20) + 10 * (zq j + 2) ≤ 14 * zq j + 60 by omega) (Nat.le_refl _))⟩
        rcases id dv.split2 with rfl | ⟨c, rfl⟩ | ⟨i', rfl, h⟩ | ⟨x, rfl⟩ | ⟨a, t, xs, ds, rfl, hq, rs', gs, bs, psd⟩
        · exact ⟨_, rfl, _, "NoneType", "list", rfl, rfl, (by decide), _, rfl, ifF (by decide) ⟨_, rfl, _, rfl, spo⟩⟩
        · exact ⟨_, rfl, _, "bool", "list", rfl, rfl, (by decide), _, rfl, ifF (by decide) ⟨_, rfl, _, rfl, spo⟩⟩
        · exact ⟨_, rfl, _, "int", "list", rfl, rfl, (by decide), _, rfl, ifF (by decide) ⟨_, rfl, _, rfl, spo⟩⟩
        · exact ⟨_, rfl, _, "str", "list", rfl, rfl, (by decide), _, rfl, ifF (by decide) ⟨_, rfl, _, rfl, spo⟩⟩
        · cases t with
          | true => exact ⟨_, rfl, _, "tuple", "list", rfl, (hq.same WX.le).ty, (by decide), _, rfl, ifF (by decide) ⟨_, rfl, _, rfl, spo⟩⟩
          | false =>
            refine ⟨_, rfl, _, "list", "list", rfl, (hq.same WX.le).ty, (by decide), _, rfl, ifT (by decide) ⟨_, rfl, _, rfl, b, a, xs, _, j, zq j, 4 * j, [b], rfl, Ba, by omega, ex, hq, ⟨ds, rs', gs, bs, by omega⟩, zz.2, by omega, by omega, fun v' H' S' B' d' => fin v' H' S' B' (d'.up (Same.refl _) (Nat.le_refl _) (Nat.le_refl _) (by omega))⟩⟩
      rintro σ Ha ⟨v, v7, rfl, Sa, Ba, dv⟩
      obtain ⟨d, rd, gd⟩ := dv.up (Same.refl _) (by omega : z.toNat ≤ 2) (zq_le z.toNat) (by omega : 1 + 4 * z.toNat ≤ 9)
      have rd' : Rep K Ha d v := rd.same WX.le
      have gb := gd.b
      have gp := gd.p
      have La := Sa _ _ hl nlb
      have Ra := Sa _ _ hr' nrb
      obtain ⟨a1, a2, a3⟩ := ints_gd (k := 0) (z := 0) (ls := ls) fun y hy => by have := bl y hy; omega
      obtain ⟨c1, c2, c3⟩ := ints_gd (k := 0) (z := 0) (ls := rs) fun y hy => by have := br y hy; omega
      have shw : (Dat.lst [rowI ls, rowI rs, d]).shw = true := by
        show ((rowI ls).shw && ((rowI rs).shw && (d.shw && true))) = true
        rw [show (rowI ls).shw = true from Dat.gds_shw (by decide) a1, show (rowI rs).shw = true from Dat.gds_shw (by decide) c1, Dat.gd_shw (by decide : 2 ≤ 1000) gd.g]; rfl
      have blk : (Dat.lst [rowI ls, rowI rs, d]).blk ≤ 1048576 := by
        show Dat.blks (ls.map Dat.int) + 1 + (Dat.blks (rs.map Dat.int) + 1 + (d.blk + 1 + 0)) ≤ _
        rw [a2, c2]; omega
      have dep : (Dat.lst [rowI ls, rowI rs, d]).py.depth ≤ 60 := by
        show PyData.depth (.list [.list (Dat.pys (ls.map Dat.int)), .list (Dat.pys (rs.map Dat.int)), d.py]) ≤ 60
        simp only [PyData.depth, PyData.depthAll]
        omega
      have rep3 : ∀ (H' : Hp) (p : Addr), Same Ha H' → H' p = some (.lst [.ref l, .ref r, v]) → Rep K H' (.lst [rowI ls, rowI rs, d]) (.ref p) := fun H' p s' h' => ⟨p, _, rfl, SqL.of h', _, _, rfl, rowI_rep (s' _ _ La), _, _, rfl, rowI_rep (s' _ _ Ra), _, _, rfl, rd'.same s', rfl⟩
      refine ⟨_, rfl, _, rfl, _, rfl, le3, fun p1 h1 => ⟨.ref p1, _, rfl, rep3 _ p1 (same_upd h1) upd_same, shw, blk, dep, ?_⟩⟩
      have sb := same_upd (o := .lst [.ref l, .ref r, v]) h1
      generalize upd Ha p1 (.lst [.ref l, .ref r, v]) = Hb at sb
      refine ⟨_, rfl, _, rfl, _, rfl, _, rfl, l, r, ls, rs, g, v, d, rfl, SqL.of (sb _ _ La), SqL.of (sb _ _ Ra), nl, nr, rd'.same sb, by omega, fun Hc sc => ⟨_, _, rfl, ?_⟩⟩
      have sbc := sb.trans sc
      refine ⟨_, rfl, _, rfl, _, rfl, _, rfl, l, r, ls, rs, g, v, d, rfl, SqL.of (sbc _ _ La), SqL.of (sbc _ _ Ra), nl, nr, rd'.same sbc, fun Hd sd => ⟨_, rfl, .bl (showsN ls rs g d), _, _, rfl, rfl, rfl, trivial, fun He se => ⟨_, rfl, ifF rfl ?_⟩⟩⟩
      have sE := (sbc.trans sd).trans se
      refine ⟨_, rfl, _, rfl, _, rfl, le3, fun p2 h2 => ⟨.ref p2, _, rfl, rep3 _ p2 (sE.trans (same_upd h2)) upd_same, shw, blk, dep, _, rfl, rfl, _, rfl, ifF (by simp) ?_⟩⟩
      exact ⟨_, _, _, _, _, _, rfl, Sa.trans (SameB.of (sE.trans (same_upd h2))), ((Ba.same (sE.trans (same_upd h2)))).mono (by omega)⟩
    · rintro σ H2 ⟨v4, v5, v6, v7, v8, v9, rfl, S2, B2⟩
      exact k H2 (S1.trans S2)
end
end L2

set_option Elab.async false
set_option linter.all false
set_option maxRecDepth 100000
set_option maxHeartbeats 4000000
namespace L2
open PySem PySem.Spec PyProof.Rows
def spLaw (K : PySem.W.Frag) : Sp := fun vs H Q _ => ∃ (a : Addr) (ns : List Int), vs = [.ref a] ∧ SqL K H a (ns.map V.int) ∧ ns.length ≤ 63 ∧ ∀ H', Q (.bl true) H'
section
variable {P : Program} {w : World} {K : PySem.W.Frag} {mg : Str → Option Value} {base : Heap}
theorem scLaw : FnScope ["_law_script", "_law_cells"] ["_law_script"] (defScope (topL 24)) := ⟨rfl, rfl, rfl, by decide +kernel, rfl, by decide +kernel, by decide +kernel⟩
theorem ok_law {f : Addr} {fd : FuncData} (F : Fun K "law" "law" (topL 24) f fd) (B : Blt mg) (D_folded : Dfn P w K mg base "_law_folded" 1 ["_law_script", "_law_size"] (spFold K)) (D_box : Dfn P w K mg base "_law_box" 1 ["_law_script", "_law_k"] (spBox K))
    (D_right : Dfn P w K mg base "_law_right" 17 ["_law_box_here"] spRight) : FnOk P w K mg base CX0 18 f fd ["_law_script"] (spLaw K) := by
  have nd := scLaw.nd
  refine F.ok scLaw (fun vs H Q E h => ?_) (fun cdv A outer s H vs Q E hr h => ?_)
  · obtain ⟨a, ns, rfl, _⟩ := h
    rfl
  · obtain ⟨a, ns, rfl, hS, hlen, k⟩ := h
    refine ⟨_, (pss_cons (ps_set (i := 1) nd rfl (Or.inr rfl) (pe_callD D_folded (hr.mono (by first | decide | exact Nat.le_refl _ | omega)) rfl (pa_cons (pv 0) (pa_cons pe_int pa_nil))))
      (pss_one (ps_ret (pe_callB (call_allL rfl) rfl B.all boot_all (pa_cons (pe_lc1 ["_law_cells"] [1] rfl rfl (by kernel_rfl) (pi_range1 rfl B.range (pa_cons (pe_callB (call_max2 rfl) rfl B.max boot_max (pa_cons pe_int (pa_cons (pe_callB call_len_seq rfl B.len boot_len (pa_cons (pv 1) pa_nil)) pa_nil))) pa_nil)) (fun C0 s0 H0 ex0 => pf_nil) (fun C0 s0 H0 ex0 => (pe_callD D_right (hr.mono (by first | decide | exact Nat.le_refl _ | omega)) rfl (pa_cons (pe_callD D_box (hr.mono (by first | decide | exact Nat.le_refl _ | omega)) rfl (pa_cons (pv 1) (pa_cons (pv 0) pa_nil))) pa_nil)))) pa_nil))))), ?_⟩
    refine ⟨_, rfl, a, ns, 3, rfl, hS, hlen, by decide, by decide, fun p ms H1 s1 hp hm => ?_⟩
    have e62 : (2 : Int) ^ 62 = 4611686018427387904 := by decide
    have hl : (ms.map V.int).length ≤ 3 := by rw [List.length_map]; exact hm
    refine ⟨_, rfl, p, _, rfl, .inl hp, _, _, rfl, _, rfl, (by rw [e62]; split <;> omega), (by rw [e62]; split <;> omega), ?_⟩
    have hN : (if ((ms.map V.int).length : Int) > 2 then ((ms.map V.int).length : Int) else 2).toNat ≤ 8 := by split <;> omega
    have hbig : 100 < sizeLine := by rw [sizeLine_eq]; decide
    refine lc_range (fun i zs H2 => zs = List.replicate i (V.bl true) ∧ Same H1 H2) ⟨rfl, Same.refl _⟩ ?_ ?_
    · rintro i zs H2 hi ⟨rfl, sm⟩
      rw [Int.zero_add]
      refine ⟨rfl, ?_⟩
      refine ⟨_, rfl, _, rfl, p, ms, i, rfl, sm.seq hp, by omega, fun q o hq Bq => ⟨q, 0, rfl, Bq, by decide, fun H3 s3 => ⟨?_, ?_, fun c u e => ?_⟩⟩⟩
      · rw [List.length_replicate]; omega
      · rw [List.replicate_succ']
      · exact s3 c u ((same_upd hq) c u (sm c u e)) (ne_of_none (sm c u e) hq)
    · rintro zs H2 ⟨rfl, sm⟩
      refine ⟨by rw [List.length_replicate]; omega, fun D hD => ⟨D, List.replicate (if ((ms.map V.int).length : Int) > 2 then ((ms.map V.int).length : Int) else 2).toNat true, rfl, ?_, ?_⟩⟩
      · refine SqL.of ?_
        rw [upd_same, List.map_replicate]
      · have := k (upd H2 D (.lst (List.replicate (if ((ms.map V.int).length : Int) > 2 then ((ms.map V.int).length : Int) else 2).toNat (V.bl true))))
        simpa using this
end
theorem all_mk {l : PySem.W.OpenLaw} {w : World} {K : PySem.W.Frag} {h : Heap} {mg : Str → Option Value} {fa : Addr} (X : K.In h) (G : h.Ns mainGlobals mg) (hfa : mg "law" = some (.ref fa))
    {f0 : Addr} {od0 an0 : Option Addr} {sl0 : Array (Option Value)} {oc0 kV0 dc0 pm0 cd0 ct0 : Value}
    {f1 : Addr} {od1 an1 : Option Addr} {sl1 : Array (Option Value)} {oc1 kV1 dc1 pm1 cd1 ct1 : Value}
    {f2 : Addr} {od2 an2 : Option Addr} {sl2 : Array (Option Value)} {oc2 kV2 dc2 pm2 cd2 ct2 : Value}
    {f3 : Addr} {od3 an3 : Option Addr} {sl3 : Array (Option Value)} {oc3 kV3 dc3 pm3 cd3 ct3 : Value}
    {f4 : Addr} {od4 an4 : Option Addr} {sl4 : Array (Option Value)} {oc4 kV4 dc4 pm4 cd4 ct4 : Value}
    {f5 : Addr} {od5 an5 : Option Addr} {sl5 : Array (Option Value)} {oc5 kV5 dc5 pm5 cd5 ct5 : Value}
    {f6 : Addr} {od6 an6 : Option Addr} {sl6 : Array (Option Value)} {oc6 kV6 dc6 pm6 cd6 ct6 : Value}
    {f7 : Addr} {od7 an7 : Option Addr} {sl7 : Array (Option Value)} {oc7 kV7 dc7 pm7 cd7 ct7 : Value}
    {f8 : Addr} {od8 an8 : Option Addr} {sl8 : Array (Option Value)} {oc8 kV8 dc8 pm8 cd8 ct8 : Value}
    {f9 : Addr} {od9 an9 : Option Addr} {sl9 : Array (Option Value)} {oc9 kV9 dc9 pm9 cd9 ct9 : Value}
    {f10 : Addr} {od10 an10 : Option Addr} {sl10 : Array (Option Value)} {oc10 kV10 dc10 pm10 cd10 ct10 : Value}
    {f11 : Addr} {od11 an11 : Option Addr} {sl11 : Array (Option Value)} {oc11 kV11 dc11 pm11 cd11 ct11 : Value}
    {f12 : Addr} {od12 an12 : Option Addr} {sl12 : Array (Option Value)} {oc12 kV12 dc12 pm12 cd12 ct12 : Value}
    {f13 : Addr} {od13 an13 : Option Addr} {sl13 : Array (Option Value)} {oc13 kV13 dc13 pm13 cd13 ct13 : Value}
    {f14 : Addr} {od14 an14 : Option Addr} {sl14 : Array (Option Value)} {oc14 kV14 dc14 pm14 cd14 ct14 : Value}
    {f15 : Addr} {od15 an15 : Option Addr} {sl15 : Array (Option Value)} {oc15 kV15 dc15 pm15 cd15 ct15 : Value}
    {f16 : Addr} {od16 an16 : Option Addr} {sl16 : Array (Option Value)} {oc16 kV16 dc16 pm16 cd16 ct16 : Value}
    {f17 : Addr} {od17 an17 : Option Addr} {sl17 : Array (Option Value)} {oc17 kV17 dc17 pm17 cd17 ct17 : Value}
    {f18 : Addr} {od18 an18 : Option Addr} {sl18 : Array (Option Value)} {oc18 kV18 dc18 pm18 cd18 ct18 : Value}
    {f19 : Addr} {od19 an19 : Option Addr} {sl19 : Array (Option Value)} {oc19 kV19 dc19 pm19 cd19 ct19 : Value}
    {f20 : Addr} {od20 an20 : Option Addr} {sl20 : Array (Option Value)} {oc20 kV20 dc20 pm20 cd20 ct20 : Value}
    {f21 : Addr} {od21 an21 : Option Addr} {sl21 : Array (Option Value)} {oc21 kV21 dc21 pm21 cd21 ct21 : Value}
    (a0 : PySem.W.nsIn K mainGlobals "is_too_near" = some (some (.ref f0))) (l0 : K.lookup f0 = some ⟨oc0, od0, .func (PySem.W.fnOf "is_too_near" "is_too_near" (defArgs (topL 2)) (defBody (topL 2)) (defScope (topL 2)) .none kV0 dc0 pm0 an0 cd0 ct0), sl0⟩) (c0 : PySem.W.codeIn K cd0 "is_too_near" = true) (k0 : PySem.W.keepIn K (.ref f0) = true)
    (a1 : PySem.W.nsIn K mainGlobals "ends_of" = some (some (.ref f1))) (l1 : K.lookup f1 = some ⟨oc1, od1, .func (PySem.W.fnOf "ends_of" "ends_of" (defArgs (topL 3)) (defBody (topL 3)) (defScope (topL 3)) .none kV1 dc1 pm1 an1 cd1 ct1), sl1⟩) (c1 : PySem.W.codeIn K cd1 "ends_of" = true) (k1 : PySem.W.keepIn K (.ref f1) = true)
    (a2 : PySem.W.nsIn K mainGlobals "moves_at" = some (some (.ref f2))) (l2 : K.lookup f2 = some ⟨oc2, od2, .func (PySem.W.fnOf "moves_at" "moves_at" (defArgs (topL 4)) (defBody (topL 4)) (defScope (topL 4)) .none kV2 dc2 pm2 an2 cd2 ct2), sl2⟩) (c2 : PySem.W.codeIn K cd2 "moves_at" = true) (k2 : PySem.W.keepIn K (.ref f2) = true)
    (a3 : PySem.W.nsIn K mainGlobals "goal_of" = some (some (.ref f3))) (l3 : K.lookup f3 = some ⟨oc3, od3, .func (PySem.W.fnOf "goal_of" "goal_of" (defArgs (topL 5)) (defBody (topL 5)) (defScope (topL 5)) .none kV3 dc3 pm3 an3 cd3 ct3), sl3⟩) (c3 : PySem.W.codeIn K cd3 "goal_of" = true) (k3 : PySem.W.keepIn K (.ref f3) = true)
    (a4 : PySem.W.nsIn K mainGlobals "shows_together" = some (some (.ref f4))) (l4 : K.lookup f4 = some ⟨oc4, od4, .func (PySem.W.fnOf "shows_together" "shows_together" (defArgs (topL 6)) (defBody (topL 6)) (defScope (topL 6)) .none kV4 dc4 pm4 an4 cd4 ct4), sl4⟩) (c4 : PySem.W.codeIn K cd4 "shows_together" = true) (k4 : PySem.W.keepIn K (.ref f4) = true)
    (a5 : PySem.W.nsIn K mainGlobals "_law_box" = some (some (.ref f5))) (l5 : K.lookup f5 = some ⟨oc5, od5, .func (PySem.W.fnOf "_law_box" "_law_box" (defArgs (topL 8)) (defBody (topL 8)) (defScope (topL 8)) .none kV5 dc5 pm5 an5 cd5 ct5), sl5⟩) (c5 : PySem.W.codeIn K cd5 "_law_box" = true) (k5 : PySem.W.keepIn K (.ref f5) = true)
    (a6 : PySem.W.nsIn K mainGlobals "_law_take" = some (some (.ref f6))) (l6 : K.lookup f6 = some ⟨oc6, od6, .func (PySem.W.fnOf "_law_take" "_law_take" (defArgs (topL 9)) (defBody (topL 9)) (defScope (topL 9)) .none kV6 dc6 pm6 an6 cd6 ct6), sl6⟩) (c6 : PySem.W.codeIn K cd6 "_law_take" = true) (k6 : PySem.W.keepIn K (.ref f6) = true)
    (a7 : PySem.W.nsIn K mainGlobals "_law_folded" = some (some (.ref f7))) (l7 : K.lookup f7 = some ⟨oc7, od7, .func (PySem.W.fnOf "_law_folded" "_law_folded" (defArgs (topL 10)) (defBody (topL 10)) (defScope (topL 10)) .none kV7 dc7 pm7 an7 cd7 ct7), sl7⟩) (c7 : PySem.W.codeIn K cd7 "_law_folded" = true) (k7 : PySem.W.keepIn K (.ref f7) = true)
    (a8 : PySem.W.nsIn K mainGlobals "_law_same" = some (some (.ref f8))) (l8 : K.lookup f8 = some ⟨oc8, od8, .func (PySem.W.fnOf "_law_same" "_law_same" (defArgs (topL 11)) (defBody (topL 11)) (defScope (topL 11)) .none kV8 dc8 pm8 an8 cd8 ct8), sl8⟩) (c8 : PySem.W.codeIn K cd8 "_law_same" = true) (k8 : PySem.W.keepIn K (.ref f8) = true)
    (a9 : PySem.W.nsIn K mainGlobals "_law_is_number" = some (some (.ref f9))) (l9 : K.lookup f9 = some ⟨oc9, od9, .func (PySem.W.fnOf "_law_is_number" "_law_is_number" (defArgs (topL 12)) (defBody (topL 12)) (defScope (topL 12)) .none kV9 dc9 pm9 an9 cd9 ct9), sl9⟩) (c9 : PySem.W.codeIn K cd9 "_law_is_number" = true) (k9 : PySem.W.keepIn K (.ref f9) = true)
    (a10 : PySem.W.nsIn K mainGlobals "_law_odd" = some (some (.ref f10))) (l10 : K.lookup f10 = some ⟨oc10, od10, .func (PySem.W.fnOf "_law_odd" "_law_odd" (defArgs (topL 13)) (defBody (topL 13)) (defScope (topL 13)) .none kV10 dc10 pm10 an10 cd10 ct10), sl10⟩) (c10 : PySem.W.codeIn K cd10 "_law_odd" = true) (k10 : PySem.W.keepIn K (.ref f10) = true)
    (a11 : PySem.W.nsIn K mainGlobals "_law_other_row" = some (some (.ref f11))) (l11 : K.lookup f11 = some ⟨oc11, od11, .func (PySem.W.fnOf "_law_other_row" "_law_other_row" (defArgs (topL 14)) (defBody (topL 14)) (defScope (topL 14)) .none kV11 dc11 pm11 an11 cd11 ct11), sl11⟩) (c11 : PySem.W.codeIn K cd11 "_law_other_row" = true) (k11 : PySem.W.keepIn K (.ref f11) = true)
    (a12 : PySem.W.nsIn K mainGlobals "_law_spoilt" = some (some (.ref f12))) (l12 : K.lookup f12 = some ⟨oc12, od12, .func (PySem.W.fnOf "_law_spoilt" "_law_spoilt" (defArgs (topL 15)) (defBody (topL 15)) (defScope (topL 15)) .none kV12 dc12 pm12 an12 cd12 ct12), sl12⟩) (c12 : PySem.W.codeIn K cd12 "_law_spoilt" = true) (k12 : PySem.W.keepIn K (.ref f12) = true)
    (a13 : PySem.W.nsIn K mainGlobals "_law_instead" = some (some (.ref f13))) (l13 : K.lookup f13 = some ⟨oc13, od13, .func (PySem.W.fnOf "_law_instead" "_law_instead" (defArgs (topL 16)) (defBody (topL 16)) (defScope (topL 16)) .none kV13 dc13 pm13 an13 cd13 ct13), sl13⟩) (c13 : PySem.W.codeIn K cd13 "_law_instead" = true) (k13 : PySem.W.keepIn K (.ref f13) = true)
    (a14 : PySem.W.nsIn K mainGlobals "_law_line" = some (some (.ref f14))) (l14 : K.lookup f14 = some ⟨oc14, od14, .func (PySem.W.fnOf "_law_line" "_law_line" (defArgs (topL 17)) (defBody (topL 17)) (defScope (topL 17)) .none kV14 dc14 pm14 an14 cd14 ct14), sl14⟩) (c14 : PySem.W.codeIn K cd14 "_law_line" = true) (k14 : PySem.W.keepIn K (.ref f14) = true)
    (a15 : PySem.W.nsIn K mainGlobals "_law_rail" = some (some (.ref f15))) (l15 : K.lookup f15 = some ⟨oc15, od15, .func (PySem.W.fnOf "_law_rail" "_law_rail" (defArgs (topL 18)) (defBody (topL 18)) (defScope (topL 18)) .none kV15 dc15 pm15 an15 cd15 ct15), sl15⟩) (c15 : PySem.W.codeIn K cd15 "_law_rail" = true) (k15 : PySem.W.keepIn K (.ref f15) = true)
    (a16 : PySem.W.nsIn K mainGlobals "_law_are_moves" = some (some (.ref f16))) (l16 : K.lookup f16 = some ⟨oc16, od16, .func (PySem.W.fnOf "_law_are_moves" "_law_are_moves" (defArgs (topL 19)) (defBody (topL 19)) (defScope (topL 19)) .none kV16 dc16 pm16 an16 cd16 ct16), sl16⟩) (c16 : PySem.W.codeIn K cd16 "_law_are_moves" = true) (k16 : PySem.W.keepIn K (.ref f16) = true)
    (a17 : PySem.W.nsIn K mainGlobals "_law_back_open" = some (some (.ref f17))) (l17 : K.lookup f17 = some ⟨oc17, od17, .func (PySem.W.fnOf "_law_back_open" "_law_back_open" (defArgs (topL 20)) (defBody (topL 20)) (defScope (topL 20)) .none kV17 dc17 pm17 an17 cd17 ct17), sl17⟩) (c17 : PySem.W.codeIn K cd17 "_law_back_open" = true) (k17 : PySem.W.keepIn K (.ref f17) = true)
    (a18 : PySem.W.nsIn K mainGlobals "_law_drawn_moves" = some (some (.ref f18))) (l18 : K.lookup f18 = some ⟨oc18, od18, .func (PySem.W.fnOf "_law_drawn_moves" "_law_drawn_moves" (defArgs (topL 21)) (defBody (topL 21)) (defScope (topL 21)) .none kV18 dc18 pm18 an18 cd18 ct18), sl18⟩) (c18 : PySem.W.codeIn K cd18 "_law_drawn_moves" = true) (k18 : PySem.W.keepIn K (.ref f18) = true)
    (a19 : PySem.W.nsIn K mainGlobals "_law_bent" = some (some (.ref f19))) (l19 : K.lookup f19 = some ⟨oc19, od19, .func (PySem.W.fnOf "_law_bent" "_law_bent" (defArgs (topL 22)) (defBody (topL 22)) (defScope (topL 22)) .none kV19 dc19 pm19 an19 cd19 ct19), sl19⟩) (c19 : PySem.W.codeIn K cd19 "_law_bent" = true) (k19 : PySem.W.keepIn K (.ref f19) = true)
    (a20 : PySem.W.nsIn K mainGlobals "_law_right" = some (some (.ref f20))) (l20 : K.lookup f20 = some ⟨oc20, od20, .func (PySem.W.fnOf "_law_right" "_law_right" (defArgs (topL 23)) (defBody (topL 23)) (defScope (topL 23)) .none kV20 dc20 pm20 an20 cd20 ct20), sl20⟩) (c20 : PySem.W.codeIn K cd20 "_law_right" = true) (k20 : PySem.W.keepIn K (.ref f20) = true)
    (a21 : PySem.W.nsIn K mainGlobals "law" = some (some (.ref f21))) (l21 : K.lookup f21 = some ⟨oc21, od21, .func (PySem.W.fnOf "law" "law" (defArgs (topL 24)) (defBody (topL 24)) (defScope (topL 24)) .none kV21 dc21 pm21 an21 cd21 ct21), sl21⟩) (c21 : PySem.W.codeIn K cd21 "law" = true) (k21 : PySem.W.keepIn K (.ref f21) = true)
    (z_abs : PySem.W.nsIn K mainGlobals "abs" = some none)
    (z_all : PySem.W.nsIn K mainGlobals "all" = some none)
    (z_divmod : PySem.W.nsIn K mainGlobals "divmod" = some none)
    (z_enumerate : PySem.W.nsIn K mainGlobals "enumerate" = some none)
    (z_int : PySem.W.nsIn K mainGlobals "int" = some none)
    (z_isinstance : PySem.W.nsIn K mainGlobals "isinstance" = some none)
    (z_len : PySem.W.nsIn K mainGlobals "len" = some none)
    (z_list : PySem.W.nsIn K mainGlobals "list" = some none)
    (z_max : PySem.W.nsIn K mainGlobals "max" = some none)
    (z_min : PySem.W.nsIn K mainGlobals "min" = some none)
    (z_range : PySem.W.nsIn K mainGlobals "range" = some none)
    (z_str : PySem.W.nsIn K mainGlobals "str" = some none)
    (z_tuple : PySem.W.nsIn K mainGlobals "tuple" = some none)
    (z_bool : PySem.W.nsIn K mainGlobals "bool" = some none)
    (z_zip : PySem.W.nsIn K mainGlobals "zip" = some none)
    (z_sum : PySem.W.nsIn K mainGlobals "sum" = some none)
    (z_any : PySem.W.nsIn K mainGlobals "any" = some none)
    (z_repr : PySem.W.nsIn K mainGlobals "repr" = some none)
    {mv ma mb mc : Addr} {om oa ob oc : Option Addr} {slm sla slb slc : Array (Option Value)} {nm na nb nc : Nat} {ta1 ta2 ta3 tb1 tb2 tb3 tc1 tc2 tc3 : Tok}
    (gM : PySem.W.nsIn K mainGlobals "MOVES" = some (some (.ref mv)))
    (lM : K.lookup mv = some ⟨.type "tuple", om, .seq #[.ref ma, .ref mb, .ref mc] nm, slm⟩)
    (lA : K.lookup ma = some ⟨.type "tuple", oa, .seq #[.str "both" ta1, .int 1 ta2, .int 1 ta3] na, sla⟩)
    (lB : K.lookup mb = some ⟨.type "tuple", ob, .seq #[.str "left" tb1, .int 1 tb2, .int 0 tb3] nb, slb⟩)
    (lC : K.lookup mc = some ⟨.type "tuple", oc, .seq #[.str "right" tc1, .int 0 tc2, .int 1 tc3] nc, slc⟩)
    : ∃ fd : FuncData, (∀ (s : Shared) (v : Value), BindsTo s fd ⟨[v], []⟩ [("_law_script", v)]) ∧ ∀ base : Heap, K.In base → base.Ns mainGlobals mg → FnOk l.prog w K mg base CX0 18 fa fd ["_law_script"] (spLaw K) := by
  have e := hfa.symm.trans (PySem.W.mg_of X G a21)
  cases e
  have B : Blt mg := ⟨PySem.W.mg_none_of X G z_abs, PySem.W.mg_none_of X G z_all, PySem.W.mg_none_of X G z_divmod, PySem.W.mg_none_of X G z_enumerate, PySem.W.mg_none_of X G z_int, PySem.W.mg_none_of X G z_isinstance, PySem.W.mg_none_of X G z_len, PySem.W.mg_none_of X G z_list, PySem.W.mg_none_of X G z_max, PySem.W.mg_none_of X G z_min, PySem.W.mg_none_of X G z_range, PySem.W.mg_none_of X G z_str, PySem.W.mg_none_of X G z_tuple, PySem.W.mg_none_of X G z_bool, PySem.W.mg_none_of X G z_zip, PySem.W.mg_none_of X G z_sum, PySem.W.mg_none_of X G z_any, PySem.W.mg_none_of X G z_repr⟩
  have F0 := fun_mk (st := topL 2) l0 c0 k0
  have b0 := F0.binds (ps := ["left", "right", "gap", "at"]) fun _ _ _ _ _ _ us hl => match us, hl with | [_, _, _, _], _ => rfl
  have F1 := fun_mk (st := topL 3) l1 c1 k1
  have b1 := F1.binds (ps := ["left", "right"]) fun _ _ _ _ _ _ us hl => match us, hl with | [_, _], _ => rfl
  have F2 := fun_mk (st := topL 4) l2 c2 k2
  have b2 := F2.binds (ps := ["left", "right", "gap", "at"]) fun _ _ _ _ _ _ us hl => match us, hl with | [_, _, _, _], _ => rfl
  have F3 := fun_mk (st := topL 5) l3 c3 k3
  have b3 := F3.binds (ps := ["move", "pairs"]) fun _ _ _ _ _ _ us hl => match us, hl with | [_, _], _ => rfl
  have F4 := fun_mk (st := topL 6) l4 c4 k4
  have b4 := F4.binds (ps := ["left", "right", "gap", "thing"]) fun _ _ _ _ _ _ us hl => match us, hl with | [_, _, _, _], _ => rfl
  have F5 := fun_mk (st := topL 8) l5 c5 k5
  have b5 := F5.binds (ps := ["_law_script", "_law_k"]) fun _ _ _ _ _ _ us hl => match us, hl with | [_, _], _ => rfl
  have F6 := fun_mk (st := topL 9) l6 c6 k6
  have b6 := F6.binds (ps := ["_law_box_here", "_law_size"]) fun _ _ _ _ _ _ us hl => match us, hl with | [_, _], _ => rfl
  have F7 := fun_mk (st := topL 10) l7 c7 k7
  have b7 := F7.binds (ps := ["_law_script", "_law_size"]) fun _ _ _ _ _ _ us hl => match us, hl with | [_, _], _ => rfl
  have F8 := fun_mk (st := topL 11) l8 c8 k8
  have b8 := F8.binds (ps := ["_law_found", "_law_due"]) fun _ _ _ _ _ _ us hl => match us, hl with | [_, _], _ => rfl
  have F9 := fun_mk (st := topL 12) l9 c9 k9
  have b9 := F9.binds (ps := ["_law_thing"]) fun _ _ _ _ _ _ us hl => match us, hl with | [_], _ => rfl
  have F10 := fun_mk (st := topL 13) l10 c10 k10
  have b10 := F10.binds (ps := ["_law_box_here"]) fun _ _ _ _ _ _ us hl => match us, hl with | [_], _ => rfl
  have F11 := fun_mk (st := topL 14) l11 c11 k11
  have b11 := F11.binds (ps := ["_law_box_here", "_law_thing"]) fun _ _ _ _ _ _ us hl => match us, hl with | [_, _], _ => rfl
  have F12 := fun_mk (st := topL 15) l12 c12 k12
  have b12 := F12.binds (ps := ["_law_box_here", "_law_thing"]) fun _ _ _ _ _ _ us hl => match us, hl with | [_, _], _ => rfl
  have F13 := fun_mk (st := topL 16) l13 c13 k13
  have b13 := F13.binds (ps := ["_law_box_here", "_law_thing"]) fun _ _ _ _ _ _ us hl => match us, hl with | [_, _], _ => rfl
  have F14 := fun_mk (st := topL 17) l14 c14 k14
  have b14 := F14.binds (ps := ["_law_box_here", "_law_many", "_law_begin"]) fun _ _ _ _ _ _ us hl => match us, hl with | [_, _, _], _ => rfl
  have F15 := fun_mk (st := topL 18) l15 c15 k15
  have b15 := F15.binds (ps := ["_law_box_here", "_law_most"]) fun _ _ _ _ _ _ us hl => match us, hl with | [_, _], _ => rfl
  have F16 := fun_mk (st := topL 19) l16 c16 k16
  have b16 := F16.binds (ps := ["_law_left", "_law_right_here", "_law_gap", "_law_thing"]) fun _ _ _ _ _ _ us hl => match us, hl with | [_, _, _, _], _ => rfl
  have F17 := fun_mk (st := topL 20) l17 c17 k17
  have b17 := F17.binds (ps := ["_law_left", "_law_right_here", "_law_gap"]) fun _ _ _ _ _ _ us hl => match us, hl with | [_, _, _], _ => rfl
  have F18 := fun_mk (st := topL 21) l18 c18 k18
  have b18 := F18.binds (ps := ["_law_box_here", "_law_left", "_law_right_here", "_law_gap"]) fun _ _ _ _ _ _ us hl => match us, hl with | [_, _, _, _], _ => rfl
  have F19 := fun_mk (st := topL 22) l19 c19 k19
  have b19 := F19.binds (ps := ["_law_box_here", "_law_some"]) fun _ _ _ _ _ _ us hl => match us, hl with | [_, _], _ => rfl
  have F20 := fun_mk (st := topL 23) l20 c20 k20
  have b20 := F20.binds (ps := ["_law_box_here"]) fun _ _ _ _ _ _ us hl => match us, hl with | [_], _ => rfl
  have F21 := fun_mk (st := topL 24) l21 c21 k21
  refine ⟨PySem.W.fnOf "law" "law" (defArgs (topL 24)) (defBody (topL 24)) (defScope (topL 24)) .none kV21 dc21 pm21 an21 cd21 ct21, fun s v => .of_eq rfl, fun base _ _ => ?_⟩
  have g_MOVES : mg "MOVES" = some (.ref mv) := PySem.W.mg_of X G gM
  have l3 : 3 ≤ sizeLine := by rw [sizeLine_eq]; decide
  have M : Mvs K mv := ⟨⟨[.ref ma, .ref mb, .ref mc], fun H => .inr ⟨_, _, _, lM, rfl, rfl, l3, .cons rfl (.cons rfl (.cons rfl .nil))⟩, rfl, fun k x h => by
    match k, h with
    | 0, h =>
      cases h
      exact ⟨("both", 1, 1), ma, rfl, rfl, fun H => .inr ⟨_, _, _, lA, rfl, rfl, l3, .cons ⟨_, rfl⟩ (.cons ⟨_, rfl⟩ (.cons ⟨_, rfl⟩ .nil))⟩⟩
    | 1, h =>
      cases h
      exact ⟨("left", 1, 0), mb, rfl, rfl, fun H => .inr ⟨_, _, _, lB, rfl, rfl, l3, .cons ⟨_, rfl⟩ (.cons ⟨_, rfl⟩ (.cons ⟨_, rfl⟩ .nil))⟩⟩
    | 2, h =>
      cases h
      exact ⟨("right", 0, 1), mc, rfl, rfl, fun H => .inr ⟨_, _, _, lC, rfl, rfl, l3, .cons ⟨_, rfl⟩ (.cons ⟨_, rfl⟩ (.cons ⟨_, rfl⟩ .nil))⟩⟩
    | k + 3, h => simp at h⟩⟩
  have D_is_too_near : Dfn l.prog w K mg base "is_too_near" 1 ["left", "right", "gap", "at"] (spNear K) := ⟨_, _, ok_near F0 B, PySem.W.mg_of X G a0, k0, b0⟩
  have D_ends_of : Dfn l.prog w K mg base "ends_of" 1 ["left", "right"] (spEnds K) := ⟨_, _, ok_ends F1 B, PySem.W.mg_of X G a1, k1, b1⟩
  have D_moves_at : Dfn l.prog w K mg base "moves_at" 2 ["left", "right", "gap", "at"] (spMoves K) := ⟨_, _, ok_moves F2 B (g_MOVES) (M) D_ends_of D_is_too_near, PySem.W.mg_of X G a2, k2, b2⟩
  have D_goal_of : Dfn l.prog w K mg base "goal_of" 1 ["move", "pairs"] (spGoal K) := ⟨_, _, ok_goal F3 B, PySem.W.mg_of X G a3, k3, b3⟩
  have D_shows_together : Dfn l.prog w K mg base "shows_together" 3 ["left", "right", "gap", "thing"] (spShows K) := ⟨_, _, ok_shows F4 B D_ends_of D_is_too_near D_goal_of D_moves_at, PySem.W.mg_of X G a4, k4, b4⟩
  have D_law_box : Dfn l.prog w K mg base "_law_box" 1 ["_law_script", "_law_k"] (spBox K) := ⟨_, _, ok_box F5 B, PySem.W.mg_of X G a5, k5, b5⟩
  have D_law_take : Dfn l.prog w K mg base "_law_take" 1 ["_law_box_here", "_law_size"] (spTake) := ⟨_, _, ok_take F6 B, PySem.W.mg_of X G a6, k6, b6⟩
  have D_law_folded : Dfn l.prog w K mg base "_law_folded" 1 ["_law_script", "_law_size"] (spFold K) := ⟨_, _, ok_fold F7 B, PySem.W.mg_of X G a7, k7, b7⟩
  have D_law_same : Dfn l.prog w K mg base "_law_same" 1 ["_law_found", "_law_due"] (spS K 1) := ⟨_, _, ok_same F8 B (PySem.W.mg_of X G a8) b8 (1), PySem.W.mg_of X G a8, k8, b8⟩
  have D_law_is_number : Dfn l.prog w K mg base "_law_is_number" 1 ["_law_thing"] (spIsNum K) := ⟨_, _, ok_lisnum F9 B, PySem.W.mg_of X G a9, k9, b9⟩
  have D_law_odd : Dfn l.prog w K mg base "_law_odd" 2 ["_law_box_here"] (spOdd K) := ⟨_, _, ok_odd F10 B D_law_take, PySem.W.mg_of X G a10, k10, b10⟩
  have D_law_other_row : Dfn l.prog w K mg base "_law_other_row" 3 ["_law_box_here", "_law_thing"] (spORowA K) := ⟨_, _, ok_orowA F11 B D_law_take D_law_odd, PySem.W.mg_of X G a11, k11, b11⟩
  have D_law_instead : Dfn l.prog w K mg base "_law_instead" 4 ["_law_box_here", "_law_thing"] (spInstA K) := ⟨_, _, ok_instA F13 B D_law_take D_law_odd D_law_other_row D_law_is_number, PySem.W.mg_of X G a13, k13, b13⟩
  have D_law_spoilt : Dfn l.prog w K mg base "_law_spoilt" 15 ["_law_box_here", "_law_thing"] (spSpoilA K 10) := ⟨_, _, ok_spoilA F12 B (PySem.W.mg_of X G a12) b12 D_law_take D_law_instead (10), PySem.W.mg_of X G a12, k12, b12⟩
  have D_law_line : Dfn l.prog w K mg base "_law_line" 2 ["_law_box_here", "_law_many", "_law_begin"] (spLine) := ⟨_, _, ok_line F14 B D_law_take, PySem.W.mg_of X G a14, k14, b14⟩
  have D_law_rail : Dfn l.prog w K mg base "_law_rail" 3 ["_law_box_here", "_law_most"] (spRail) := ⟨_, _, ok_rail F15 B D_law_take D_law_line, PySem.W.mg_of X G a15, k15, b15⟩
  have D_law_are_moves : Dfn l.prog w K mg base "_law_are_moves" 1 ["_law_left", "_law_right_here", "_law_gap", "_law_thing"] (spAre K) := ⟨_, _, ok_are F16 B, PySem.W.mg_of X G a16, k16, b16⟩
  have D_law_back_open : Dfn l.prog w K mg base "_law_back_open" 1 ["_law_left", "_law_right_here", "_law_gap"] (spBack K) := ⟨_, _, ok_back F17 B, PySem.W.mg_of X G a17, k17, b17⟩
  have D_law_drawn_moves : Dfn l.prog w K mg base "_law_drawn_moves" 2 ["_law_box_here", "_law_left", "_law_right_here", "_law_gap"] (spDrawn K) := ⟨_, _, ok_drawn F18 B D_law_take D_law_back_open, PySem.W.mg_of X G a18, k18, b18⟩
  have D_law_bent : Dfn l.prog w K mg base "_law_bent" 16 ["_law_box_here", "_law_some"] (spBent K) := ⟨_, _, ok_bent F19 B D_law_take D_law_spoilt, PySem.W.mg_of X G a19, k19, b19⟩
  have D_law_right : Dfn l.prog w K mg base "_law_right" 17 ["_law_box_here"] (spRight) := ⟨_, _, ok_right F20 B D_law_take D_law_rail D_law_drawn_moves D_law_same D_shows_together D_law_back_open D_law_bent D_law_spoilt D_law_are_moves, PySem.W.mg_of X G a20, k20, b20⟩
  exact ok_law F21 B D_law_folded D_law_box D_law_right
theorem walk {l : PySem.W.OpenLaw} {q : Program} {loose : List Str} {XP : (Str → Option Value) → Heap → Prop} {YP : World → Heap → Prop} {d : DefRec} {K : Params → PySem.W.Frag} (hn : l.most = some 63) (hdf : d.params.defaults = [])
    (hY : ∀ (w : World) (h : Heap), YP w h → (K w.params).In h)
    (F : ∀ (w : World) (mg : Str → Option Value) (fa : Addr) (h : Heap), (K w.params).In h → h.Ns mainGlobals mg → mg d.name = some (.ref fa) →
      ∃ fd : FuncData, (∀ (s : Shared) (u : Value), BindsTo s fd ⟨[u], []⟩ [("_law_script", u)]) ∧ ∀ base : Heap, (K w.params).In base → base.Ns mainGlobals mg → FnOk l.prog w (K w.params) mg base CX0 18 fa fd ["_law_script"] (spLaw (K w.params))) :
    PySem.W.WalkO q loose XP YP l.row.toRowW d [] (fun f vs => PySem.call f vs) :=
  L2.walk_of (n := 63) (k := 18) (x := "_law_script") (CX := fun _ => CX0) (sp := fun w => spLaw (K w.params)) hn (by decide) hdf ⟨rfl, by decide, by decide, rfl⟩ hY F (fun _ _ a ns hl _ hS => ⟨a, ns, rfl, hS, hl, fun _ => rfl⟩) fun _ _ _ _ _ z => z
end L2
open PySem PySem.W PyProof.Rows
set_option maxRecDepth 100000 in
set_option maxHeartbeats 0 in
theorem PySem.Challenge.cw_pickboard_k50_moves_spoilt_anywhere_holds : PySem.Challenge.rw_pickboard_k50_moves_spoilt_anywhere.Holds := by
  w_on; o_law; k_head; (case hw => w_witness2)
  k_fill
  refine L2.walk (l := PySem.Challenge.rw_pickboard_k50_moves_spoilt_anywhere) rfl rfl (fun w h Y => PySem.W.kIn_of Y) ?F
  case F =>
    intro w mg fa h KX G hmg
    refine' L2.all_mk KX G hmg ?a0 ?l0 ?c0 ?k0 ?a1 ?l1 ?c1 ?k1 ?a2 ?l2 ?c2 ?k2 ?a3 ?l3 ?c3 ?k3 ?a4 ?l4 ?c4 ?k4 ?a5 ?l5 ?c5 ?k5 ?a6 ?l6 ?c6 ?k6 ?a7 ?l7 ?c7 ?k7 ?a8 ?l8 ?c8 ?k8 ?a9 ?l9 ?c9 ?k9 ?a10 ?l10 ?c10 ?k10 ?a11 ?l11 ?c11 ?k11 ?a12 ?l12 ?c12 ?k12 ?a13 ?l13 ?c13 ?k13 ?a14 ?l14 ?c14 ?k14 ?a15 ?l15 ?c15 ?k15 ?a16 ?l16 ?c16 ?k16 ?a17 ?l17 ?c17 ?k17 ?a18 ?l18 ?c18 ?k18 ?a19 ?l19 ?c19 ?k19 ?a20 ?l20 ?c20 ?k20 ?a21 ?l21 ?c21 ?k21 ?z_abs ?z_all ?z_divmod ?z_enumerate ?z_int ?z_isinstance ?z_len ?z_list ?z_max ?z_min ?z_range ?z_str ?z_tuple ?z_bool ?z_zip ?z_sum ?z_any ?z_repr ?gM ?lM ?lA ?lB ?lC
    (case a0 => k_is)
    (case l0 => k_is)
    (case c0 => k_is)
    (case k0 => k_is)
    (case a1 => k_is)
    (case l1 => k_is)
    (case c1 => k_is)
    (case k1 => k_is)
    (case a2 => k_is)
    (case l2 => k_is)
    (case c2 => k_is)
    (case k2 => k_is)
    (case a3 => k_is)
    (case l3 => k_is)
    (case c3 => k_is)
    (case k3 => k_is)
    (case a4 => k_is)
    (case l4 => k_is)
    (case c4 => k_is)
    (case k4 => k_is)
    (case a5 => k_is)
    (case l5 => k_is)
    (case c5 => k_is)
    (case k5 => k_is)
    (case a6 => k_is)
    (case l6 => k_is)
    (case c6 => k_is)
    (case k6 => k_is)
    (case a7 => k_is)
    (case l7 => k_is)
    (case c7 => k_is)
    (case k7 => k_is)
    (case a8 => k_is)
    (case l8 => k_is)
    (case c8 => k_is)
    (case k8 => k_is)
    (case a9 => k_is)
    (case l9 => k_is)
    (case c9 => k_is)
    (case k9 => k_is)
    (case a10 => k_is)
    (case l10 => k_is)
    (case c10 => k_is)
    (case k10 => k_is)
    (case a11 => k_is)
    (case l11 => k_is)
    (case c11 => k_is)
    (case k11 => k_is)
    (case a12 => k_is)
    (case l12 => k_is)
    (case c12 => k_is)
    (case k12 => k_is)
    (case a13 => k_is)
    (case l13 => k_is)
    (case c13 => k_is)
    (case k13 => k_is)
    (case a14 => k_is)
    (case l14 => k_is)
    (case c14 => k_is)
    (case k14 => k_is)
    (case a15 => k_is)
    (case l15 => k_is)
    (case c15 => k_is)
    (case k15 => k_is)
    (case a16 => k_is)
    (case l16 => k_is)
    (case c16 => k_is)
    (case k16 => k_is)
    (case a17 => k_is)
    (case l17 => k_is)
    (case c17 => k_is)
    (case k17 => k_is)
    (case a18 => k_is)
    (case l18 => k_is)
    (case c18 => k_is)
    (case k18 => k_is)
    (case a19 => k_is)
    (case l19 => k_is)
    (case c19 => k_is)
    (case k19 => k_is)
    (case a20 => k_is)
    (case l20 => k_is)
    (case c20 => k_is)
    (case k20 => k_is)
    (case a21 => k_is)
    (case l21 => k_is)
    (case c21 => k_is)
    (case k21 => k_is)
    (case z_abs => k_is)
    (case z_all => k_is)
    (case z_divmod => k_is)
    (case z_enumerate => k_is)
    (case z_int => k_is)
    (case z_isinstance => k_is)
    (case z_len => k_is)
    (case z_list => k_is)
    (case z_max => k_is)
    (case z_min => k_is)
    (case z_range => k_is)
    (case z_str => k_is)
    (case z_tuple => k_is)
    (case z_bool => k_is)
    (case z_zip => k_is)
    (case z_sum => k_is)
    (case z_any => k_is)
    (case z_repr => k_is)
    (case gM => k_is)
    (case lM => k_is)
    (case lA => k_is)
    (case lB => k_is)
    (case lC => k_is)

