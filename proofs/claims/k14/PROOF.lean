import PyProof.Rows.All
import Wide.All
import OpenK.AllK
import Wide.FinOn
import Lean
import PyProof.EqAt
import PyProof.EqKinds
import PyProof.TupleCall
import PyProof.P3Statements
import PyProof.Dict
import PySem.Syntax
import PySem.Challenge.RW_traitorround_k14_a_tree_grown
set_option Elab.async false
set_option linter.all false
set_option maxRecDepth 100000
section
/-! THE HAND LAYER, for ints, bools, texts, own classes, LISTS and tuples (index, slices, in, append, pop ..), calls, loops. Paste it whole ahead of your own text; what your proof does not reach may be deleted. -/
namespace L2
open PySem PySem.Spec PyProof.Rows

/-- a key: an int or a str -/
abbrev Key := Sum Int Str
def keyIs : Key → Value → Bool
  | .inl k, v => Value.isInt k v
  | .inr x, v => Value.isStrOf x v
def keyH (w : World) : Key → Int
  | .inl k => hashInt k
  | .inr x => hashStr w x
theorem keyIs_shape : ∀ {k : Key} {v : Value}, keyIs k v = true → (∃ i t, k = Sum.inl i ∧ v = Value.int i t) ∨ (∃ x t, k = Sum.inr x ∧ v = Value.str x t)
  | .inl i, v, h => by
    obtain ⟨t, e⟩ := Value.isInt_shape (k := i) (v := v) h
    exact .inl ⟨i, t, rfl, e⟩
  | .inr x, v, h => by
    obtain ⟨t, e⟩ := Value.isStrOf_shape (x := x) (v := v) h
    exact .inr ⟨x, t, rfl, e⟩
theorem keyIs_int (i : Int) (t : Tok) : keyIs (.inl i) (.int i t) = true := by simp [keyIs, Value.isInt]
theorem keyIs_str (x : Str) (t : Tok) : keyIs (.inr x) (.str x t) = true := by simp [keyIs, Value.isStrOf]
theorem key_ll (a b : Int) : decide ((Sum.inl a : Key) = Sum.inl b) = (a == b) := by
  by_cases e : a = b
  · subst e; simp
  · have h : ¬ (Sum.inl a : Key) = Sum.inl b := fun q => e (Sum.inl.inj q)
    rw [decide_eq_false h]
    exact (beq_eq_false_iff_ne.mpr e).symm
theorem key_rr (a b : Str) : decide ((Sum.inr a : Key) = Sum.inr b) = decide (a = b) := by
  by_cases e : a = b
  · subst e; simp
  · have h : ¬ (Sum.inr a : Key) = Sum.inr b := fun q => e (Sum.inr.inj q)
    rw [decide_eq_false h, decide_eq_false e]
theorem key_lr (a : Int) (b : Str) : decide ((Sum.inl a : Key) = Sum.inr b) = false := decide_eq_false (fun q => nomatch q)
theorem key_rl (a : Str) (b : Int) : decide ((Sum.inr a : Key) = Sum.inl b) = false := decide_eq_false (fun q => nomatch q)

def mixKind (prog : Program) (w : World) : PySem.KeyKind prog w Key where
  is := keyIs
  hash := keyH w
  inj := fun v a b ha hb => by
    rcases keyIs_shape ha with ⟨i, t, rfl, rfl⟩ | ⟨x, t, rfl, rfl⟩
    · rcases keyIs_shape hb with ⟨j, u, rfl, e⟩ | ⟨y, u, rfl, e⟩
      · injection e with e1 _; rw [e1]
      · exact nomatch e
    · rcases keyIs_shape hb with ⟨j, u, rfl, e⟩ | ⟨y, u, rfl, e⟩
      · exact nomatch e
      · injection e with e1 _; rw [e1]
  byValue := fun k v h => by
    rcases keyIs_shape h with ⟨i, t, rfl, rfl⟩ | ⟨x, t, rfl, rfl⟩ <;> rfl
  pyHash := fun hv h => by
    rcases keyIs_shape hv with ⟨i, t, rfl, rfl⟩ | ⟨x, t, rfl, rfl⟩
    · exact wpAny_pyHash_int h
    · exact wpAny_pyHash_str h
  eqBool := fun hu hv h => by
    rcases keyIs_shape hu with ⟨i, t, rfl, rfl⟩ | ⟨x, t, rfl, rfl⟩
    · rcases keyIs_shape hv with ⟨j, u, rfl, rfl⟩ | ⟨y, u, rfl, rfl⟩
      · rw [key_ll] at h; exact wpAny_eqBool_int h
      · rw [key_lr] at h; exact SeqAt.EqAt.int_str i t y u _ _ _ _ h
    · rcases keyIs_shape hv with ⟨j, u, rfl, rfl⟩ | ⟨y, u, rfl, rfl⟩
      · rw [key_rl] at h; exact SeqAt.EqAt.str_int x t j u _ _ _ _ h
      · rw [key_rr] at h; exact wpAny_eqBool_str h
  «strs» := fun k x t v h => by
    rcases keyIs_shape h with ⟨i, u, rfl, e⟩ | ⟨y, u, rfl, e⟩
    · exact nomatch e
    · injection e with e1 _
      subst e1
      cases v <;> rfl

theorem mixKind_is (prog : Program) (w : World) (k : Key) (v : Value) : (mixKind prog w).is k v = keyIs k v := rfl
theorem mixKind_int (prog : Program) (w : World) (i : Int) (t : Tok) : (mixKind prog w).is (.inl i) (.int i t) = true := keyIs_int i t
theorem mixKind_str (prog : Program) (w : World) (x : Str) (t : Tok) : (mixKind prog w).is (.inr x) (.str x t) = true := keyIs_str x t
end L2

namespace L2
open PySem PySem.Spec PyProof.Rows

/-- a value, without the heap -/
inductive V where
  | non | bl (b : Bool) | int (i : Int) | str (x : Str) | byt (b : Array UInt8) | flt (b : UInt64) | ref (a : Addr) | ty (n : String)
  deriving DecidableEq

def RelV : V → Value → Prop
  | .non, u => u = Value.none
  | .bl b, u => u = Value.bool b
  | .int i, u => ∃ t, u = Value.int i t
  | .str x, u => ∃ t, u = Value.str x t
  | .byt b, u => ∃ t, u = Value.bytes b t
  | .flt b, u => ∃ t, u = Value.float b t
  | .ref a, u => u = Value.ref a
  | .ty n, u => u = Value.type n

abbrev Vals : List V → List Value → Prop := Paired RelV
theorem Vals.length {xs : List V} {us : List Value} (r : Vals xs us) : xs.length = us.length := Paired.length r
theorem Vals.get : ∀ {xs : List V} {us : List Value} {i : Nat} {x : V}, Vals xs us → xs[i]? = some x → ∃ u, us[i]? = some u ∧ RelV x u
  | _, _, _, _, .nil, e => by simp at e
  | _, _, 0, _, .cons r _, e => by simp at e; subst e; exact ⟨_, rfl, r⟩
  | _, _, i + 1, x, .cons _ t, e => by
    obtain ⟨u, h1, h2⟩ := Vals.get (i := i) (x := x) t (by simpa using e)
    exact ⟨u, by simpa using h1, h2⟩
theorem Vals.set {x : V} {u : Value} (r : RelV x u) : ∀ {xs : List V} {us : List Value} (i : Nat), Vals xs us → Vals (xs.set i x) (us.set i u)
  | _, _, _, .nil => .nil
  | _, _, 0, .cons _ t => .cons r t
  | _, _, i + 1, .cons q t => .cons q (Vals.set r i t)
theorem Vals.append : ∀ {xs ys : List V} {us ws : List Value}, Vals xs us → Vals ys ws → Vals (xs ++ ys) (us ++ ws)
  | _, _, _, _, .nil, s => s
  | _, _, _, _, .cons r t, s => .cons r (Vals.append t s)
theorem Vals.take : ∀ {xs : List V} {us : List Value} (n : Nat), Vals xs us → Vals (xs.take n) (us.take n)
  | _, _, 0, _ => .nil
  | _, _, _ + 1, .nil => .nil
  | _, _, n + 1, .cons r t => .cons r (Vals.take n t)
theorem Vals.drop : ∀ {xs : List V} {us : List Value} (n : Nat), Vals xs us → Vals (xs.drop n) (us.drop n)
  | _, _, 0, r => r
  | _, _, _ + 1, .nil => .nil
  | _, _, n + 1, .cons _ t => Vals.drop n t

def RelO : Option V → Option Value → Prop
  | some v, some u => RelV v u
  | none, none => True
  | _, _ => False
def KV {κ : Type} : List (κ × V) → List (κ × Value) → Prop := Paired fun (p : κ × V) (q : κ × Value) => p.1 = q.1 ∧ RelV p.2 q.2

/-- a key of a dict (00_mix): an int or a text -/
def kV : Key → V
  | .inl i => .int i
  | .inr x => .str x

/-- what stands at a tracked address -/
inductive HO where
  /-- a list -/
  | lst (xs : List V)
  /-- a tuple (never changes) -/
  | tup (xs : List V)
  /-- a dict whose keys are ints and texts; one whose keys are tuples of ints and texts (the empty one is both) -/
  | dK (kvs : List (Key × V)) | dT (kvs : List (List Key × V))
  /-- a set of ints: its members, its size -/
  | set (S : Int → Bool) (n : Nat)
  /-- an instance of the class at C, its dict at dx, its attributes -/
  | ins (C dx : Addr) (fs : List (Str × V))
  /-- the dict of the instance at x -/
  | own (x : Addr)
  /-- the dict of an exception -/
  | xd (fs : List (Str × V))
  /-- a bound method, f of x -/
  | met (f x : Addr)
  /-- a range object lo, lo + 1, .. below hi -/
  | rng (lo hi : Int)
  /-- a thing that is known to the object (the script; a dict while a loop walks it): read, never written while it is so -/
  | frz (o : Obj) (u : HO)
  /-- a code object's table -/
  | tbl (ps : Array Value)
  /-- any other thing, by what is true of its one object (a def of one's own: SetO a S n := HO.ext fun h => ..) -/
  | ext (φ : Heap → Prop)

abbrev Hp := Addr → Option HO
def upd (H : Hp) (a : Addr) (o : HO) : Hp := fun b => if b = a then some o else H b
theorem upd_same {H : Hp} {a : Addr} {o : HO} : upd H a o a = some o := by unfold upd; rw [if_pos rfl]
theorem upd_ne {H : Hp} {a b : Addr} {o : HO} (h : b ≠ a) : upd H a o b = H b := by unfold upd; rw [if_neg h]
theorem upd_upd {H : Hp} {a : Addr} {o u : HO} : upd (upd H a o) a u = upd H a u := by
  funext b; unfold upd; split <;> rfl
/-- two objects of different content stand apart -/
theorem ne_of {H : Hp} {a b : Addr} {o u : HO} (h : H a = some o) (h' : H b = some u) (d : o ≠ u) : a ≠ b := by
  intro e; subst e; rw [h] at h'; exact d (Option.some.inj h')
theorem ne_of_none {H : Hp} {a b : Addr} {o : HO} (h : H a = some o) (h' : H b = none) : a ≠ b := by
  intro e; subst e; rw [h] at h'; cases h'

section
variable (P : Program) (w : World)
def ObjOk (H : Hp) (h : Heap) (a : Addr) : HO → Prop
  | .lst xs => xs.length ≤ sizeLine ∧ ∃ (its : List Value) (n : Nat), Vals xs its ∧ h.get? a = some { cls := .type "list", data := .seq its.toArray n }
  | .tup xs => xs.length ≤ sizeLine ∧ ∃ its : List Value, Vals xs its ∧ IsTup h a its.toArray
  | .dK kvs => kvs.length ≤ sizeLine ∧ (a == sysModules) = false ∧ ∃ vs, KV kvs vs ∧ h.DictOf (mixKind P w) a vs
  | .dT kvs => kvs.length ≤ sizeLine ∧ (a == sysModules) = false ∧ ∃ xs : List (List Key × Addr × Value),
      Paired (fun (p : List Key × V) (q : List Key × Addr × Value) => p.1 = q.1 ∧ H q.2.1 = some (.tup (p.1.map kV)) ∧ RelV p.2 q.2.2) kvs xs ∧
      ∃ o es ep, h.get? a = some o ∧ o.ExactDict ∧ o.data = .dict es ep ∧ es.toList = xs.map (entryOfKey (tupleKind (mixKind P w))) ∧ (xs.map (·.1)).Nodup
  | .set S n => h.SetOf (intKind P w) a S n
  | .ins C dx fs => H dx = some (.own a) ∧ fs.length ≤ 1000 ∧ dx ≠ a ∧ h.get? a = some (PySem.W.instObj C dx) ∧
      ∃ mA, h.Ns1 dx mA ∧ (∀ f, RelO (fs.lookup f) (mA f)) ∧ PySem.Within mA (fs.map (·.1))
  | .own _ => ∃ o, h.get? a = some o
  | .xd fs => ∃ mA, h.Ns1 a mA ∧ ∀ f, RelO (fs.lookup f) (mA f)
  | .rng lo hi => ∃ t u v, h.get? a = some { cls := .type "range", data := .fields #[.int lo t, .int hi u, .int 1 v] }
  | .frz o u => h.get? a = some o ∧ ObjOk H h a u
  | .tbl ps => h.get? a = some { cls := .none, data := .fields ps }
  | .met f x => h.get? a = some (PySem.W.methodObj (.ref f) (.ref x))
  | .ext φ => φ h ∧ (∃ o, h.get? a = some o) ∧ ∀ h1 h2 : Heap, φ h1 → (∀ o, h1.get? a = some o → h2.get? a = some o) → φ h2
/-- the abstract heap is held -/
def HOk (H : Hp) (h : Heap) : Prop := ∀ a o, H a = some o → ObjOk P w H h a o
end

section
variable {P : Program} {w : World} {H H' : Hp} {h h' : Heap} {a : Addr} {o : HO}
theorem ObjOk.lt (x : ObjOk P w H h a o) : a < h.objs.size := by
  cases o with
  | lst xs => obtain ⟨_, _, _, _, e⟩ := x; exact Heap.lt_size e
  | tup xs => obtain ⟨_, _, _, p⟩ := x; exact p.lt
  | dK kvs => obtain ⟨_, _, _, _, o, _, _, e, _⟩ := x; exact Heap.lt_size e
  | dT kvs => obtain ⟨_, _, _, _, o, _, _, e, _⟩ := x; exact Heap.lt_size e
  | set S n => obtain ⟨o, _, _, _, e, _⟩ := x; exact Heap.lt_size e
  | ins C dx fs => obtain ⟨_, _, _, e, _⟩ := x; exact Heap.lt_size e
  | own y => obtain ⟨_, e⟩ := x; exact Heap.lt_size e
  | xd fs => obtain ⟨_, ⟨_, _, _, e, _⟩, _⟩ := x; exact Heap.lt_size e
  | rng lo hi => obtain ⟨_, _, _, e⟩ := x; exact Heap.lt_size e
  | frz ob u => obtain ⟨e, _⟩ := x; exact Heap.lt_size e
  | tbl ps => exact Heap.lt_size (show h.get? a = some _ from x)
  | met f y => exact Heap.lt_size (show h.get? a = some _ from x)
  | ext φ => obtain ⟨_, ⟨_, e⟩, _⟩ := x; exact Heap.lt_size e
theorem Paired.mapP {α β : Type} {F G : α → β → Prop} : ∀ {l₁ : List α} {l₂ : List β}, Paired F l₁ l₂ → (∀ a b, F a b → G a b) → Paired G l₁ l₂
  | _, _, .nil, _ => .nil
  | _, _, .cons r t, f => .cons (f _ _ r) (Paired.mapP t f)
/-- what an object's description leans on: its own object, its own dict, the tuples -/
theorem ObjOk.stay (x : ObjOk P w H h a o) (k : ∀ b u, (b = a ∨ H b = some (.own a)) → h.get? b = some u → h'.get? b = some u)
    (ho : ∀ b, H b = some (.own a) → H' b = some (.own a)) (ht : ∀ b xs, H b = some (.tup xs) → H' b = some (.tup xs)) : ObjOk P w H' h' a o := by
  induction o with
  | lst xs => obtain ⟨z, its, n, r, e⟩ := x; exact ⟨z, its, n, r, k _ _ (.inl rfl) e⟩
  | tup xs => obtain ⟨z, its, r, ob, e, c⟩ := x; exact ⟨z, its, r, ob, k _ _ (.inl rfl) e, c⟩
  | dK kvs => obtain ⟨z, y, vs, r, ob, es, ep, e, c⟩ := x; exact ⟨z, y, vs, r, ob, es, ep, k _ _ (.inl rfl) e, c⟩
  | dT kvs =>
    obtain ⟨z, y, xs, r, ob, es, ep, e, c⟩ := x
    exact ⟨z, y, xs, Paired.mapP r fun p q z => ⟨z.1, ht _ _ z.2.1, z.2.2⟩, ob, es, ep, k _ _ (.inl rfl) e, c⟩
  | set S n => obtain ⟨ob, es, ep, t, e, c⟩ := x; exact ⟨ob, es, ep, t, k _ _ (.inl rfl) e, c⟩
  | ins C dx fs =>
    obtain ⟨d, z, ne, e, mA, ⟨od, es, ep, e2, c⟩, r⟩ := x
    exact ⟨ho _ d, z, ne, k _ _ (.inl rfl) e, mA, ⟨od, es, ep, k _ _ (.inr d) e2, c⟩, r⟩
  | own y => obtain ⟨ob, e⟩ := x; exact ⟨ob, k _ _ (.inl rfl) e⟩
  | xd fs => obtain ⟨mA, ⟨od, es, ep, e, c⟩, r⟩ := x; exact ⟨mA, ⟨od, es, ep, k _ _ (.inl rfl) e, c⟩, r⟩
  | rng lo hi => obtain ⟨t, u, v, e⟩ := x; exact ⟨t, u, v, k _ _ (.inl rfl) e⟩
  | frz ob u ih => obtain ⟨e, q⟩ := x; exact ⟨k _ _ (.inl rfl) e, ih q⟩
  | tbl ps =>
    have e : h.get? a = some { cls := .none, data := .fields ps } := x
    show h'.get? a = some { cls := .none, data := .fields ps }
    exact k a _ (.inl rfl) e
  | met f y =>
    have e : h.get? a = some (PySem.W.methodObj (.ref f) (.ref y)) := x
    show h'.get? a = some (PySem.W.methodObj (.ref f) (.ref y))
    exact k a _ (.inl rfl) e
  | ext φ => obtain ⟨p, ⟨o, e⟩, st⟩ := x; exact ⟨st _ _ p fun o q => k _ _ (.inl rfl) q, ⟨o, k _ _ (.inl rfl) e⟩, st⟩
theorem HOk.lt (x : HOk P w H h) (e : H a = some o) : a < h.objs.size := (x a o e).lt
theorem HOk.fresh (x : HOk P w H h) (e : h.objs.size ≤ a) : H a = none := by
  cases q : H a with
  | none => rfl
  | some u => exact absurd (Nat.lt_of_lt_of_le (x.lt q) e) (Nat.lt_irrefl _)
/-- every object of the heap is kept -/
theorem HOk.kept (x : HOk P w H h) (k : ∀ b u, h.get? b = some u → h'.get? b = some u) : HOk P w H h' := fun a o e =>
  (x a o e).stay (fun b u _ q => k b u q) (fun _ q => q) fun _ _ q => q
/-- a new object is laid and tracked -/
theorem HOk.laid (x : HOk P w H h) (k : ∀ b u, h.get? b = some u → h'.get? b = some u) (hp : h.objs.size ≤ a) (new : ObjOk P w (upd H a o) h' a o) : HOk P w (upd H a o) h' := fun b u e => by
  have hn := x.fresh hp
  by_cases hb : b = a
  · subst hb; rw [upd_same] at e; cases e; exact new
  · rw [upd_ne hb] at e
    exact (x b u e).stay (fun c v _ q => k c v q) (fun c q => by rw [upd_ne (ne_of_none q hn)]; exact q) fun c xs q => by rw [upd_ne (ne_of_none q hn)]; exact q
end

/-- what may be read as u: it is u, or a known u -/
def Rd (H : Hp) (a : Addr) (u : HO) : Prop := H a = some u ∨ ∃ o, H a = some (.frz o u)
theorem Rd.of {H : Hp} {a : Addr} {u : HO} (h : H a = some u) : Rd H a u := .inl h
theorem Rd.ok {P : Program} {w : World} {H : Hp} {h : Heap} {a : Addr} {u : HO} (r : Rd H a u) (x : HOk P w H h) : ObjOk P w H h a u := by
  rcases r with r | ⟨o, r⟩
  · exact x a u r
  · obtain ⟨_, q⟩ := x a _ r
    exact q
/-- what may be written -/
def Mut : Option HO → Prop
  | some (.lst _) => True
  | some (.dK _) => True
  | some (.dT _) => True
  | some (.set _ _) => True
  | some (.ins _ _ _) => True
  | some (.ext _) => True
  | _ => False
section
variable {P : Program} {w : World} {H : Hp} {h h' : Heap} {x e : Addr} {o' : HO}
/-- the object at e is changed: x itself, or the dict of the instance x -/
theorem HOk.write (ok : HOk P w H h) (mu : Mut (H x)) (he : e = x ∨ H e = some (.own x)) (k : ∀ b u, b ≠ e → h.get? b = some u → h'.get? b = some u) (heo : ∃ u, h'.get? e = some u)
    (new : ObjOk P w (upd H x o') h' x o') : HOk P w (upd H x o') h' := fun b u q => by
  have nown : ∀ c y, H c = some (.own y) → c ≠ x := fun c y r z => by subst z; rw [r] at mu; exact mu
  have ntup : ∀ c xs, H c = some (.tup xs) → c ≠ x := fun c xs r z => by subst z; rw [r] at mu; exact mu
  by_cases hb : b = x
  · subst hb; rw [upd_same] at q; cases q; exact new
  · rw [upd_ne hb] at q
    by_cases hbe : b = e
    · have q' : H b = some (.own x) := by
        rcases he with z | z
        · exact absurd (hbe.trans z) hb
        · rw [hbe]; exact z
      rw [q] at q'; cases q'
      obtain ⟨v, hv⟩ := heo
      exact ⟨v, by rw [hbe]; exact hv⟩
    · refine (ok b u q).stay (fun c v hc r => k c v ?_ r) (fun c r => by rw [upd_ne (nown c b r)]; exact r) fun c xs r => by rw [upd_ne (ntup c xs r)]; exact r
      rcases hc with rfl | hc
      · exact hbe
      · rintro rfl
        rcases he with z | z
        · exact nown c b hc z
        · rw [hc] at z; cases z; exact hb rfl
end

/-! ### kept unless tracked; of the frames at fs (the callers') the slots may change (an exception that passes writes there); of the records at ex (iterators) nothing is said -/
structure Un (fs ex : List Addr) (H H' : Hp) (h h' : Heap) : Prop where
  keep : ∀ b o, h.get? b = some o → H b = none → b ∉ fs → b ∉ ex → h'.get? b = some o
  slot : ∀ b o, h.get? b = some o → H b = none → b ∈ fs → b ∉ ex → ∃ sl, h'.get? b = some { o with slots := sl }
  free : ∀ b o, h.get? b = some o → H b = none → b ∉ ex → H' b = none
  there : ∀ b o, h.get? b = some o → b ∉ ex → ∃ o', h'.get? b = some o'
  tups : ∀ b xs, H b = some (.tup xs) → H' b = some (.tup xs)
  frzs : ∀ b o u, H b = some (.frz o u) → H' b = some (.frz o u)
  tbls : ∀ b ps, H b = some (.tbl ps) → ∃ more, H' b = some (.tbl (ps ++ more))
section
variable {fs fs' ex ex' : List Addr} {H H1 H2 : Hp} {h h1 h2 h' : Heap} {a x e : Addr} {o : HO}
theorem Un.any (u : Un fs ex H H1 h h1) {b : Addr} {ob : Obj} (q : h.get? b = some ob) (n : H b = none) (hx : b ∉ ex) : ∃ sl, h1.get? b = some { ob with slots := sl } := by
  by_cases hb : b ∈ fs
  · exact u.slot b ob q n hb hx
  · exact ⟨ob.slots, u.keep b ob q n hb hx⟩
theorem Un.trans (a : Un fs ex H H1 h h1) (b : Un fs ex H1 H2 h1 h2) : Un fs ex H H2 h h2 where
  keep := fun c ob q n hc hx => b.keep c ob (a.keep c ob q n hc hx) (a.free c ob q n hx) hc hx
  slot := fun c ob q n hc hx => by
    obtain ⟨sl, e1⟩ := a.slot c ob q n hc hx
    obtain ⟨sl', e2⟩ := b.slot c _ e1 (a.free c ob q n hx) hc hx
    exact ⟨sl', e2⟩
  free := fun c ob q n hx => by
    obtain ⟨o', e1⟩ := a.there c ob q hx
    exact b.free c o' e1 (a.free c ob q n hx) hx
  there := fun c ob q hx => by
    obtain ⟨o', e1⟩ := a.there c ob q hx
    exact b.there c o' e1 hx
  tups := fun c xs q => b.tups c xs (a.tups c xs q)
  frzs := fun c ob xs q => b.frzs c ob xs (a.frzs c ob xs q)
  tbls := fun c ps q => by
    obtain ⟨m1, e1⟩ := a.tbls c ps q
    obtain ⟨m2, e2⟩ := b.tbls c _ e1
    exact ⟨m1 ++ m2, by rw [e2, Array.append_assoc]⟩
theorem Un.kept (k : ∀ b u, h.get? b = some u → h'.get? b = some u) : Un fs ex H H h h' :=
  ⟨fun b ob q _ _ _ => k b ob q, fun b ob q _ _ _ => ⟨ob.slots, k b ob q⟩, fun _ _ _ n _ => n, fun b ob q _ => ⟨ob, k b ob q⟩, fun _ _ q => q, fun _ _ _ q => q, fun _ ps q => ⟨#[], by rw [q]; simp⟩⟩
theorem Un.refl : Un fs ex H H h h := Un.kept fun _ _ q => q
theorem Un.laid (k : ∀ b u, h.get? b = some u → h'.get? b = some u) (hp : h.objs.size ≤ a) (hn : H a = none) : Un fs ex H (upd H a o) h h' where
  keep := fun b u q _ _ _ => k b u q
  slot := fun b u q _ _ _ => ⟨u.slots, k b u q⟩
  free := fun b u q n _ => by rw [upd_ne (Nat.ne_of_lt (Nat.lt_of_lt_of_le (Heap.lt_size q) hp))]; exact n
  there := fun b u q _ => ⟨u, k b u q⟩
  tups := fun b xs q => by rw [upd_ne (ne_of_none q hn)]; exact q
  frzs := fun b u xs q => by rw [upd_ne (ne_of_none q hn)]; exact q
  tbls := fun b ps q => ⟨#[], by rw [upd_ne (ne_of_none q hn), q]; simp⟩
theorem Un.write (mu : Mut (H x)) (he : e = x ∨ H e = some (.own x)) (k : ∀ b u, b ≠ e → h.get? b = some u → h'.get? b = some u) (heo : ∃ u, h'.get? e = some u) : Un fs ex H (upd H x o) h h' := by
  have hx : ∀ b, H b = none → b ≠ x := fun b n z => by subst z; rw [n] at mu; exact mu
  have hb : ∀ b, H b = none → b ≠ e := fun b n z => by
    subst z
    rcases he with r | r
    · exact hx b n r
    · rw [n] at r; cases r
  have hm : ∀ b u, H b = some u → ¬ Mut (some u) → b ≠ x := fun b u q nm z => by subst z; rw [q] at mu; exact nm mu
  refine ⟨fun b u q n _ _ => k b u (hb b n) q, fun b u q n _ _ => ⟨u.slots, k b u (hb b n) q⟩, fun b u q n _ => by rw [upd_ne (hx b n)]; exact n, fun b u q _ => ?_,
    fun b xs q => by rw [upd_ne (hm b _ q fun z => z)]; exact q, fun b u xs q => by rw [upd_ne (hm b _ q fun z => z)]; exact q, fun b ps q => ⟨#[], by rw [upd_ne (hm b _ q fun z => z), q]; simp⟩⟩
  by_cases hbe : b = e
  · subst hbe; exact heo
  · exact ⟨u, k b u hbe q⟩
theorem Un.mono (u : Un fs ex H H1 h h1) (hs : ∀ b ∈ fs, b ∈ fs') (hx : ∀ b ∈ ex, b ∈ ex') : Un fs' ex' H H1 h h1 :=
  ⟨fun b ob q n hb he => u.keep b ob q n (fun z => hb (hs b z)) fun z => he (hx b z), fun _ _ q n _ he => u.any q n fun z => he (hx _ z), fun b ob q n he => u.free b ob q n fun z => he (hx b z), fun b ob q he => u.there b ob q fun z => he (hx b z), u.tups, u.frzs, u.tbls⟩
end

/-! ### the heap without what is tracked -/
def trk (h : Heap) (H : Hp) : List Addr := (List.range h.objs.size).filter fun a => (H a).isSome
def hidT (h : Heap) (H : Hp) : Heap := PySem.W.hideAll h (trk h H)
theorem hidT_size (h : Heap) (H : Hp) : (hidT h H).objs.size = h.objs.size := PySem.W.hideAll_size _ _
theorem hidT_get {h : Heap} {H : Hp} {b : Addr} {o : Obj} (e : h.get? b = some o) (n : H b = none) : (hidT h H).get? b = some o :=
  PySem.W.hideAll_get _ e fun hm => by
    have q : (H b).isSome = true := (List.mem_filter.mp hm).2
    rw [n] at q; simp at q
theorem of_hidT {h : Heap} {H : Hp} {b : Addr} {o : Obj} (e : (hidT h H).get? b = some o) : h.get? b = some o ∧ H b = none := by
  have e' : h.get? b = some o := PySem.W.of_hideAll (trk h H) e
  refine ⟨e', ?_⟩
  cases q : H b with
  | none => rfl
  | some x =>
    have hm : b ∈ trk h H := List.mem_filter.mpr ⟨List.mem_range.mpr (Heap.lt_size e'), by simp [q]⟩
    have z : (hidT h H).get? b = none := PySem.W.hideAll_none (trk h H) hm
    rw [z] at e; cases e

/-! ### OpenK's ledger, filled with every new object but one -/
end L2

namespace L2
open PySem PySem.Spec PyProof.Rows

/-- the module's facts, over the base: the heap at the law's entry without what is tracked there -/
structure Mod (K : PySem.W.Frag) (mg : Str → Option Value) (base : Heap) : Prop where
  kin : K.In base
  glob : base.Ns mainGlobals mg
  blt : ∃ mb, base.Ns builtinsNs mb ∧ ∀ x : Str, x ≠ "__name__" → mb x = bootBuiltins x
  nolimit : base.NoLimit

/-- the context: a def's body (or a comprehension's block) running. base: fixed through the whole law; s₀, H₀: the entry; outer: the frames whose slots others may change (a def's callers); stack: all frames that run;
   ex: iterators that were made ahead of the entry and are walked here (a comprehension's); fn: the names whose cells were made at the entry (a def: all; a comprehension's block: its own); calm: not within an except suite; pn: pins that every state bears; xe: what is wanted of an exception that leaves the code -/
structure Cx where
  prog : Program
  w : World
  K : PySem.W.Frag
  mg : Str → Option Value
  base : Heap
  A : Around
  N : List Str
  s₀ : Shared
  H₀ : Hp
  env : Env
  outer : List Env
  stack : List Env
  ex : List Addr
  fn : Str → Bool
  calm : Bool
  pn : List (Addr × Obj)
  xe : Value → Shared → Prop
/-- the callers' frames -/
def frs (l : List Env) : List Addr := l.filterMap (·.frame)
abbrev Cx.fs (X : Cx) : List Addr := frs X.outer

def Vis (sc : Scope) (x : Str) : Prop := sc.names.lookup x = some .local ∨ sc.names.lookup x = some .cell ∨ sc.names.lookup x = some .free
def Loc (sc : Scope) (x : Str) : Prop := sc.names.lookup x = some .local ∨ sc.names.lookup x = some .cell
def Look (env : Env) (h : Heap) (m : Str → Option Value) (x : Str) (u : Value) : Prop :=
  (env.kindOf x = some .local ∧ m x = some u) ∨ ((env.kindOf x = some .cell ∨ env.kindOf x = some .free) ∧ ∃ c, env.cells.lookup x = some c ∧ h.IsCell c (some u))

structure Cx.Ok (X : Cx) : Prop where
  mod : Mod X.K X.mg X.base
  kind : X.env.scope.kind = .function
  glob : X.env.globals = mainGlobals
  blt : X.env.builtins = builtinsNs
  above : X.s₀.heap.objs.size ≤ X.env.locals
  inj : ∀ x y c, X.env.cells.lookup x = some c → X.env.cells.lookup y = some c → x = y
  has : ∀ x, (X.env.kindOf x = some .cell ∨ X.env.kindOf x = some .free) → ∃ c, X.env.cells.lookup x = some c
  cab : ∀ x c, X.fn x = true → X.env.cells.lookup x = some c → X.s₀.heap.objs.size ≤ c
  hd : X.calm = true → X.A.handled = none
  frames : X.A.frames = some X.stack
  stk : X.stack = X.outer ∨ (X.stack = X.env :: X.outer ∧ X.env.frame = some X.env.locals)
  exf : ∀ b ∈ X.ex, b ≠ X.env.locals ∧ ∀ x c, X.env.cells.lookup x = some c → c ≠ b
  bs : ∀ b o, X.base.get? b = some o → X.s₀.heap.get? b = some o ∧ X.H₀ b = none
  bsz : X.base.objs.size ≤ X.s₀.heap.objs.size
  noex : ∀ b o, X.base.get? b = some o → b ∉ X.ex
  exfs : ∀ b ∈ X.ex, b ∉ X.fs
  funs : X.s₀.heap.FunFrames X.base X.outer
  frf : ∀ b ∈ X.fs, X.H₀ b = none

structure Inv (X : Cx) (pins : List (Addr × Obj)) (σ : List (Option V)) (H : Hp) (s : Shared) : Prop where
  ok : X.Ok
  os : s.os = X.s₀.os
  bare : AllBare s.gens
  base : Un X.fs X.ex X.H₀ H X.s₀.heap s.heap
  loc : ∃ m, s.heap.Ns X.env.locals m ∧ ∀ (i : Nat) (x : Str) (v : V), X.N[i]? = some x → σ[i]? = some (some v) → Vis X.env.scope x → ∃ u, RelV v u ∧ Look X.env s.heap m x u
  cell : ∀ x c, X.env.cells.lookup x = some c → ∃ v, s.heap.IsCell c v
  free : H X.env.locals = none
  freeC : ∀ x c, X.env.cells.lookup x = some c → H c = none
  pin : ∀ p ∈ X.pn ++ pins, s.heap.get? p.1 = some p.2 ∧ H p.1 = none ∧ p.1 ≠ X.env.locals ∧ p.1 ∉ X.fs ∧ ∀ v, p.2.data ≠ .cell v
  hok : HOk X.prog X.w H s.heap
  len : σ.length = X.N.length

section
variable {X : Cx} {pins : List (Addr × Obj)} {σ : List (Option V)} {H H' : Hp} {s : Shared} {h' : Heap}

theorem Cx.Ok.nofr (ok : X.Ok) {b : Addr} {o : Obj} (e : X.base.get? b = some o) : b ∉ X.fs := fun hb => by
  have := (ok.funs.mem hb).1
  rw [e] at this; cases this
theorem Inv.bs (I : Inv X pins σ H s) : ∀ b o, X.base.get? b = some o → s.heap.get? b = some o ∧ H b = none := fun b o e =>
  ⟨I.base.keep b o (I.ok.bs b o e).1 (I.ok.bs b o e).2 (I.ok.nofr e) (I.ok.noex b o e), I.base.free b o (I.ok.bs b o e).1 (I.ok.bs b o e).2 (I.ok.noex b o e)⟩
theorem Inv.bk (I : Inv X pins σ H s) : ∀ b o, X.base.get? b = some o → s.heap.get? b = some o := fun b o e => (I.bs b o e).1
theorem Inv.mod (I : Inv X pins σ H s) : Mod X.K X.mg X.base := I.ok.mod
theorem Inv.kIn (I : Inv X pins σ H s) : X.K.In s.heap := I.ok.mod.kin.keeps I.bk
theorem Inv.lt (I : Inv X pins σ H s) : X.env.locals < s.heap.objs.size := let ⟨_, hn, _⟩ := I.loc; hn.lt
theorem Inv.sz (I : Inv X pins σ H s) : X.s₀.heap.objs.size ≤ s.heap.objs.size := Nat.le_trans I.ok.above (Nat.le_of_lt I.lt)
theorem Inv.nofs (I : Inv X pins σ H s) {a : Addr} (h : s.heap.objs.size ≤ a) : a ∉ X.fs := fun hb => by
  obtain ⟨_, o, ho, _⟩ := I.ok.funs.mem hb
  exact absurd (Nat.lt_of_lt_of_le (Heap.lt_size ho) (Nat.le_trans I.sz h)) (Nat.lt_irrefl _)
theorem Inv.cne (I : Inv X pins σ H s) : ∀ x c, X.env.cells.lookup x = some c → c ≠ X.env.locals := fun x c e z => by
  obtain ⟨v, o, ho, hd⟩ := I.cell x c e
  obtain ⟨m, ⟨o', es, ep, ho', hd', _⟩, _⟩ := I.loc
  rw [z, ho'] at ho; cases ho; rw [hd'] at hd; cases hd
theorem Inv.funs (I : Inv X pins σ H s) : s.heap.FunFrames X.base X.outer := by
  have all : ∀ (l : List Env), (∀ b ∈ frs l, b ∈ X.fs) → X.s₀.heap.FunFrames X.base l → s.heap.FunFrames X.base l := by
    intro l
    induction l with
    | nil => intro _ _; trivial
    | cons env r ih =>
      intro hs hl
      obtain ⟨hk, ⟨L, o, hf, hn, ho, hd⟩, hr⟩ := hl
      have hL : L ∈ X.fs := hs L (by unfold frs; rw [List.filterMap_cons, hf]; exact List.mem_cons_self)
      obtain ⟨sl, e⟩ := I.base.slot L o ho (I.ok.frf L hL) hL fun z => I.ok.exfs L z hL
      exact ⟨hk, ⟨L, _, hf, hn, e, hd⟩, ih (fun b hb => hs b (by unfold frs; rw [List.filterMap_cons, hf]; exact List.mem_cons_of_mem _ hb)) hr⟩
  exact all X.outer (fun _ hb => hb) I.ok.funs

/-- the frames that run, for a call -/
theorem Inv.stack (I : Inv X pins σ H s) : s.heap.FunFrames X.base X.stack := by
  rcases I.ok.stk with e | ⟨e, hf⟩
  · rw [e]; exact I.funs
  · rw [e]
    obtain ⟨m, hn, _⟩ := I.loc
    refine .cons (by rw [I.ok.kind]; decide) hf hn ?_ I.funs
    exact Heap.get?_none_of_le (Nat.le_trans I.ok.bsz I.ok.above)
theorem Inv.stkSub (I : Inv X pins σ H s) : ∀ b ∈ frs X.stack, b ∈ X.env.locals :: X.fs := fun b hb => by
  rcases I.ok.stk with e | ⟨e, hf⟩
  · rw [e] at hb; exact List.mem_cons_of_mem _ hb
  · rw [e] at hb
    unfold frs at hb
    rw [List.filterMap_cons, hf] at hb
    exact hb
theorem Inv.stkFree (I : Inv X pins σ H s) : ∀ b ∈ frs X.stack, H b = none := fun b hb => by
  rcases List.mem_cons.mp (I.stkSub b hb) with e | hb
  · rw [e]; exact I.free
  · obtain ⟨_, o, ho, _⟩ := I.ok.funs.mem hb
    exact I.base.free b o ho (I.ok.frf b hb) fun z => I.ok.exfs b z hb

/-- THE STEP: the untracked objects but the frame and the records at ch are kept (the callers' frames up to slots), the frame's map is kept, the new abstract heap is held -/
theorem Inv.step {g' : Array GenState} {t' : Nat} {d' : Drawn} {ch : List Addr} (I : Inv X pins σ H s)
    (hch : ∀ b ∈ ch, (b ∈ X.ex ∨ X.s₀.heap.objs.size ≤ b) ∧ b ≠ X.env.locals ∧ (∀ x c, X.env.cells.lookup x = some c → c ≠ b) ∧ ∀ p ∈ X.pn ++ pins, p.1 ≠ b)
    (keep : ∀ b o, b ≠ X.env.locals → b ∉ X.fs → b ∉ ch → s.heap.get? b = some o → H b = none → h'.get? b = some o)
    (slot : ∀ b o, b ≠ X.env.locals → b ∈ X.fs → b ∉ ch → s.heap.get? b = some o → H b = none → ∃ sl, h'.get? b = some { o with slots := sl }) (free : ∀ b o, b ∉ ch → s.heap.get? b = some o → H b = none → H' b = none)
    (there : ∀ b o, b ∉ ch → s.heap.get? b = some o → ∃ o', h'.get? b = some o')
    (tups : ∀ b xs, H b = some (.tup xs) → H' b = some (.tup xs)) (frzs : ∀ b o u, H b = some (.frz o u) → H' b = some (.frz o u)) (tbls : ∀ b ps, H b = some (.tbl ps) → ∃ more, H' b = some (.tbl (ps ++ more)))
    (ns : ∀ m, s.heap.Ns X.env.locals m → h'.Ns X.env.locals m) (hok : HOk X.prog X.w H' h') (hg : AllBare g') :
    Inv X pins σ H' { s with heap := h', gens := g', drawn := d', toks := t' } := by
  have neL : ∀ b o, X.s₀.heap.get? b = some o → b ≠ X.env.locals := fun b o e => Nat.ne_of_lt (Nat.lt_of_lt_of_le (Heap.lt_size e) I.ok.above)
  have neC : ∀ b o, X.s₀.heap.get? b = some o → b ∉ X.ex → b ∉ ch := fun b o e hx hb => by
    rcases (hch b hb).1 with z | z
    · exact hx z
    · exact absurd (Nat.lt_of_lt_of_le (Heap.lt_size e) z) (Nat.lt_irrefl _)
  have cellK : ∀ x c, X.env.cells.lookup x = some c → ∀ v, s.heap.IsCell c v → h'.IsCell c v := fun x c e v ⟨o, ho, hd⟩ => by
    have nch : c ∉ ch := fun z => (hch c z).2.2.1 x c e rfl
    by_cases hc : c ∈ X.fs
    · obtain ⟨sl, q⟩ := slot c o (I.cne x c e) hc nch ho (I.freeC x c e)
      exact ⟨_, q, hd⟩
    · exact ⟨o, keep c o (I.cne x c e) hc nch ho (I.freeC x c e), hd⟩
  refine ⟨I.ok, I.os, hg, ⟨fun b o e n hb hx => ?_, fun b o e n hb hx => ?_, fun b o e n hx => ?_, fun b o e hx => ?_, fun b xs e => tups b xs (I.base.tups b xs e), fun b o xs e => frzs b o xs (I.base.frzs b o xs e), fun b ps e => ?_⟩, ?_, fun x c e => ?_, ?_, fun x c e => ?_, fun p hp => ?_, hok, I.len⟩
  · exact keep b o (neL b o e) hb (neC b o e hx) (I.base.keep b o e n hb hx) (I.base.free b o e n hx)
  · obtain ⟨sl, e1⟩ := I.base.slot b o e n hb hx
    obtain ⟨sl', e2⟩ := slot b _ (neL b o e) hb (neC b o e hx) e1 (I.base.free b o e n hx)
    exact ⟨sl', e2⟩
  · obtain ⟨o', e1⟩ := I.base.there b o e hx
    exact free b o' (neC b o e hx) e1 (I.base.free b o e n hx)
  · obtain ⟨o', e1⟩ := I.base.there b o e hx
    exact there b o' (neC b o e hx) e1
  · obtain ⟨m1, e1⟩ := I.base.tbls b ps e
    obtain ⟨m2, e2⟩ := tbls b _ e1
    exact ⟨m1 ++ m2, by rw [e2, Array.append_assoc]⟩
  · obtain ⟨m, hn, hl⟩ := I.loc
    refine ⟨m, ns m hn, fun i x v e1 e2 e3 => ?_⟩
    obtain ⟨u, r, l⟩ := hl i x v e1 e2 e3
    refine ⟨u, r, ?_⟩
    rcases l with l | ⟨k, c, e, z⟩
    · exact .inl l
    · exact .inr ⟨k, c, e, cellK x c e _ z⟩
  · obtain ⟨v, z⟩ := I.cell x c e
    exact ⟨v, cellK x c e v z⟩
  · obtain ⟨m, ⟨o, _, _, ho, _⟩, _⟩ := I.loc
    exact free _ o (fun z => (hch _ z).2.1 rfl) ho I.free
  · obtain ⟨v, o, ho, hd⟩ := I.cell x c e
    exact free c o (fun z => (hch c z).2.2.1 x c e rfl) ho (I.freeC x c e)
  · obtain ⟨e, n, ne, nf, d⟩ := I.pin p hp
    have nch : p.1 ∉ ch := fun z => (hch p.1 z).2.2.2 p hp rfl
    exact ⟨keep p.1 p.2 ne nf nch e n, free p.1 p.2 nch e n, ne, nf, d⟩
/-- .. where the frame's own object is kept too -/
theorem Inv.un {t' : Nat} (I : Inv X pins σ H s) (u : Un X.fs [] H H' s.heap h') (hok : HOk X.prog X.w H' h') : Inv X pins σ H' { s with heap := h', toks := t' } := by
  obtain ⟨m, ⟨o, es, ep, ho, r⟩, _⟩ := id I.loc
  obtain ⟨sl, hL⟩ := u.any ho I.free (by simp)
  exact I.step (g' := s.gens) (d' := s.drawn) (ch := []) (fun _ z => nomatch z) (fun b o _ hb _ e n => u.keep b o e n hb (by simp)) (fun b o _ hb _ e n => u.slot b o e n hb (by simp)) (fun b o _ e n => u.free b o e n (by simp)) (fun b o _ e => u.there b o e (by simp)) u.tups u.frzs u.tbls (fun m' hm => by
    obtain ⟨o', es', ep', ho', r'⟩ := hm
    rw [ho] at ho'; cases ho'
    exact ⟨_, es', ep', hL, r'⟩) hok I.bare
/-- behind a call (or a comprehension's block): the slots of this frame may have changed too, the records at ch may have turned -/
theorem Inv.call {g' : Array GenState} {t' : Nat} {d' : Drawn} {ch : List Addr} (I : Inv X pins σ H s) (u : Un (frs X.stack) ch H H' s.heap h') (hok : HOk X.prog X.w H' h') (hg : AllBare g')
    (hch : ∀ b ∈ ch, (b ∈ X.ex ∨ X.s₀.heap.objs.size ≤ b) ∧ b ≠ X.env.locals ∧ (∀ x c, X.env.cells.lookup x = some c → c ≠ b) ∧ ∀ p ∈ X.pn ++ pins, p.1 ≠ b) :
    Inv X pins σ H' { s with heap := h', gens := g', drawn := d', toks := t' } := by
  obtain ⟨m, ⟨o, es, ep, ho, r⟩, _⟩ := id I.loc
  obtain ⟨sl, hL⟩ := u.any ho I.free fun z => (hch _ z).2.1 rfl
  exact I.step (ch := ch) hch (fun b o hL hb hc e n => u.keep b o e n (fun z => (List.mem_cons.mp (I.stkSub b z)).elim hL hb) hc) (fun b o _ _ hc e n => u.any e n hc) (fun b o hc e n => u.free b o e n hc) (fun b o hc e => u.there b o e hc) u.tups u.frzs u.tbls (fun m' hm => by
    obtain ⟨o', es', ep', ho', r'⟩ := hm
    rw [ho] at ho'; cases ho'
    exact ⟨_, es', ep', hL, r'⟩) hok hg
/-- an untracked record of ours (an iterator) has turned -/
theorem Inv.turned {t' : Nat} {it : Addr} (I : Inv X pins σ H s) (k : ∀ b o, b ≠ it → s.heap.get? b = some o → h'.get? b = some o) (hn : H it = none) (hL : it ≠ X.env.locals)
    (h1 : it ∈ X.ex ∨ X.s₀.heap.objs.size ≤ it) (h2 : ∀ x c, X.env.cells.lookup x = some c → c ≠ it) (h3 : ∀ p ∈ X.pn ++ pins, p.1 ≠ it) : Inv X pins σ H { s with heap := h', toks := t' } := by
  have nit : ∀ b u, H b = some u → b ≠ it := fun b u e z => by rw [z, hn] at e; cases e
  refine I.step (g' := s.gens) (d' := s.drawn) (ch := [it]) (fun b hb => ?_) (fun b o _ _ hc e _ => k b o (fun z => hc (by simp [z])) e) (fun b o _ _ hc e _ => ⟨o.slots, k b o (fun z => hc (by simp [z])) e⟩) (fun _ _ _ _ n => n)
    (fun b o hc e => ⟨o, k b o (fun z => hc (by simp [z])) e⟩) (fun _ _ e => e) (fun _ _ _ e => e) (fun b ps e => ⟨#[], by rw [e]; simp⟩) (fun m hm => ?_) (fun b u e => ?_) I.bare
  · have e : b = it := by simpa using hb
    subst e
    exact ⟨h1, hL, h2, h3⟩
  · obtain ⟨o, es, ep, ho, r⟩ := hm
    exact ⟨o, es, ep, k _ o (Ne.symm hL) ho, r⟩
  · refine (I.hok b u e).stay (fun c v hc q => k c v ?_ q) (fun _ q => q) fun _ _ q => q
    rcases hc with z | z
    · rw [z]; exact nit b u e
    · exact nit c _ z
theorem Inv.tok (I : Inv X pins σ H s) (t : Nat) : Inv X pins σ H { s with toks := t } := I.un (h' := s.heap) (t' := t) Un.refl I.hok
/-- all objects kept -/
theorem Inv.kept {t' : Nat} (I : Inv X pins σ H s) (k : ∀ b u, s.heap.get? b = some u → h'.get? b = some u) : Inv X pins σ H { s with heap := h', toks := t' } := I.un (Un.kept k) (I.hok.kept k)
/-- a new object laid and tracked -/
theorem Inv.laid {a : Addr} {o : HO} {t' : Nat} (I : Inv X pins σ H s) (k : ∀ b u, s.heap.get? b = some u → h'.get? b = some u) (hp : s.heap.objs.size ≤ a) (new : ObjOk X.prog X.w (upd H a o) h' a o) :
    Inv X pins σ (upd H a o) { s with heap := h', toks := t' } := I.un (Un.laid k hp (I.hok.fresh hp)) (I.hok.laid k hp new)
/-- an object written -/
theorem Inv.write {x e : Addr} {o : HO} {t' : Nat} (I : Inv X pins σ H s) (mu : Mut (H x)) (he : e = x ∨ H e = some (.own x)) (k : ∀ b u, b ≠ e → s.heap.get? b = some u → h'.get? b = some u) (heo : ∃ u, h'.get? e = some u)
    (new : ObjOk X.prog X.w (upd H x o) h' x o) : Inv X pins σ (upd H x o) { s with heap := h', toks := t' } := I.un (Un.write mu he k heo) (I.hok.write mu he k heo new)
theorem Inv.pins_of {pins' : List (Addr × Obj)} (I : Inv X pins σ H s) (h : ∀ p ∈ pins', s.heap.get? p.1 = some p.2 ∧ H p.1 = none ∧ p.1 ≠ X.env.locals ∧ p.1 ∉ X.fs ∧ ∀ v, p.2.data ≠ .cell v) : Inv X pins' σ H s :=
  ⟨I.ok, I.os, I.bare, I.base, I.loc, I.cell, I.free, I.freeC, fun p hp => (List.mem_append.mp hp).elim (fun z => I.pin p (List.mem_append_left _ z)) (h p), I.hok, I.len⟩

theorem nodup_ix {N : List Str} (hN : N.Nodup) {i j : Nat} {x : Str} (a : N[i]? = some x) (b : N[j]? = some x) : i = j := by
  obtain ⟨h1, e1⟩ := List.getElem?_eq_some_iff.mp a
  obtain ⟨h2, e2⟩ := List.getElem?_eq_some_iff.mp b
  exact (List.getElem_inj hN).mp (e1.trans e2.symm)

/-- a name is stored; what changed -/
theorem store_ok2 {M : Model} {A : Around} {E : Value → Shared → Prop} {i : Nat} {x : Str} {v : V} {u : Value} {Q : Unit → Shared → Prop} (I : Inv X pins σ H s) (hN : X.N.Nodup) (hi : X.N[i]? = some x) (hx : Loc X.env.scope x) (r : RelV v u)
    (h : ∀ s', Inv X pins (σ.set i (some v)) H s' → (∃ a, Heap.SameBut a s.heap s'.heap ∧ (a = X.env.locals ∨ X.env.cells.lookup x = some a)) → Q () s') (hf : X.fn x = true ∨ X.env.scope.names.lookup x = some .local := by first | exact .inl rfl | exact .inr rfl | assumption) : wpAny M A (storeName X.env x u) Q E s := by
  obtain ⟨m, hn, hl⟩ := id I.loc
  have hcls : (X.env.scope.kind == .class || (X.env.scope.kind == .module && X.env.locals != X.env.globals)) = false := by rw [I.ok.kind]; rfl
  have hiσ : i < σ.length := by rw [I.len]; exact (List.getElem?_eq_some_iff.mp hi).1
  have cne := I.cne
  have tracked : ∀ {a : Addr} {h' : Heap}, (∃ o, s.heap.get? a = some o ∧ H a = none) → Heap.SameBut a s.heap h' → HOk X.prog X.w H h' := fun {a h'} ha hs b ob e => by
    obtain ⟨_, _, hfree⟩ := ha
    refine (I.hok b ob e).stay (fun c w' hc q => (hs.2 c ?_).trans q) (fun _ q => q) fun _ _ q => q
    rintro rfl
    rcases hc with rfl | hc
    · rw [hfree] at e; cases e
    · rw [hfree] at hc; cases hc
  rcases hx with hk | hk
  · refine wpAny_storeName_local hk hn (fun h' hn' hs => ?_) hcls
    obtain ⟨oL, _, _, hoL, _⟩ := id hn
    refine h _ ⟨I.ok, I.os, I.bare, ⟨fun b o e n hb hx => ?_, fun b o e n hb hx => ?_, I.base.free, fun b o e hx => ?_, I.base.tups, I.base.frzs, I.base.tbls⟩, ⟨_, hn', fun j y v' e1 e2 e3 => ?_⟩, fun y c e => ?_, I.free, I.freeC, fun p hp => ?_, tracked ⟨oL, hoL, I.free⟩ hs, by simpa using I.len⟩ ⟨_, hs, .inl rfl⟩
    · exact (hs.2 b (Nat.ne_of_lt (Nat.lt_of_lt_of_le (Heap.lt_size e) I.ok.above))).trans (I.base.keep b o e n hb hx)
    · obtain ⟨sl, e1⟩ := I.base.slot b o e n hb hx
      exact ⟨sl, (hs.2 b (Nat.ne_of_lt (Nat.lt_of_lt_of_le (Heap.lt_size e) I.ok.above))).trans e1⟩
    · obtain ⟨o', e1⟩ := I.base.there b o e hx
      exact ⟨o', (hs.2 b (Nat.ne_of_lt (Nat.lt_of_lt_of_le (Heap.lt_size e) I.ok.above))).trans e1⟩
    · by_cases hj : j = i
      · subst hj
        rw [hi] at e1; cases e1
        rw [List.getElem?_set_self hiσ] at e2
        cases e2
        exact ⟨u, r, .inl ⟨hk, by simp⟩⟩
      · rw [List.getElem?_set_ne (Ne.symm hj)] at e2
        obtain ⟨u', r', q⟩ := hl j y v' e1 e2 e3
        refine ⟨u', r', ?_⟩
        rcases q with ⟨k, e⟩ | ⟨k, c, e, z⟩
        · refine .inl ⟨k, ?_⟩
          have : y ≠ x := fun e => hj (nodup_ix hN e1 (e ▸ hi))
          simp [this, e]
        · exact .inr ⟨k, c, e, z.sameBut hs (cne y c e)⟩
    · obtain ⟨w', z⟩ := I.cell y c e
      exact ⟨w', z.sameBut hs (cne y c e)⟩
    · obtain ⟨e, n, ne, nf, d⟩ := I.pin p hp
      exact ⟨(hs.2 p.1 ne).trans e, n, ne, nf, d⟩
  · have hfn : X.fn x = true := by
      rcases hf with z | z
      · exact z
      · rw [z] at hk; cases hk
    obtain ⟨c, hc⟩ := I.ok.has x (.inl hk)
    obtain ⟨w', z⟩ := I.cell x c hc
    refine wpAny_storeName_cell I.ok.kind hk hc z (fun h' hc' hs => ?_)
    obtain ⟨oc, hoc, hocd⟩ := id z
    refine h { s with heap := h' } ⟨I.ok, I.os, I.bare, ⟨fun b o e n hb hx => ?_, fun b o e n hb hx => ?_, I.base.free, fun b o e hx => ?_, I.base.tups, I.base.frzs, I.base.tbls⟩, ⟨m, hn.sameBut hs (Ne.symm (cne x c hc)), fun j y v' e1 e2 e3 => ?_⟩, fun y c' e => ?_, I.free, I.freeC, fun p hp => ?_, tracked ⟨oc, hoc, I.freeC x c hc⟩ hs, by simpa using I.len⟩ ⟨c, hs, .inr hc⟩
    · exact (hs.2 b (Nat.ne_of_lt (Nat.lt_of_lt_of_le (Heap.lt_size e) (I.ok.cab x c hfn hc)))).trans (I.base.keep b o e n hb hx)
    · obtain ⟨sl, e1⟩ := I.base.slot b o e n hb hx
      exact ⟨sl, (hs.2 b (Nat.ne_of_lt (Nat.lt_of_lt_of_le (Heap.lt_size e) (I.ok.cab x c hfn hc)))).trans e1⟩
    · obtain ⟨o', e1⟩ := I.base.there b o e hx
      exact ⟨o', (hs.2 b (Nat.ne_of_lt (Nat.lt_of_lt_of_le (Heap.lt_size e) (I.ok.cab x c hfn hc)))).trans e1⟩
    · by_cases hj : j = i
      · subst hj
        rw [hi] at e1; cases e1
        rw [List.getElem?_set_self hiσ] at e2
        cases e2
        exact ⟨u, r, .inr ⟨.inl hk, c, hc, hc'⟩⟩
      · rw [List.getElem?_set_ne (Ne.symm hj)] at e2
        obtain ⟨u', r', q⟩ := hl j y v' e1 e2 e3
        refine ⟨u', r', ?_⟩
        rcases q with q | ⟨k, c', e, z'⟩
        · exact .inl q
        · refine .inr ⟨k, c', e, z'.sameBut hs ?_⟩
          rintro rfl
          exact hj (nodup_ix hN e1 (I.ok.inj _ _ _ e hc ▸ hi))
    · by_cases hcc : c' = c
      · subst hcc; exact ⟨_, hc'⟩
      · obtain ⟨w2, z2⟩ := I.cell y c' e
        exact ⟨w2, z2.sameBut hs hcc⟩
    · obtain ⟨e, n, ne, nf, d⟩ := I.pin p hp
      refine ⟨(hs.2 p.1 ?_).trans e, n, ne, nf, d⟩
      intro q
      rw [q, hoc] at e
      have q' : oc = p.2 := Option.some.inj e
      exact d w' (by rw [← q']; exact hocd)
theorem store_ok {M : Model} {A : Around} {E : Value → Shared → Prop} {i : Nat} {x : Str} {v : V} {u : Value} {Q : Unit → Shared → Prop} (I : Inv X pins σ H s) (hN : X.N.Nodup) (hi : X.N[i]? = some x) (hx : Loc X.env.scope x) (r : RelV v u)
    (h : ∀ s', Inv X pins (σ.set i (some v)) H s' → Q () s') (hf : X.fn x = true ∨ X.env.scope.names.lookup x = some .local := by first | exact .inl rfl | exact .inr rfl | assumption) : wpAny M A (storeName X.env x u) Q E s :=
  store_ok2 I hN hi hx r (fun s' I' _ => h s' I') hf
/-- behind a call or a block, the state as it is -/
theorem Inv.call' {s' : Shared} {ch : List Addr} (I : Inv X pins σ H s) (ho : s'.os = s.os) (u : Un (frs X.stack) ch H H' s.heap s'.heap) (hok : HOk X.prog X.w H' s'.heap) (hg : AllBare s'.gens)
    (hch : ∀ b ∈ ch, (b ∈ X.ex ∨ X.s₀.heap.objs.size ≤ b) ∧ b ≠ X.env.locals ∧ (∀ x c, X.env.cells.lookup x = some c → c ≠ b) ∧ ∀ p ∈ X.pn ++ pins, p.1 ≠ b) : Inv X pins σ H' s' := by
  obtain ⟨h', g', d', t', o'⟩ := s'
  have e : o' = s.os := ho
  subst e
  exact I.call (g' := g') (t' := t') (d' := d') u hok hg hch
end

/-! ### the judgements -/
/-- an exception: its class, its own dict's address (where it has one), the abstract heap behind it -/
abbrev XK := Value → Option Addr → Hp → Prop
abbrev St := List (Option V)
abbrev VK := V → Hp → Prop
/-- an expression's reading; a test's; an argument list's -/
abbrev TE := St → Hp → VK → Prop
abbrev TT := St → Hp → (Bool → Hp → Prop) → Prop
abbrev TA := St → Hp → (List V → Hp → Prop) → Prop
/-- what is wanted behind a statement -/
structure Ends where
  nx : St → Hp → Prop
  rt : VK
  bk : St → Hp → Prop := fun _ _ => False
  ct : St → Hp → Prop := fun _ _ => False
abbrev TS := Ends → St → Hp → Prop

def EP (X : Cx) (pins : List (Addr × Obj)) (σ : St) (Q : VK) (u : Value) (s' : Shared) : Prop := ∃ v H', Inv X pins σ H' s' ∧ RelV v u ∧ Q v H'
def TP (X : Cx) (pins : List (Addr × Obj)) (σ : St) (Q : Bool → Hp → Prop) (b : Bool) (s' : Shared) : Prop := ∃ H', Inv X pins σ H' s' ∧ Q b H'
def AP (X : Cx) (pins : List (Addr × Obj)) (σ : St) (Q : List V → Hp → Prop) (us : List Value) (s' : Shared) : Prop := ∃ vs H', Inv X pins σ H' s' ∧ Vals vs us ∧ Q vs H'
def SP (X : Cx) (pins : List (Addr × Obj)) (D : Ends) (f : Flow) (s' : Shared) : Prop :=
  match f with
  | .next => ∃ σ' H', Inv X pins σ' H' s' ∧ D.nx σ' H'
  | .brk => ∃ σ' H', Inv X pins σ' H' s' ∧ D.bk σ' H'
  | .cont => ∃ σ' H', Inv X pins σ' H' s' ∧ D.ct σ' H'
  | .ret u => ∃ v σ' H', Inv X pins σ' H' s' ∧ RelV v u ∧ D.rt v H'

def PE (X : Cx) (e : Expr) (t : TE) : Prop :=
  ∀ (pins : List (Addr × Obj)) (s : Shared) (σ : St) (H : Hp) (Q : VK), Inv X pins σ H s → t σ H Q → wpAny (model X.prog X.w) X.A (eval e X.env) (EP X pins σ Q) X.xe s
def PT (X : Cx) (e : Expr) (t : TT) : Prop :=
  ∀ (pins : List (Addr × Obj)) (s : Shared) (σ : St) (H : Hp) (Q : Bool → Hp → Prop), Inv X pins σ H s → t σ H Q → wpAny (model X.prog X.w) X.A (isTrue e X.env (eval e X.env)) (TP X pins σ Q) X.xe s
/-- a test whatever its 'whole' is (and, or) -/
def PW (X : Cx) (e : Expr) (t : TT) : Prop :=
  ∀ (whole : Sem Value) (pins : List (Addr × Obj)) (s : Shared) (σ : St) (H : Hp) (Q : Bool → Hp → Prop), Inv X pins σ H s → t σ H Q → wpAny (model X.prog X.w) X.A (isTrue e X.env whole) (TP X pins σ Q) X.xe s
theorem PW.pt {X : Cx} {e : Expr} {t : TT} (h : PW X e t) : PT X e t := h _
/-- an argument list (no star), from the left -/
def PA (X : Cx) (es : List Expr) (t : TA) : Prop :=
  ∀ (pos : Pos) (pins : List (Addr × Obj)) (s : Shared) (σ : St) (H : Hp) (Q : List V → Hp → Prop), Inv X pins σ H s → t σ H Q → wpAny (model X.prog X.w) X.A (spliced (backTo pos (starEach es X.env))) (AP X pins σ Q) X.xe s
def PS (X : Cx) (st : Stmt) (t : TS) : Prop :=
  ∀ (pins : List (Addr × Obj)) (s : Shared) (σ : St) (H : Hp) (D : Ends), Inv X pins σ H s → t D σ H → wpAny (model X.prog X.w) X.A (exec st X.env) (SP X pins D) X.xe s
def PSs (X : Cx) (st : List Stmt) (t : TS) : Prop :=
  ∀ (pins : List (Addr × Obj)) (s : Shared) (σ : St) (H : Hp) (D : Ends), Inv X pins σ H s → t D σ H → wpAny (model X.prog X.w) X.A (execs st X.env) (SP X pins D) X.xe s
/-- weaken the end -/
theorem thn {α : Type} {t : Sem α} {Q Q' : α → Shared → Prop} {M : Model} {A : Around} {E : Value → Shared → Prop} {s : Shared} (h : wpAny M A t Q E s) (hQ : ∀ a s, Q a s → Q' a s) : wpAny M A t Q' E s := wpAny_mono h hQ fun _ _ x => x
end L2

namespace L2
open PySem PySem.Spec PyProof.Rows
section
variable {X : Cx}

/-- two expressions in a row -/
theorem bin {a b : Expr} {ta tb : TE} (ha : PE X a ta) (hb : PE X b tb) {pins : List (Addr × Obj)} {s : Shared} {σ : St} {H : Hp} {R : V → V → Hp → Prop} (I : Inv X pins σ H s) (h : ta σ H fun x H1 => tb σ H1 fun y H2 => R x y H2)
    {α : Type} {Q : α → Shared → Prop} {f : Value → Value → Sem α}
    (hf : ∀ v u s2 x y H2, Inv X pins σ H2 s2 → RelV x v → RelV y u → R x y H2 → wpAny (model X.prog X.w) X.A (f v u) Q X.xe s2) :
    wpAny (model X.prog X.w) X.A (eval a X.env) (fun v s₁ => wpAny (model X.prog X.w) X.A (eval b X.env) (fun u s₂ => wpAny (model X.prog X.w) X.A (f v u) Q X.xe s₂) X.xe s₁) X.xe s := by
  refine thn (ha pins s σ H _ I h) fun v s1 ⟨x, H1, I1, r1, q1⟩ => ?_
  refine thn (hb pins s1 σ H1 _ I1 q1) fun u s2 ⟨y, H2, I2, r2, q2⟩ => ?_
  exact hf v u s2 x y H2 I2 r1 r2 q2

/-! ### names and constants -/
def tVar (i : Nat) : TE := fun σ H Q => ∃ v, σ[i]? = some (some v) ∧ Q v H
def tC (v : V) : TE := fun _ H Q => Q v H
theorem pe_var {i : Nat} {x : Str} {pos : Pos} (hN : X.N[i]? = some x) (hv : Vis X.env.scope x) (hd : (x == ("__debug__" : Str)) = false := by decide) (hcd : (x == ("__classdict__" : Str)) = false := by decide) : PE X (.Name x pos) (tVar i) := by
  intro pins s σ H Q I h
  obtain ⟨v, e, h⟩ := h
  obtain ⟨m, hn, hl⟩ := I.loc
  obtain ⟨u, r, l⟩ := hl i x v hN e hv
  have fin : EP X pins σ Q u s := ⟨v, H, I, r, h⟩
  rcases l with ⟨hk, hm⟩ | ⟨hk, c, hc, hcell⟩
  · exact wpAny_Name (wpAny_loadName_local I.ok.kind hk hn hm fin) hd
  · rcases hk with hk | hk
    · exact wpAny_Name (wpAny_loadName_cell I.ok.kind hk hc hcell fin) hd
    · exact wpAny_Name (wpAny_loadName_free I.ok.kind hk hc hcell fin hcd) hd
theorem pe_int {i j pos} : PE X (.Constant (.int i) j pos) (tC (.int i)) := fun _ _ _ H _ I h => wpAny_Constant_int ⟨.int i, H, I.tok _, ⟨_, rfl⟩, h⟩
theorem pe_bl {b j pos} : PE X (.Constant (.bool b) j pos) (tC (.bl b)) := fun _ _ _ H _ I h => Constant_bool ⟨.bl b, H, I, rfl, h⟩
theorem pe_non {j pos} : PE X (.Constant .none j pos) (tC .non) := fun _ _ _ H _ I h => Constant_none ⟨.non, H, I, rfl, h⟩
theorem pe_str {x j pos} : PE X (.Constant (.str x) j pos) (tC (.str x)) := fun _ _ _ H _ I h => Calls.Constant_str ⟨.str x, H, I.tok _, ⟨_, rfl⟩, h⟩

/-- a global name of the def -/
def Gl (X : Cx) (x : Str) : Prop := X.env.kindOf x = some .globalImplicit
theorem ld_glob {E : Value → Shared → Prop} {pins : List (Addr × Obj)} {s : Shared} {σ : St} {H : Hp} {x : Str} {u : Value} {pos : Pos} {Q : Value → Shared → Prop} (I : Inv X pins σ H s) (hg : Gl X x) (hm : X.mg x = some u) (h : Q u s)
    (hd : (x == ("__debug__" : Str)) = false := by decide) : wpAny (model X.prog X.w) X.A (eval (.Name x pos) X.env) Q E s :=
  Calls.Name_function_global I.ok.kind hg (Calls.loadGlobal_global (by rw [I.ok.glob]; exact I.mod.glob.keeps I.bk) hm h) hd
theorem ld_blt {E : Value → Shared → Prop} {pins : List (Addr × Obj)} {s : Shared} {σ : St} {H : Hp} {x : Str} {u : Value} {pos : Pos} {Q : Value → Shared → Prop} (I : Inv X pins σ H s) (hg : Gl X x) (hm : X.mg x = none) (hv : bootBuiltins x = some u) (h : Q u s)
    (hn : x ≠ "__name__" := by decide) (hd : (x == ("__debug__" : Str)) = false := by decide) : wpAny (model X.prog X.w) X.A (eval (.Name x pos) X.env) Q E s := by
  obtain ⟨mb, h1, h2⟩ := I.mod.blt
  exact Calls.Name_function_global I.ok.kind hg (Calls.loadGlobal_builtin (by rw [I.ok.glob]; exact I.mod.glob.keeps I.bk) hm (by rw [I.ok.blt]; exact h1.keeps I.bk) ((h2 x hn).trans hv) h) hd
/-- a module's constant, a class, a function, as a value -/
theorem pe_glob {x : Str} {v : V} {u : Value} {pos : Pos} (hg : Gl X x) (hm : X.mg x = some u) (r : RelV v u) (hd : (x == ("__debug__" : Str)) = false := by decide) : PE X (.Name x pos) (tC v) :=
  fun _ _ _ H _ I h => ld_glob I hg hm ⟨v, H, I, r, h⟩ hd
theorem pe_bltn {x : Str} {v : V} {u : Value} {pos : Pos} (hg : Gl X x) (hm : X.mg x = none) (hv : bootBuiltins x = some u) (r : RelV v u) (hn : x ≠ "__name__" := by decide) (hd : (x == ("__debug__" : Str)) = false := by decide) : PE X (.Name x pos) (tC v) :=
  fun _ _ _ H _ I h => ld_blt I hg hm hv ⟨v, H, I, r, h⟩ hn hd

/-! ### arithmetic -/
variable {a b : Expr} {ta tb : TE} {pos : Pos}

/-! ### comparisons -/
theorem RelV.none_iff {x : V} {v : Value} (r : RelV x v) : (v == Value.none) = decide (x = .non) := by
  cases x with
  | non => cases r; rfl
  | bl _ => cases r; rfl
  | int _ => obtain ⟨t, rfl⟩ := r; rfl
  | str _ => obtain ⟨t, rfl⟩ := r; rfl
  | byt _ => obtain ⟨t, rfl⟩ := r; rfl
  | flt _ => obtain ⟨t, rfl⟩ := r; rfl
  | ref _ => cases r; rfl
  | ty _ => cases r; rfl

/-! ### and, or, not -/
variable {tA tB' : TT} {rest : List Expr}
def tAnd (t u : TT) : TT := fun σ H Q => t σ H fun c H1 => if c = true then u σ H1 Q else Q false H1
def tOr (t u : TT) : TT := fun σ H Q => t σ H fun c H1 => if c = true then Q true H1 else u σ H1 Q
def tNot (t : TT) : TT := fun σ H Q => t σ H fun c H1 => Q (!c) H1
theorem pw_and1 (ha : PT X a tA) : PW X (.BoolOp .And [a] pos) tA := by
  intro wh pins s σ H Q I h
  refine isTrue_and (thn (ha pins s σ H Q I h) fun c s1 e => ?_)
  cases c with
  | true => exact isTrue_and_nil e
  | false => exact e
theorem pw_or1 (ha : PT X a tA) : PW X (.BoolOp .Or [a] pos) tA := by
  intro wh pins s σ H Q I h
  refine isTrue_or (thn (ha pins s σ H Q I h) fun c s1 e => ?_)
  cases c with
  | false => exact isTrue_or_nil e
  | true => exact e
theorem pw_and (ha : PT X a tA) (hb : PW X (.BoolOp .And (b :: rest) pos) tB') : PW X (.BoolOp .And (a :: b :: rest) pos) (tAnd tA tB') := by
  intro wh pins s σ H Q I h
  refine isTrue_and (thn (ha pins s σ H _ I h) fun c s1 ⟨H1, I1, q1⟩ => ?_)
  cases c with
  | true => exact hb wh pins s1 σ H1 Q I1 q1
  | false => exact ⟨H1, I1, q1⟩
theorem pw_or (ha : PT X a tA) (hb : PW X (.BoolOp .Or (b :: rest) pos) tB') : PW X (.BoolOp .Or (a :: b :: rest) pos) (tOr tA tB') := by
  intro wh pins s σ H Q I h
  refine isTrue_or (thn (ha pins s σ H _ I h) fun c s1 ⟨H1, I1, q1⟩ => ?_)
  cases c with
  | true => exact ⟨H1, I1, q1⟩
  | false => exact hb wh pins s1 σ H1 Q I1 q1
theorem pt_not (ha : PT X a tA) : PT X (.UnaryOp .Not a pos) (tNot tA) := by
  intro pins s σ H Q I h
  exact isTrue_not (ha pins s σ H (fun c H1 => Q (!c) H1) I h)
/-- .. as values (bools) -/
def tAndV (ta tb : TE) : TE := fun σ H Q => ta σ H fun x H1 => ∃ c, x = .bl c ∧ if c = true then tb σ H1 Q else Q (.bl false) H1
def tOrV (ta tb : TE) : TE := fun σ H Q => ta σ H fun x H1 => ∃ c, x = .bl c ∧ if c = true then Q (.bl true) H1 else tb σ H1 Q
def tNotV (ta : TE) : TE := fun σ H Q => ta σ H fun x H1 => ∃ c, x = .bl c ∧ Q (.bl (!c)) H1
theorem pe_one {op} {t : TE} (h : PE X a t) : PE X (.BoolOp op [a] pos) t := fun pins s σ H Q I hw => BoolOp_one (h pins s σ H Q I hw)
theorem pe_and (ha : PE X a ta) (hb : PE X (.BoolOp .And (b :: rest) pos) tb) : PE X (.BoolOp .And (a :: b :: rest) pos) (tAndV ta tb) := by
  intro pins s σ H Q I h
  refine BoolOp_and (thn (ha pins s σ H _ I h) fun v s1 ⟨x, H1, I1, r1, q1⟩ => ?_)
  obtain ⟨c, rfl, q1⟩ := q1
  cases r1
  refine wpAny_truthy_bool ?_
  cases c with
  | true => exact hb pins s1 σ H1 Q I1 q1
  | false => exact ⟨.bl false, H1, I1, rfl, q1⟩
theorem pe_or (ha : PE X a ta) (hb : PE X (.BoolOp .Or (b :: rest) pos) tb) : PE X (.BoolOp .Or (a :: b :: rest) pos) (tOrV ta tb) := by
  intro pins s σ H Q I h
  refine BoolOp_or (thn (ha pins s σ H _ I h) fun v s1 ⟨x, H1, I1, r1, q1⟩ => ?_)
  obtain ⟨c, rfl, q1⟩ := q1
  cases r1
  refine wpAny_truthy_bool ?_
  cases c with
  | false => exact hb pins s1 σ H1 Q I1 q1
  | true => exact ⟨.bl true, H1, I1, rfl, q1⟩
theorem pe_not (ha : PE X a ta) : PE X (.UnaryOp .Not a pos) (tNotV ta) := by
  intro pins s σ H Q I h
  refine UnaryOp_ (thn (ha pins s σ H _ I h) fun v s1 ⟨x, H1, I1, r1, q1⟩ => ?_)
  obtain ⟨c, rfl, q1⟩ := q1
  cases r1
  exact not_of (wpAny_truthy_bool ⟨.bl (!c), H1, I1, rfl, q1⟩)
/-- a if t else b -/
def tIf (t : TT) (ta tb : TE) : TE := fun σ H Q => t σ H fun c H1 => if c = true then ta σ H1 Q else tb σ H1 Q
theorem pe_ifExp {c : Expr} (hc : PT X c tA) (ha : PE X a ta) (hb : PE X b tb) : PE X (.IfExp c a b pos) (tIf tA ta tb) := by
  intro pins s σ H Q I h
  refine wpAny_IfExp (thn (hc pins s σ H _ I h) fun d s1 ⟨H1, I1, q1⟩ => ?_)
  cases d with
  | true => exact ha pins s1 σ H1 Q I1 q1
  | false => exact hb pins s1 σ H1 Q I1 q1
end
end L2

namespace L2
open PySem PySem.Spec PyProof.Rows

/-! ### a list, a tuple that is read: tracked, frozen, or an object of the module -/
def SqL (K : PySem.W.Frag) (H : Hp) (a : Addr) (xs : List V) : Prop :=
  Rd H a (.lst xs) ∨
    ∃ (o : Obj) (its : Array Value) (n : Nat), K.lookup a = some o ∧ o.cls = .type "list" ∧ o.dict = none ∧ o.data = .seq its n ∧ its.size ≤ sizeLine ∧ Vals xs its.toList
def SqT (K : PySem.W.Frag) (H : Hp) (a : Addr) (xs : List V) : Prop :=
  Rd H a (.tup xs) ∨
    ∃ (o : Obj) (its : Array Value) (n : Nat), K.lookup a = some o ∧ o.cls = .type "tuple" ∧ o.data = .seq its n ∧ its.size ≤ sizeLine ∧ Vals xs its.toList
def absV : Value → Option V
  | .none => some .non
  | .bool b => some (.bl b)
  | .int i _ => some (.int i)
  | .str x _ => some (.str x)
  | .bytes b _ => some (.byt b)
  | .float b _ => some (.flt b)
  | .ref a => some (.ref a)
  | .type n => some (.ty n)
  | _ => none
theorem RelV.abs {x : V} {u : Value} (r : RelV x u) : absV u = some x := by
  cases x with
  | non => cases r; rfl
  | bl _ => cases r; rfl
  | int _ => obtain ⟨t, rfl⟩ := r; rfl
  | str _ => obtain ⟨t, rfl⟩ := r; rfl
  | byt _ => obtain ⟨t, rfl⟩ := r; rfl
  | flt _ => obtain ⟨t, rfl⟩ := r; rfl
  | ref _ => cases r; rfl
  | ty _ => cases r; rfl
theorem RelV.inj {x y : V} {u : Value} (r : RelV x u) (q : RelV y u) : x = y := Option.some.inj (r.abs.symm.trans q.abs)
theorem Vals.inj : ∀ {xs ys : List V} {us : List Value}, Vals xs us → Vals ys us → xs = ys
  | _, _, _, .nil, .nil => rfl
  | _, _, _, .cons r t, .cons r' t' => by rw [r.inj r', Vals.inj t t']
section
variable {X : Cx} {pins : List (Addr × Obj)} {σ : St} {H : Hp} {s : Shared} {a : Addr} {xs ys : List V}
theorem SqL.of {K : PySem.W.Frag} (h : H a = some (.lst xs)) : SqL K H a xs := .inl (.inl h)
theorem SqT.of {K : PySem.W.Frag} (h : H a = some (.tup xs)) : SqT K H a xs := .inl (.inl h)
theorem Inv.list (I : Inv X pins σ H s) (h : SqL X.K H a xs) : ∃ its : List Value, Vals xs its ∧ PlainL s.heap a its.toArray ∧ xs.length ≤ sizeLine := by
  rcases h with h | ⟨o, its, n, hk, hc, hd, hs, hz, r⟩
  · obtain ⟨z, its, n, r, e⟩ := h.ok I.hok
    exact ⟨its, r, ⟨_, n, e, rfl, rfl, rfl⟩, z⟩
  · refine ⟨its.toList, r, ⟨o, n, I.kIn a o hk, hc, hd, by simpa using hs⟩, ?_⟩
    have e := r.length
    simp only [Array.length_toList] at e
    omega
theorem Inv.tuple (I : Inv X pins σ H s) (h : SqT X.K H a xs) : ∃ its : List Value, Vals xs its ∧ IsTup s.heap a its.toArray ∧ xs.length ≤ sizeLine := by
  rcases h with h | ⟨o, its, n, hk, hc, hs, hz, r⟩
  · obtain ⟨z, its, r, p⟩ := h.ok I.hok
    exact ⟨its, r, p, z⟩
  · refine ⟨its.toList, r, ⟨o, I.kIn a o hk, hc, n, by simpa using hs⟩, ?_⟩
    have e := r.length
    simp only [Array.length_toList] at e
    omega
theorem Inv.list_inj (I : Inv X pins σ H s) (h : SqL X.K H a xs) (h' : SqL X.K H a ys) : xs = ys := by
  obtain ⟨its, r, ⟨o, n, e, _, _, d⟩, _⟩ := I.list h
  obtain ⟨its', r', ⟨o', n', e', _, _, d'⟩, _⟩ := I.list h'
  rw [e] at e'; cases e'
  rw [d] at d'
  injection d' with d1 _
  have : its = its' := by simpa using congrArg Array.toList d1
  subst this
  exact r.inj r'
theorem Inv.tuple_inj (I : Inv X pins σ H s) (h : SqT X.K H a xs) (h' : SqT X.K H a ys) : xs = ys := by
  obtain ⟨its, r, ⟨o, e, _, n, d⟩, _⟩ := I.tuple h
  obtain ⟨its', r', ⟨o', e', _, n', d'⟩, _⟩ := I.tuple h'
  rw [e] at e'; cases e'
  rw [d] at d'
  injection d' with d1 _
  have : its = its' := by simpa using congrArg Array.toList d1
  subst this
  exact r.inj r'
end

/-! ### another wish about exceptions -/
abbrev Cx.wish (X : Cx) (E : Value → Shared → Prop) : Cx := { X with xe := E }
/-- no exception leaves -/
abbrev Cx.nox (X : Cx) : Cx := X.wish fun _ _ => False
theorem Cx.Ok.wish {X : Cx} (ok : X.Ok) (E : Value → Shared → Prop) : (X.wish E).Ok :=
  ⟨ok.mod, ok.kind, ok.glob, ok.blt, ok.above, ok.inj, ok.has, ok.cab, ok.hd, ok.frames, ok.stk, ok.exf, ok.bs, ok.bsz, ok.noex, ok.exfs, ok.funs, ok.frf⟩
theorem Cx.Ok.unwish {X : Cx} {E : Value → Shared → Prop} (ok : (X.wish E).Ok) : X.Ok :=
  ⟨ok.mod, ok.kind, ok.glob, ok.blt, ok.above, ok.inj, ok.has, ok.cab, ok.hd, ok.frames, ok.stk, ok.exf, ok.bs, ok.bsz, ok.noex, ok.exfs, ok.funs, ok.frf⟩
section
variable {X : Cx} {pins : List (Addr × Obj)} {σ : St} {H : Hp} {s : Shared} {E : Value → Shared → Prop}
theorem Inv.wish (I : Inv X pins σ H s) (E : Value → Shared → Prop) : Inv (X.wish E) pins σ H s := ⟨I.ok.wish E, I.os, I.bare, I.base, I.loc, I.cell, I.free, I.freeC, I.pin, I.hok, I.len⟩
theorem Inv.unwish (I : Inv (X.wish E) pins σ H s) : Inv X pins σ H s := ⟨I.ok.unwish, I.os, I.bare, I.base, I.loc, I.cell, I.free, I.freeC, I.pin, I.hok, I.len⟩
theorem SP.unwish {D : Ends} {f : Flow} {s' : Shared} (h : SP (X.wish E) pins D f s') : SP X pins D f s' := by
  cases f with
  | next => obtain ⟨σ', H', I, q⟩ := h; exact ⟨σ', H', I.unwish, q⟩
  | brk => obtain ⟨σ', H', I, q⟩ := h; exact ⟨σ', H', I.unwish, q⟩
  | cont => obtain ⟨σ', H', I, q⟩ := h; exact ⟨σ', H', I.unwish, q⟩
  | ret u => obtain ⟨v, σ', H', I, r, q⟩ := h; exact ⟨v, σ', H', I.unwish, r, q⟩
theorem PE.nox {e : Expr} {t : TE} (h : PE X.nox e t) : PE X e t := fun pins s σ H Q I hw =>
  wpAny_mono (h pins s σ H Q (I.wish _) hw) (fun _ _ ⟨v, H', I', r, q⟩ => ⟨v, H', I'.unwish, r, q⟩) fun _ _ z => False.elim z
theorem PT.nox {e : Expr} {t : TT} (h : PT X.nox e t) : PT X e t := fun pins s σ H Q I hw =>
  wpAny_mono (h pins s σ H Q (I.wish _) hw) (fun _ _ ⟨H', I', q⟩ => ⟨H', I'.unwish, q⟩) fun _ _ z => False.elim z
theorem PSs.nox {st : List Stmt} {t : TS} (h : PSs X.nox st t) : PSs X st t := fun pins s σ H D I hw =>
  wpAny_mono (h pins s σ H D (I.wish _) hw) (fun _ _ q => q.unwish) fun _ _ z => False.elim z
end

/-! ### blocks and small statements -/
section
variable {X : Cx} {st : Stmt} {rest : List Stmt} {t u : TS} {e : Expr} {te : TE} {pos : Pos}
def tNext : TS := fun D σ H => D.nx σ H
def tSeq (t u : TS) : TS := fun D σ H => t { D with nx := u D } σ H
theorem pss_nil : PSs X [] tNext := fun _ _ σ H _ I h => wpAny_execs_nil ⟨σ, H, I, h⟩
theorem pss_cons (h1 : PS X st t) (h2 : PSs X rest u) : PSs X (st :: rest) (tSeq t u) := by
  intro pins s σ H D I h
  refine wpAny_execs_cons (thn (h1 pins s σ H { D with nx := u D } I h) fun f s1 q => ?_)
  cases f with
  | next =>
    obtain ⟨σ', H', I', q⟩ := q
    exact h2 pins s1 σ' H' D I' q
  | ret v => exact q
  | brk => exact q
  | cont => exact q
theorem pss_one (h1 : PS X st t) : PSs X [st] t := by
  intro pins s σ H D I h
  refine wpAny_execs_cons (thn (h1 pins s σ H D I h) fun f s1 q => ?_)
  cases f with
  | next => exact wpAny_execs_nil q
  | ret v => exact q
  | brk => exact q
  | cont => exact q
/-- in a def's body nothing is shown -/
theorem Inv.quiet {pins : List (Addr × Obj)} {σ : St} {H : Hp} {s : Shared} (I : Inv X pins σ H s) : interactive X.env = false := by simp [interactive, I.ok.kind]
/-- an expression whose value is dropped -/
def tDrop (te : TE) : TS := fun D σ H => te σ H fun _ H1 => D.nx σ H1
theorem ps_expr (he : PE X e te) (hs : swapsWith e none pos.line X.env = pure false := by rfl) : PS X (.Expr e pos) (tDrop te) := by
  intro pins s σ H D I h
  exact wpAny_Expr_any (thn (he pins s σ H _ I h) fun v s1 ⟨x, H1, I1, r1, q1⟩ => ⟨σ, H1, I1, q1⟩) I.quiet hs
def tRet (te : TE) : TS := fun D σ H => te σ H D.rt
theorem ps_ret (he : PE X e te) : PS X (.Return (some e) pos) (tRet te) := by
  intro pins s σ H D I h
  exact wpAny_Return_some (thn (he pins s σ H _ I h) fun v s1 ⟨x, H1, I1, r1, q1⟩ => ⟨x, σ, H1, I1, r1, q1⟩)
def tIfS (c : TT) (t u : TS) : TS := fun D σ H => c σ H fun b H1 => if b = true then t D σ H1 else u D σ H1
theorem ps_if {c : Expr} {a b : List Stmt} {tc : TT} (hc : PT X c tc) (ha : PSs X a t) (hb : PSs X b u) : PS X (.If c a b pos) (tIfS tc t u) := by
  intro pins s σ H D I h
  refine wpAny_If (thn (hc pins s σ H _ I h) fun d s1 ⟨H1, I1, q1⟩ => ?_)
  cases d with
  | true => exact ha pins s1 σ H1 D I1 q1
  | false => exact hb pins s1 σ H1 D I1 q1
end

/-! ### targets -/
abbrev TG := V → St → Hp → (St → Hp → Prop) → Prop
abbrev TGs := List V → St → Hp → (St → Hp → Prop) → Prop
def PG (X : Cx) (target : Expr) (t : TG) : Prop :=
  ∀ (pins : List (Addr × Obj)) (s : Shared) (σ : St) (H : Hp) (v : V) (u : Value) (Q : St → Hp → Prop), Inv X pins σ H s → RelV v u → t v σ H Q →
    wpAny (model X.prog X.w) X.A (assign target X.env u) (fun _ s' => ∃ σ' H', Inv X pins σ' H' s' ∧ Q σ' H') X.xe s
/-- several targets, one after another -/
def PGs (X : Cx) (ts : List Expr) (t : TGs) : Prop :=
  ∀ (pins : List (Addr × Obj)) (s : Shared) (σ : St) (H : Hp) (vs : List V) (us : List Value) (Q : St → Hp → Prop), Inv X pins σ H s → Vals vs us → t vs σ H Q →
    wpAny (model X.prog X.w) X.A (assignInOrder ((assignEach ts X.env).map (·.2)) us) (fun _ s' => ∃ σ' H', Inv X pins σ' H' s' ∧ Q σ' H') X.xe s
section
variable {X : Cx} {pos : Pos}
def gName (i : Nat) : TG := fun v σ H Q => Q (σ.set i (some v)) H
theorem pg_name {i : Nat} {x : Str} (hN : X.N.Nodup) (hi : X.N[i]? = some x) (hx : Loc X.env.scope x) (hf : X.fn x = true ∨ X.env.scope.names.lookup x = some .local := by first | exact .inl rfl | exact .inr rfl | assumption) : PG X (.Name x pos) (gName i) := by
  intro pins s σ H v u Q I r h
  exact wpAny_assign_Name (store_ok I hN hi hx r (fun s' I' => ⟨_, H, I', h⟩) hf)
def gNil : TGs := fun vs σ H Q => vs = [] ∧ Q σ H
def gCons (t : TG) (u : TGs) : TGs := fun vs σ H Q => ∃ v r, vs = v :: r ∧ t v σ H fun σ' H' => u r σ' H' Q
theorem pgs_nil : PGs X [] gNil := by
  intro pins s σ H vs us Q I r h
  obtain ⟨e, h⟩ := h
  subst e
  cases r
  exact assignInOrder_nil ⟨σ, H, I, h⟩
theorem pgs_cons {e : Expr} {es : List Expr} {t : TG} {u : TGs} (h1 : PG X e t) (h2 : PGs X es u)
    (hs : (assignEach (e :: es) X.env).map (·.2) = assign e X.env :: (assignEach es X.env).map (·.2) := by rfl) : PGs X (e :: es) (gCons t u) := by
  intro pins s σ H vs us Q I r h
  obtain ⟨v, vr, e1, h⟩ := h
  subst e1
  cases r with
  | cons r rr =>
    rw [hs]
    refine assignInOrder_cons (thn (h1 pins s σ H _ _ _ I r h) fun _ s1 ⟨σ1, H1, I1, q1⟩ => ?_)
    exact h2 pins s1 σ1 H1 _ _ Q I1 rr q1
/-- (a, b, ..) = a tuple of that length -/
def gTup (K : PySem.W.Frag) (n : Nat) (t : TGs) : TG := fun v σ H Q => ∃ a xs, v = .ref a ∧ SqT K H a xs ∧ xs.length = n ∧ t xs σ H Q
theorem pg_tup {es : List Expr} {k : Nat} {t : TGs} {n : Nat} (hc : X.calm = true) (h : PGs X es t)
    (hn : (assignEach es X.env).length = n := by rfl) (hst : (assignEach es X.env).findIdx? (·.1) = none := by rfl) : PG X (.Tuple es k pos) (gTup X.K n t) := by
  intro pins s σ H v u Q I r hw
  obtain ⟨a, xs, e1, hq, hl, hw⟩ := hw
  subst e1
  cases r
  obtain ⟨its, rv, ht, hz⟩ := I.tuple hq
  refine assign_Tuple_tuple (I.ok.hd hc) ht (by simp [hn, ← hl, rv.length]) hst fun h' hx => ?_
  have I1 : Inv X pins σ H { s with heap := h' } := I.kept (t' := s.toks) fun b o e => hx b o (Nat.ne_of_lt (Heap.lt_size e)) e
  exact h pins _ σ H xs _ Q I1 (by simpa using rv) hw
/-- target = value -/
def tAsg (te : TE) (g : TG) : TS := fun D σ H => te σ H fun x H1 => g x σ H1 D.nx
/-- name = value -/
theorem ps_set {i : Nat} {x : Str} {e : Expr} {te : TE} {pos' : Pos} (hN : X.N.Nodup) (hi : X.N[i]? = some x) (hx : Loc X.env.scope x) (he : PE X e te) (hs : swapsWith e (some (.Name x pos')) pos.line X.env = pure false := by rfl) (hf : X.fn x = true ∨ X.env.scope.names.lookup x = some .local := by first | exact .inl rfl | exact .inr rfl | assumption) :
    PS X (.Assign [.Name x pos'] e pos) (tAsg te (gName i)) := by
  intro pins s σ H D I h
  refine wpAny_Assign_Name (thn (he pins s σ H _ I h) fun v s1 ⟨y, H1, I1, r1, q1⟩ => ?_) hs
  exact store_ok I1 hN hi hx r1 (fun s2 I2 => ⟨_, H1, I2, q1⟩) hf
end

/-! ### while -/
section
variable {X : Cx} {pos : Pos}
/-- the invariant W with its measure -/
def tWhile (c : TT) (tb : TS) : TS := fun D σ H => ∃ W : Nat → St → Hp → Prop, (∃ m, W m σ H) ∧ ∀ m σ H, W m σ H →
  c σ H fun b H1 => if b = true then ∃ N : St → Hp → Prop, (∀ σ' H', N σ' H' → ∃ m', m' < m ∧ W m' σ' H') ∧ tb { D with nx := N, ct := N, bk := D.nx } σ H1 else D.nx σ H1
theorem ps_while {c : Expr} {body : List Stmt} {tc : TT} {tb : TS} (hp : PassesOwn (model X.prog X.w) X.A X.env X.xe) (hc : PT X c tc) (hb : PSs X body tb) : PS X (.While c body [] pos) (tWhile tc tb) := by
  intro pins s σ H D I h
  obtain ⟨W, ⟨m0, w0⟩, turn⟩ := h
  refine wpAny_While (codeAny_whileLoop (fun n s' => ∃ σ' H', Inv X pins σ' H' s' ∧ W n σ' H') ?_ m0 ⟨σ, H, I, w0⟩)
  rintro n s1 ⟨σ1, H1, I1, w1⟩
  refine wpAny_passesOwn hp (thn (hc pins s1 σ1 H1 _ I1 (turn n σ1 H1 w1)) fun b s2 ⟨H2, I2, q2⟩ => ?_)
  cases b with
  | true =>
    obtain ⟨N, hN, q2⟩ := q2
    rw [if_pos rfl]
    refine wpAny_passesOwn hp (thn (hb pins s2 σ1 H2 _ I2 q2) fun f s3 q3 => ?_)
    cases f with
    | next =>
      obtain ⟨σ3, H3, I3, n3⟩ := q3
      obtain ⟨m', hm, w3⟩ := hN σ3 H3 n3
      exact ⟨m', hm, σ3, H3, I3, w3⟩
    | cont =>
      obtain ⟨σ3, H3, I3, n3⟩ := q3
      obtain ⟨m', hm, w3⟩ := hN σ3 H3 n3
      exact ⟨m', hm, σ3, H3, I3, w3⟩
    | brk => exact q3
    | ret v => exact q3
  | false =>
    rw [if_neg Bool.false_ne_true]
    exact wpAny_execs_nil ⟨σ1, H2, I2, q2⟩
end

/-! ### what a loop or a comprehension walks -/
/-- at turn i: it yields x (the heap may grow), or it stops -/
structure It where
  go : Nat → Hp → Prop
  yld : Nat → Hp → V → Hp → Prop
  stop : Nat → Hp → Prop
/-- the iterator's own objects may turn: they are not the frame's, not pinned, younger than the entry (or a comprehension's own) -/
def FpOk (X : Cx) (pins : List (Addr × Obj)) (H : Hp) (b : Addr) : Prop :=
  H b = none ∧ b ≠ X.env.locals ∧ b ∉ X.fs ∧ (b ∈ X.ex ∨ X.s₀.heap.objs.size ≤ b) ∧ (∀ x c, X.env.cells.lookup x = some c → c ≠ b) ∧ ∀ p ∈ X.pn ++ pins, p.1 ≠ b
theorem Inv.fpOk {X : Cx} {pins : List (Addr × Obj)} {σ : St} {H H' : Hp} {s : Shared} {b : Addr} (I : Inv X pins σ H s) (hb : s.heap.objs.size ≤ b) (hn : H' b = none) : FpOk X pins H' b := by
  refine ⟨hn, Nat.ne_of_gt (Nat.lt_of_lt_of_le I.lt hb), I.nofs hb, .inr (Nat.le_trans I.sz hb), fun x c e z => ?_, fun p hp z => ?_⟩
  · obtain ⟨v, q⟩ := I.cell x c e
    exact absurd (Nat.lt_of_lt_of_le q.lt (by rw [z]; exact hb)) (Nat.lt_irrefl _)
  · exact absurd (Nat.lt_of_lt_of_le (Heap.lt_size (I.pin p hp).1) (by rw [z]; exact hb)) (Nat.lt_irrefl _)
structure Turn (P : Program) (w : World) (K : PySem.W.Frag) (tg : Expr) (J : It) (fp : List Addr) (it : Addr) (tn : Nat → Heap → Prop) : Prop where
  mem : it ∈ fp
  obj : ∀ i h, tn i h → ∀ b ∈ fp, ∃ o, h.get? b = some o ∧ ∀ v, o.data ≠ .cell v
  keep : ∀ i h h', tn i h → (∀ b ∈ fp, ∀ o, h.get? b = some o → h'.get? b = some o) → tn i h'
  item : ∀ (X : Cx), X.prog = P → X.w = w → X.K = K → X.calm = true → ∀ (i : Nat) (pins : List (Addr × Obj)) (s : Shared) (σ : St) (H : Hp) (E : Value → Shared → Prop), Inv X pins σ H s → (∀ b ∈ fp, FpOk X pins H b) → tn i s.heap → J.go i H →
    wpAny (model P w) X.A (pyNext (.ref it)) (fun r s1 => ∃ u, r = some u ∧
      wpAny (model P w) X.A (letOwnedTupleGo tg (.ref it) u) (fun _ s2 => ∃ x H', Inv X pins σ H' s2 ∧ RelV x u ∧ J.yld i H x H' ∧ tn (i + 1) s2.heap ∧ ∀ b ∈ fp, H' b = none) E s1) E s
  done : ∀ (X : Cx), X.prog = P → X.w = w → X.K = K → X.calm = true → ∀ (i : Nat) (pins : List (Addr × Obj)) (s : Shared) (σ : St) (H : Hp) (E : Value → Shared → Prop), Inv X pins σ H s → (∀ b ∈ fp, FpOk X pins H b) → tn i s.heap → J.stop i H →
    wpAny (model P w) X.A (pyNext (.ref it)) (fun r s1 => r = none ∧ Inv X pins σ H s1) E s
  self : ∀ (A : Around) (i : Nat) (s : Shared) (Q : Value → Shared → Prop) (E : Value → Shared → Prop), tn i s.heap → Q (.ref it) s → wpAny (model P w) A (pyIter (.ref it)) Q E s
abbrev TI := St → Hp → (It → Hp → Prop) → Prop
/-- an iterator has come -/
def PIE (X : Cx) (pins : List (Addr × Obj)) (σ : St) (tg : Expr) (R : It → Hp → Prop) (itv : Value) (s2 : Shared) : Prop :=
  ∃ (it : Addr) (fp : List Addr) (tn : Nat → Heap → Prop) (J : It) (H' : Hp), itv = .ref it ∧ Inv X pins σ H' s2 ∧ Turn X.prog X.w X.K tg J fp it tn ∧ tn 0 s2.heap ∧ (∀ b ∈ fp, FpOk X pins H' b) ∧ R J H'
def PI (X : Cx) (tg iter : Expr) (wi : TI) : Prop :=
  ∀ (pins : List (Addr × Obj)) (s : Shared) (σ : St) (H : Hp) (R : It → Hp → Prop), Inv X pins σ H s → wi σ H R →
    wpAny (model X.prog X.w) X.A (eval iter X.env) (fun v s1 => wpAny (model X.prog X.w) X.A (pyIter v) (PIE X pins σ tg R) X.xe s1) X.xe s

/-- the step ahead of the store is nothing for an iterator that keeps no tuple -/
theorem go_of {M : Model} {A : Around} {E : Value → Shared → Prop} {s : Shared} {tg : Expr} {it : Addr} {u : Value} {o : Obj} {n : String} {vs : Array Value} {Q : Unit → Shared → Prop} (ho : s.heap.get? it = some o) (hc : o.cls = .type n) (hd : o.data = .fields vs)
    (hn : ["enumerate", "zip", "dict_itemiterator", "dict_reverseitemiterator", "odict_iterator", "itertools.zip_longest", "itertools.pairwise"].contains n = false) (hQ : Q () s) : wpAny M A (letOwnedTupleGo tg (.ref it) u) Q E s := by
  unfold letOwnedTupleGo
  cases tg <;> first
    | exact wpAny_pure hQ
    | (cases u <;> first
        | exact wpAny_pure hQ
        | (refine wpAny_bind (wpAny_load ho ?_)
           rw [hc, hd]
           show wpAny M A (if (["enumerate", "zip", "dict_itemiterator", "dict_reverseitemiterator", "odict_iterator", "itertools.zip_longest", "itertools.pairwise"].contains n && vs[0]? == some (rawInt _)) = true then _ else _) Q E s
           rw [if_neg (by intro h; rw [hn, Bool.false_and] at h; cases h)]
           exact wpAny_pure hQ))

/-- the list at a, as it stands at each turn (a loop may append to it) -/
def Itl (K : PySem.W.Frag) (a : Addr) : It :=
  ⟨fun i H => ∃ xs x, SqL K H a xs ∧ xs[i]? = some x, fun i H x H' => H' = H ∧ ∀ xs, SqL K H a xs → xs[i]? = some x, fun i H => ∃ xs, SqL K H a xs ∧ xs.length ≤ i⟩
def Itt (K : PySem.W.Frag) (a : Addr) : It :=
  ⟨fun i H => ∃ xs x, SqT K H a xs ∧ xs[i]? = some x, fun i H x H' => H' = H ∧ ∀ xs, SqT K H a xs → xs[i]? = some x, fun i H => ∃ xs, SqT K H a xs ∧ xs.length ≤ i⟩
/-- lo, lo + 1, .. (n of them) -/
def Itr (lo : Int) (n : Nat) : It := ⟨fun i _ => i < n, fun i H x H' => H' = H ∧ x = .int (lo + i), fun i _ => n ≤ i⟩
theorem turn_list {P : Program} {w : World} {K : PySem.W.Frag} {tg : Expr} (a it : Addr) : Turn P w K tg (Itl K a) [it] it (fun i h => h.IsListIter it a i) where
  mem := by simp
  obj := fun i h st b hb => by
    have e : b = it := by simpa using hb
    subst e
    obtain ⟨o, e, c, d⟩ := st
    exact ⟨o, e, fun v z => by rw [d] at z; cases z⟩
  keep := fun i h h' st k => st.at fun o e => k it (by simp) o e
  item := by
    intro X hP hw hK hc i pins s σ H E I hf st hg
    subst hP hw hK
    obtain ⟨xs, x, hq, hx⟩ := hg
    obtain ⟨its, rv, p, hz⟩ := I.list hq
    obtain ⟨u, hu, ru⟩ := rv.get hx
    obtain ⟨f0, f1, f2, f3, f4, f5⟩ := hf it (by simp)
    refine wpAny_pyNext_list_item st p.isList (x := u) (by simpa using hu) fun h' st' sb => ?_
    have I1 : Inv X pins σ H { s with heap := h' } := I.turned (t' := s.toks) (fun b o hb e => (sb.2 b hb).trans e) f0 f1 f3 f4 f5
    obtain ⟨o, e, c, d⟩ := id st'
    exact ⟨u, rfl, go_of (s := { s with heap := h' }) e c d (by decide) ⟨x, H, I1, ru, ⟨rfl, fun ys hy => by rw [I.list_inj hy hq]; exact hx⟩, st', fun b hb => (hf b hb).1⟩⟩
  done := by
    intro X hP hw hK hc i pins s σ H E I hf st hg
    subst hP hw hK
    obtain ⟨xs, hq, hx⟩ := hg
    obtain ⟨its, rv, p, hz⟩ := I.list hq
    obtain ⟨f0, f1, f2, f3, f4, f5⟩ := hf it (by simp)
    have hl := rv.length
    exact wpAny_pyNext_list_end (I.ok.hd hc) st p.isList (by simp; omega) fun h' eb => ⟨rfl, I.turned (t' := s.toks) (fun b o hb e => eb b o hb e) f0 f1 f3 f4 f5⟩
  self := fun _ _ _ _ _ st h => wpAny_pyIter_listiter st h
theorem turn_tuple {P : Program} {w : World} {K : PySem.W.Frag} {tg : Expr} (a it : Addr) : Turn P w K tg (Itt K a) [it] it (fun i h => h.IsTupleIter it a i) where
  mem := by simp
  obj := fun i h st b hb => by
    have e : b = it := by simpa using hb
    subst e
    obtain ⟨o, e, c, d⟩ := st
    exact ⟨o, e, fun v z => by rw [d] at z; cases z⟩
  keep := fun i h h' st k => st.at fun o e => k it (by simp) o e
  item := by
    intro X hP hw hK hc i pins s σ H E I hf st hg
    subst hP hw hK
    obtain ⟨xs, x, hq, hx⟩ := hg
    obtain ⟨its, rv, p, hz⟩ := I.tuple hq
    obtain ⟨u, hu, ru⟩ := rv.get hx
    obtain ⟨f0, f1, f2, f3, f4, f5⟩ := hf it (by simp)
    refine wpAny_pyNext_tuple_item st (show s.heap.IsTuple a its.toArray from p) (x := u) (by simpa using hu) fun h' st' sb => ?_
    have I1 : Inv X pins σ H { s with heap := h' } := I.turned (t' := s.toks) (fun b o hb e => (sb.2 b hb).trans e) f0 f1 f3 f4 f5
    obtain ⟨o, e, c, d⟩ := id st'
    exact ⟨u, rfl, go_of (s := { s with heap := h' }) e c d (by decide) ⟨x, H, I1, ru, ⟨rfl, fun ys hy => by rw [I.tuple_inj hy hq]; exact hx⟩, st', fun b hb => (hf b hb).1⟩⟩
  done := by
    intro X hP hw hK hc i pins s σ H E I hf st hg
    subst hP hw hK
    obtain ⟨xs, hq, hx⟩ := hg
    obtain ⟨its, rv, p, hz⟩ := I.tuple hq
    obtain ⟨f0, f1, f2, f3, f4, f5⟩ := hf it (by simp)
    have hl := rv.length
    exact wpAny_pyNext_tuple_end (I.ok.hd hc) st (show s.heap.IsTuple a its.toArray from p) (by simp; omega) fun h' eb => ⟨rfl, I.turned (t' := s.toks) (fun b o hb e => eb b o hb e) f0 f1 f3 f4 f5⟩
  self := fun _ _ _ _ _ st h => wpAny_pyIter_tupleiter st h
theorem turn_range {P : Program} {w : World} {K : PySem.W.Frag} {tg : Expr} (it : Addr) (lo : Int) (n : Nat) : Turn P w K tg (Itr lo n) [it] it (fun i h => IsRangeIter h it (lo + (i : Nat) * 1) ((n : Int) - (i : Nat)) 1) where
  mem := by simp
  obj := fun i h st b hb => by
    have e : b = it := by simpa using hb
    subst e
    exact ⟨_, st, fun v z => by
      have z' : Data.fields _ = Data.cell v := z
      cases z'⟩
  keep := fun i h h' st k => k it (by simp) _ st
  item := by
    intro X hP hw hK hc i pins s σ H E I hf st hg
    subst hP hw hK
    obtain ⟨f0, f1, f2, f3, f4, f5⟩ := hf it (by simp)
    have W := Walks.range (prog := X.prog) (w := X.w) (I.ok.hd hc) it lo 1 n
    refine W.item i s _ _ hg st fun v h' tk hv st' kk => ?_
    obtain ⟨t, rfl⟩ := hv
    have I1 : Inv X pins σ H { s with heap := h', toks := tk } := I.turned (fun b o hb e => kk b o (by simpa using hb) e) f0 f1 f3 f4 f5
    refine ⟨_, rfl, go_of (s := { s with heap := h', toks := tk }) (n := "range_iterator") st' rfl rfl (by decide) ⟨.int (lo + i), H, I1, ⟨t, ?_⟩, ⟨rfl, rfl⟩, st', fun b hb => (hf b hb).1⟩⟩
    rw [Int.mul_one]
  done := by
    intro X hP hw hK hc i pins s σ H E I hf st hg
    subst hP hw hK
    obtain ⟨f0, f1, f2, f3, f4, f5⟩ := hf it (by simp)
    exact wpAny_pyNext_range_end (I.ok.hd hc) st (by have : n ≤ i := hg; omega) fun h' eb => ⟨rfl, I.turned (t' := s.toks) (fun b o hb e => eb b o hb e) f0 f1 f3 f4 f5⟩
  self := fun _ _ _ _ _ st h => wpAny_pyIter_rangeiter st h
end L2

namespace L2
open PySem PySem.Spec PyProof.Rows
section
variable {X : Cx} {tg : Expr}
def iList (K : PySem.W.Frag) (tl : TE) : TI := fun σ H R => tl σ H fun x H1 => ∃ a, x = .ref a ∧ (∃ xs, SqL K H1 a xs) ∧ R (Itl K a) H1
theorem pi_list {l : Expr} {tl : TE} (hl : PE X l tl) : PI X tg l (iList X.K tl) := by
  intro pins s σ H R I h
  refine thn (hl pins s σ H _ I h) fun v s1 ⟨x, H1, I1, r1, q1⟩ => ?_
  obtain ⟨a, e, ⟨xs, hq⟩, q⟩ := q1
  subst e
  cases r1
  obtain ⟨its, rv, p, hz⟩ := I1.list hq
  refine wpAny_pyIter_list p.isList ?_
  refine ⟨s1.heap.objs.size, [s1.heap.objs.size], _, _, H1, rfl, I1.kept (t' := s1.toks) fun b o e => Heap.get?_push_of_some _ e, turn_list a _, ⟨_, Heap.get?_push_size _ rfl, rfl, rfl⟩, fun b hb => ?_, q⟩
  have e : b = s1.heap.objs.size := by simpa using hb
  subst e
  exact I1.fpOk (Nat.le_refl _) (I1.hok.fresh (Nat.le_refl _))
/-- a range object just made, walked -/
theorem range_it {pins : List (Addr × Obj)} {σ : St} {H : Hp} {s : Shared} {R : It → Hp → Prop} {E : Value → Shared → Prop} {lo hi : Int} {t u v : Tok} {tk : Nat} (I : Inv X pins σ H s) (h1 : -(2 ^ 62) ≤ lo) (h2 : lo < 2 ^ 62) (h3 : -(2 ^ 62) ≤ hi) (h4 : hi < 2 ^ 62)
    (q : R (Itr lo (hi - lo).toNat) H) : wpAny (model X.prog X.w) X.A (pyIter (.ref s.heap.objs.size)) (PIE X pins σ tg R) E { s with heap := s.heap.push { cls := .type "range", data := .fields #[.int lo t, .int hi u, .int 1 v] }, toks := tk } := by
  refine wpAny_pyIter_range (IsRange.new ..) (small_one h1 h2 h3 h4) ?_
  have I1 : Inv X pins σ H { s with heap := s.heap.push { cls := .type "range", data := .fields #[.int lo t, .int hi u, .int 1 v] }, toks := tk } := I.kept fun b o e => Heap.get?_push_of_some _ e
  refine ⟨(s.heap.push { cls := .type "range", data := .fields #[.int lo t, .int hi u, .int 1 v] }).objs.size, [(s.heap.push { cls := .type "range", data := .fields #[.int lo t, .int hi u, .int 1 v] }).objs.size], _, _, H, rfl,
    I1.kept (t' := tk) fun b o e => Heap.get?_push_of_some _ e, turn_range _ lo (hi - lo).toNat, ?_, fun b hb => ?_, q⟩
  · have e1 : lo + ((0 : Nat) : Int) * 1 = lo := by simp
    have e2 : (((hi - lo).toNat : Nat) : Int) - ((0 : Nat) : Int) = Builtin.Range.rangeSize lo hi 1 := by rw [rangeSize_one]; split <;> omega
    show IsRangeIter _ _ (lo + ((0 : Nat) : Int) * 1) ((((hi - lo).toNat : Nat) : Int) - ((0 : Nat) : Int)) 1
    rw [e1, e2]
    exact Heap.get?_push_size _ rfl
  · have e : b = (s.heap.push { cls := .type "range", data := .fields #[.int lo t, .int hi u, .int 1 v] }).objs.size := by simpa using hb
    subst e
    exact I1.fpOk (Nat.le_refl _) (I1.hok.fresh (Nat.le_refl _))
def iRng1 (ta : TA) : TI := fun σ H R => ta σ H fun vs H1 => ∃ j : Int, vs = [.int j] ∧ -(2 ^ 62) ≤ j ∧ j < 2 ^ 62 ∧ R (Itr 0 j.toNat) H1
theorem pi_range1 {a : Expr} {ta : TA} {p pos : Pos} (hg : Gl X "range") (hm : X.mg "range" = none) (ha : PA X [a] ta) (hs : starEach [a] X.env = [(false, eval a X.env)] := by rfl) : PI X tg (.Call (.Name "range" p) [a] [] pos) (iRng1 ta) := by
  intro pins s σ H R I h
  refine Call_ (ld_blt I hg hm boot_range (PyProof.Rows.callWith_type1 (thn (ha pos pins s σ H _ I h) fun us s1 ⟨vs, H1, I1, r1, q1⟩ => ?_) hs rfl))
  obtain ⟨j, e, q1, q2, q⟩ := q1
  subst e
  cases r1 with
  | cons r rr =>
    cases rr
    obtain ⟨t, rfl⟩ := r
    exact call_range_1 (range_it I1 (by omega) (by omega) q1 q2 (by simpa using q))

/-! ### for -/
/-- W: the invariant by the turn and a measure; N: what the body is to reach -/
def tFor (wi : TI) (g : TG) (tb : TS) : TS := fun D σ H => wi σ H fun J H1 => ∃ W : Nat → Nat → St → Hp → Prop, (∃ m, W 0 m σ H1) ∧ ∀ i m σ H, W i m σ H →
  (J.stop i H ∧ D.nx σ H) ∨ (J.go i H ∧ ∃ N : St → Hp → Prop, (∀ σ' H', N σ' H' → ∃ m', m' < m ∧ W (i + 1) m' σ' H') ∧ ∀ x H', J.yld i H x H' → g x σ H' fun σ2 H2 => tb { D with nx := N, ct := N, bk := D.nx } σ2 H2)
/-- the records at fp as they stand -/
def pinsAt (fp : List Addr) (h : Heap) : List (Addr × Obj) := fp.filterMap fun b => (h.get? b).map fun o => (b, o)
theorem mem_pinsAt {fp : List Addr} {h : Heap} {b : Addr} {o : Obj} (hb : b ∈ fp) (e : h.get? b = some o) : (b, o) ∈ pinsAt fp h := List.mem_filterMap.mpr ⟨b, hb, by rw [e]; rfl⟩
theorem of_pinsAt {fp : List Addr} {h : Heap} {p : Addr × Obj} (hp : p ∈ pinsAt fp h) : p.1 ∈ fp ∧ h.get? p.1 = some p.2 := by
  obtain ⟨b, hb, e⟩ := List.mem_filterMap.mp hp
  cases q : h.get? b with
  | none => rw [q] at e; cases e
  | some o =>
    rw [q] at e
    have e' : (b, o) = p := Option.some.inj e
    subst e'
    exact ⟨hb, q⟩
theorem Inv.pinned {pins : List (Addr × Obj)} {σ : St} {H : Hp} {s : Shared} {fp : List Addr} (I : Inv X pins σ H s) (hf : ∀ b ∈ fp, FpOk X pins H b) (ho : ∀ b ∈ fp, ∃ o, s.heap.get? b = some o ∧ ∀ v, o.data ≠ .cell v) : Inv X (pins ++ pinsAt fp s.heap) σ H s :=
  I.pins_of fun p hp => (List.mem_append.mp hp).elim (fun z => I.pin p (List.mem_append_right _ z)) fun z => by
    obtain ⟨hb, e⟩ := of_pinsAt z
    obtain ⟨f0, f1, f2, _⟩ := hf p.1 hb
    obtain ⟨o, e', d⟩ := ho p.1 hb
    rw [e] at e'; cases e'
    exact ⟨e, f0, f1, f2, d⟩
theorem Inv.unpinned {pins pl : List (Addr × Obj)} {σ : St} {H : Hp} {s : Shared} (I : Inv X (pins ++ pl) σ H s) : Inv X pins σ H s := I.pins_of fun p hp => I.pin p (List.mem_append_right _ (List.mem_append_left _ hp))
theorem ps_for {iter : Expr} {body : List Stmt} {wi : TI} {g : TG} {tb : TS} {pos : Pos} (hp : PassesOwn (model X.prog X.w) X.A X.env X.xe) (hc : X.calm = true) (hi : PI X tg iter wi) (hg : PG X tg g) (hb : PSs X body tb)
    (hs : ∀ x, foldedSetIterable iter X.env x = pure x := by intro _; rfl) : PS X (.For tg iter body [] pos) (tFor wi g tb) := by
  intro pins s σ H D I h
  refine wpAny_For (thn (hi pins s σ H _ I h) fun v s1 h1 => thn h1 fun itv s2 h2 => ?_) hs
  obtain ⟨it, fp, tn, J, H2, e, I2, T, st2, f2, W, ⟨m0, w0⟩, turn⟩ := h2
  subst e
  -- what stays true of the iterator's objects through the loop
  have stat : ∀ {H' : Hp}, (∀ b ∈ fp, H' b = none) → ∀ b ∈ fp, FpOk X pins H' b := fun hn b hb => ⟨hn b hb, (f2 b hb).2⟩
  refine codeAny_forLoop_any (fun n s' => ∃ i σ' H', Inv X pins σ' H' s' ∧ tn i s'.heap ∧ (∀ b ∈ fp, H' b = none) ∧ W i n σ' H') ?_ m0 ⟨0, σ, H2, I2, st2, fun b hb => (f2 b hb).1, w0⟩
  rintro n s3 ⟨i, σ3, H3, I3, st3, fr3, w3⟩
  rcases turn i n σ3 H3 w3 with ⟨stop, qn⟩ | ⟨go, N, hN, step⟩
  · refine wpAny_passesOwn hp (thn (T.done X rfl rfl rfl hc i pins s3 σ3 H3 X.xe I3 (stat fr3) st3 stop) fun r s4 ⟨hr, I4⟩ => ?_)
    subst hr
    exact wpAny_execs_nil ⟨σ3, H3, I4, qn⟩
  · refine wpAny_passesOwn hp (thn (T.item X rfl rfl rfl hc i pins s3 σ3 H3 X.xe I3 (stat fr3) st3 go) fun r s4 ⟨u, hr, h4⟩ => ?_)
    subst hr
    refine wpAny_passesOwn hp (thn h4 fun _ s5 ⟨x, H5, I5, r5, y5, st5, fr5⟩ => ?_)
    have I5' := I5.pinned (stat fr5) (T.obj _ _ st5)
    refine wpAny_passesOwn hp (thn (hg _ s5 σ3 H5 x u _ I5' r5 (step x H5 y5)) fun _ s6 ⟨σ6, H6, I6, q6⟩ => ?_)
    refine wpAny_passesOwn hp (thn (hb _ s6 σ6 H6 _ I6 q6) fun f s7 q7 => ?_)
    have again : ∀ {σ7 : St} {H7 : Hp}, Inv X (pins ++ pinsAt fp s5.heap) σ7 H7 s7 → N σ7 H7 → ∃ m, m < n ∧ ∃ i σ' H', Inv X pins σ' H' s7 ∧ tn i s7.heap ∧ (∀ b ∈ fp, H' b = none) ∧ W i m σ' H' := fun {σ7 H7} I7 n7 => by
      obtain ⟨m', hm, w7⟩ := hN σ7 H7 n7
      refine ⟨m', hm, i + 1, σ7, H7, I7.unpinned, T.keep _ _ _ st5 fun b hb o e => (I7.pin (b, o) (List.mem_append_right _ (List.mem_append_right _ (mem_pinsAt hb e)))).1, fun b hb => ?_, w7⟩
      obtain ⟨o, e, d⟩ := T.obj _ _ st5 b hb
      exact (I7.pin (b, o) (List.mem_append_right _ (List.mem_append_right _ (mem_pinsAt hb e)))).2.1
    cases f with
    | next => obtain ⟨σ7, H7, I7, n7⟩ := q7; exact again I7 n7
    | cont => obtain ⟨σ7, H7, I7, n7⟩ := q7; exact again I7 n7
    | brk => obtain ⟨σ7, H7, I7, q7⟩ := q7; exact ⟨σ7, H7, I7.unpinned, q7⟩
    | ret v => obtain ⟨x7, σ7, H7, I7, r7, q7⟩ := q7; exact ⟨x7, σ7, H7, I7.unpinned, r7, q7⟩
end

/-! ### the forms one uses -/
/-- over a list that the body leaves as it is -/
theorem for_list {K : PySem.W.Frag} {a : Addr} {xs : List V} {g : TG} {tb : TS} {D : Ends} {σ : St} {H : Hp} (Pv : Nat → St → Hp → Prop) (h0 : Pv 0 σ H) (hl : ∀ i σ H, i ≤ xs.length → Pv i σ H → SqL K H a xs)
    (hs : ∀ i x σ H, xs[i]? = some x → Pv i σ H → g x σ H fun σ2 H2 => tb { D with nx := Pv (i + 1), ct := Pv (i + 1), bk := D.nx } σ2 H2) (hd : ∀ σ H, Pv xs.length σ H → D.nx σ H) :
    ∃ W : Nat → Nat → St → Hp → Prop, (∃ m, W 0 m σ H) ∧ ∀ i m σ H, W i m σ H →
      ((Itl K a).stop i H ∧ D.nx σ H) ∨ ((Itl K a).go i H ∧ ∃ N : St → Hp → Prop, (∀ σ' H', N σ' H' → ∃ m', m' < m ∧ W (i + 1) m' σ' H') ∧ ∀ x H', (Itl K a).yld i H x H' → g x σ H' fun σ2 H2 => tb { D with nx := N, ct := N, bk := D.nx } σ2 H2) := by
  refine ⟨fun i m σ H => m = xs.length - i ∧ i ≤ xs.length ∧ Pv i σ H, ⟨xs.length, by simp, Nat.zero_le _, h0⟩, ?_⟩
  rintro i m σ H ⟨rfl, hi, p⟩
  have q := hl i σ H hi p
  by_cases hlt : i < xs.length
  · refine .inr ⟨⟨xs, xs[i], q, by simp [hlt]⟩, Pv (i + 1), fun σ' H' p' => ⟨xs.length - (i + 1), by omega, rfl, hlt, p'⟩, fun x H' y => ?_⟩
    obtain ⟨e, y⟩ := y
    subst e
    exact hs i x σ _ (y xs q) p
  · have e : i = xs.length := by omega
    subst e
    exact .inl ⟨⟨xs, q, Nat.le_refl _⟩, hd σ H p⟩
end L2

namespace L2
open PySem PySem.Spec PyProof.Rows

abbrev R2 := V → V → Hp → VK → Prop
/-- a two-place operation on values: f is binaryOp op, inplaceOp op or compareOp op -/
def OpR (X : Cx) (f : Value → Value → Sem Value) (r : R2) : Prop :=
  ∀ (pins : List (Addr × Obj)) (s : Shared) (σ : St) (H : Hp) (x y : V) (v u : Value) (Q : VK), Inv X pins σ H s → RelV x v → RelV y u → r x y H Q →
    wpAny (model X.prog X.w) X.A (f v u) (EP X pins σ Q) X.xe s
/-- a one-place operation -/
def UnR (X : Cx) (f : Value → Sem Value) (r : V → Hp → VK → Prop) : Prop :=
  ∀ (pins : List (Addr × Obj)) (s : Shared) (σ : St) (H : Hp) (x : V) (v : Value) (Q : VK), Inv X pins σ H s → RelV x v → r x H Q →
    wpAny (model X.prog X.w) X.A (f v) (EP X pins σ Q) X.xe s
/-- a call of a value that is known (a builtin, a type) with values -/
def CallR (X : Cx) (f : Value) (r : List V → Hp → VK → Prop) : Prop :=
  ∀ (pins : List (Addr × Obj)) (s : Shared) (σ : St) (H : Hp) (xs : List V) (us : List Value) (Q : VK), Inv X pins σ H s → Vals xs us → r xs H Q →
    wpAny (model X.prog X.w) X.A (call f us) (EP X pins σ Q) X.xe s
/-- a value's truth -/
def TruR (X : Cx) (r : V → Hp → (Bool → Hp → Prop) → Prop) : Prop :=
  ∀ (pins : List (Addr × Obj)) (s : Shared) (σ : St) (H : Hp) (x : V) (v : Value) (Q : Bool → Hp → Prop), Inv X pins σ H s → RelV x v → r x H Q →
    wpAny (model X.prog X.w) X.A (truthy v) (TP X pins σ Q) X.xe s

def tOp (r : R2) (ta tb : TE) : TE := fun σ H Q => ta σ H fun x H1 => tb σ H1 fun y H2 => r x y H2 Q
def tUn (r : V → Hp → VK → Prop) (ta : TE) : TE := fun σ H Q => ta σ H fun x H1 => r x H1 Q
/-- ints in, under C, and a value out -/
def rI (C : Int → Int → Prop) (g : Int → Int → V) : R2 := fun x y H Q => ∃ i j, x = .int i ∧ y = .int j ∧ C i j ∧ Q (g i j) H
def rI0 (g : Int → Int → V) : R2 := fun x y H Q => ∃ i j, x = .int i ∧ y = .int j ∧ Q (g i j) H
def rU (g : Int → V) : V → Hp → VK → Prop := fun x H Q => ∃ i, x = .int i ∧ Q (g i) H

section
variable {X : Cx} {a b c : Expr} {ta tb tc : TE} {pos : Pos}

theorem binT (ha : PE X a ta) (hb : PE X b tb) {pins : List (Addr × Obj)} {s : Shared} {σ : St} {H : Hp} {R : V → V → Hp → Prop} (I : Inv X pins σ H s)
    (h : ta σ H fun x H1 => tb σ H1 fun y H2 => R x y H2) {Q : Value → Shared → Prop} {f : Value → Value → Sem Value}
    (hf : ∀ v u s2 x y H2, Inv X pins σ H2 s2 → RelV x v → RelV y u → R x y H2 → wpAny (model X.prog X.w) X.A (f v u) Q X.xe s2) :
    wpAny (model X.prog X.w) X.A (eval a X.env) (fun v s₁ => wpAny (model X.prog X.w) X.A (eval b X.env) (fun u s₂ => wpAny (model X.prog X.w) X.A (f v u) Q X.xe s₂) X.xe s₁) X.xe s := by
  refine thn (ha pins s σ H _ I h) fun v s1 ⟨x, H1, I1, r1, q1⟩ => ?_
  refine thn (hb pins s1 σ H1 _ I1 q1) fun u s2 ⟨y, H2, I2, r2, q2⟩ => ?_
  exact hf v u s2 x y H2 I2 r1 r2 q2

theorem pe_op {op : Operator} {r : R2} (ho : OpR X (binaryOp op) r) (ha : PE X a ta) (hb : PE X b tb) : PE X (.BinOp a op b pos) (tOp r ta tb) := by
  intro pins s σ H Q I h
  exact wpAny_BinOp (binT ha hb I h fun v u s2 x y H2 I2 rx ry q => ho pins s2 σ H2 x y v u Q I2 rx ry q)
theorem pe_un {op : UnaryOp} {r : V → Hp → VK → Prop} (ho : UnR X (unaryOp op) r) (ha : PE X a ta) : PE X (.UnaryOp op a pos) (tUn r ta) := by
  intro pins s σ H Q I h
  exact UnaryOp_ (thn (ha pins s σ H _ I h) fun v s1 ⟨x, H1, I1, r1, q1⟩ => ho pins s1 σ H1 x v Q I1 r1 q1)

/-! ### ints -/
theorem opI {f : Value → Value → Sem Value} {C : Int → Int → Prop} {g : Int → Int → Int}
    (rule : ∀ (i j : Int) (t u : Tok) (s : Shared) (Q : Value → Shared → Prop) (E : Value → Shared → Prop), C i j → Q (.int (g i j) s.toks) { s with toks := s.toks + 1 } → wpAny (model X.prog X.w) X.A (f (.int i t) (.int j u)) Q E s) :
    OpR X f (rI C fun i j => .int (g i j)) := by
  intro pins s σ H x y v u Q I rx ry h
  obtain ⟨i, j, rfl, rfl, hc, q⟩ := h
  obtain ⟨t, rfl⟩ := rx
  obtain ⟨t', rfl⟩ := ry
  exact rule i j t t' s _ _ hc ⟨.int (g i j), H, I.tok _, ⟨_, rfl⟩, q⟩
theorem opI0 {f : Value → Value → Sem Value} {g : Int → Int → Int}
    (rule : ∀ (i j : Int) (t u : Tok) (s : Shared) (Q : Value → Shared → Prop) (E : Value → Shared → Prop), Q (.int (g i j) s.toks) { s with toks := s.toks + 1 } → wpAny (model X.prog X.w) X.A (f (.int i t) (.int j u)) Q E s) :
    OpR X f (rI0 fun i j => .int (g i j)) := by
  intro pins s σ H x y v u Q I rx ry h
  obtain ⟨i, j, rfl, rfl, q⟩ := h
  obtain ⟨t, rfl⟩ := rx
  obtain ⟨t', rfl⟩ := ry
  exact rule i j t t' s _ _ ⟨.int (g i j), H, I.tok _, ⟨_, rfl⟩, q⟩
theorem opB0 {f : Value → Value → Sem Value} {g : Int → Int → Bool}
    (rule : ∀ (i j : Int) (t u : Tok) (s : Shared) (Q : Value → Shared → Prop) (E : Value → Shared → Prop), Q (.bool (g i j)) s → wpAny (model X.prog X.w) X.A (f (.int i t) (.int j u)) Q E s) :
    OpR X f (rI0 fun i j => .bl (g i j)) := by
  intro pins s σ H x y v u Q I rx ry h
  obtain ⟨i, j, rfl, rfl, q⟩ := h
  obtain ⟨t, rfl⟩ := rx
  obtain ⟨t', rfl⟩ := ry
  exact rule i j t t' s _ _ ⟨.bl (g i j), H, I, rfl, q⟩

def CDiv (i j : Int) : Prop := 0 < j ∧ j < 1073741824
def CPow (i j : Int) : Prop := 0 ≤ j ∧ j ≤ 1000000 ∧ i.natAbs < 2 ^ 64
def CMul (i j : Int) : Prop := (-(2 ^ 64) < i ∧ i < 2 ^ 64) ∨ (-(2 ^ 64) < j ∧ j < 2 ^ 64)
theorem CMul.ok {i j : Int} (h : CMul i j) : IntMulOk i j := by
  rcases h with ⟨h1, h2⟩ | ⟨h1, h2⟩
  · exact .of_left (intBits_le_64 h1 h2)
  · exact .of_right (intBits_le_64 h1 h2)

theorem op_add : OpR X (binaryOp .Add) (rI0 fun i j => .int (i + j)) := opI0 fun _ _ _ _ _ _ _ q => add_int q
theorem op_sub : OpR X (binaryOp .Sub) (rI0 fun i j => .int (i - j)) := opI0 fun _ _ _ _ _ _ _ q => sub_int q
theorem op_mul : OpR X (binaryOp .Mult) (rI CMul fun i j => .int (i * j)) := opI fun _ _ _ _ _ _ _ hc q => mul_int q hc.ok
/-- // by a positive divisor -/
theorem op_fdiv : OpR X (binaryOp .FloorDiv) (rI CDiv fun i j => .int (i / j)) := opI fun i j _ _ _ _ _ hc q => by
  have h1 : (0 : Int) < j := hc.1
  have h2 : j < 1073741824 := hc.2
  exact floordiv_int (by omega) (by rw [Int.fdiv_eq_ediv_of_nonneg i (by omega)]; exact q) (.inl (PyProof.noPylong_small (by omega)))
/-- % by a positive divisor of any size -/
theorem op_mod : OpR X (binaryOp .Mod) (rI (fun _ j => 0 < j) fun i j => .int (i % j)) := opI fun i j _ _ _ _ _ hc q => by
  have h1 : (0 : Int) < j := hc
  exact mod_int' (by omega) (by rw [Int.fmod_eq_emod_of_nonneg i (by omega)]; exact q)
theorem op_pow : OpR X (binaryOp .Pow) (rI CPow fun i j => .int (i ^ j.toNat)) := opI fun _ _ _ _ _ _ _ hc q => pow_int_small hc.1 hc.2.1 hc.2.2 q


theorem unI {f : Value → Sem Value} {g : Int → Int}
    (rule : ∀ (i : Int) (t : Tok) (s : Shared) (Q : Value → Shared → Prop) (E : Value → Shared → Prop), Q (.int (g i) s.toks) { s with toks := s.toks + 1 } → wpAny (model X.prog X.w) X.A (f (.int i t)) Q E s) :
    UnR X f (rU fun i => .int (g i)) := by
  intro pins s σ H x v Q I rx h
  obtain ⟨i, rfl, q⟩ := h
  obtain ⟨t, rfl⟩ := rx
  exact rule i t s _ _ ⟨.int (g i), H, I.tok _, ⟨_, rfl⟩, q⟩
theorem un_neg : UnR X (unaryOp .USub) (rU fun i => .int (-i)) := unI fun _ _ _ _ _ q => neg_int q

/-! ### bools among ints: n += (a < b) -/
end

/-! ### comparisons -/
/-- the scalars that == tells apart as data does -/
def scal : V → V → Bool
  | .non, .non => true | .non, .int _ => true | .int _, .non => true | .non, .bl _ => true | .bl _, .non => true | .non, .str _ => true | .str _, .non => true
  | .int _, .int _ => true | .bl _, .bl _ => true | .str _, .str _ => true | .byt _, .byt _ => true
  | .int _, .str _ => true | .str _, .int _ => true | .bl _, .str _ => true | .str _, .bl _ => true
  | _, _ => false
def rEq : R2 := fun x y H Q => scal x y = true ∧ Q (.bl (decide (x = y))) H
def rNe : R2 := fun x y H Q => scal x y = true ∧ Q (.bl (!decide (x = y))) H

theorem dec_int {i j : Int} : decide (V.int i = V.int j) = (i == j) := by
  rw [Bool.eq_iff_iff]
  simp
theorem dec_bl {i j : Bool} : decide (V.bl i = V.bl j) = (i == j) := by
  rw [Bool.eq_iff_iff]
  simp
theorem dec_str {i j : Str} : decide (V.str i = V.str j) = (i == j) := by
  rw [Bool.eq_iff_iff]
  simp
theorem dec_byt {i j : Array UInt8} : decide (V.byt i = V.byt j) = (i.toList == j.toList) := by
  rw [Bool.eq_iff_iff]
  cases i
  cases j
  simp

section
variable {X : Cx} {a b c : Expr} {ta tb tc : TE} {pos : Pos}
theorem fin_bl {pins : List (Addr × Obj)} {σ : St} {H : Hp} {s : Shared} {Q : VK} {k k' : Bool} (I : Inv X pins σ H s) (q : Q (.bl k) H) (e : k = k') : EP X pins σ Q (.bool k') s := by
  subst e
  exact ⟨.bl k, H, I, rfl, q⟩
theorem op_eq : OpR X (compareOp .Eq) rEq := by
  intro pins s σ H x y v u Q I rx ry h
  obtain ⟨hs, q⟩ := h
  cases x with
  | non =>
    cases rx
    cases y with
    | non => cases ry; exact PySem.EqNone.eq_none_none (fin_bl I q (by simp))
    | bl j => cases ry; exact PySem.EqNone.eq_none_bool (fin_bl I q (by simp))
    | int j => obtain ⟨t', rfl⟩ := ry; exact PySem.EqNone.eq_none_int (fin_bl I q (by simp))
    | str j => obtain ⟨t', rfl⟩ := ry; exact PySem.EqNone.eq_none_str (fin_bl I q (by simp))
    | _ => exact absurd (show false = true from hs) Bool.false_ne_true
  | bl i =>
    cases rx
    cases y with
    | non => cases ry; exact PySem.EqNone.eq_bool_none (fin_bl I q (by simp))
    | bl j => cases ry; exact eq_bool (fin_bl I q dec_bl)
    | str j => obtain ⟨t', rfl⟩ := ry; exact PySem.EqMixed.eq_bool_str (fin_bl I q (by simp))
    | _ => exact absurd (show false = true from hs) Bool.false_ne_true
  | int i =>
    obtain ⟨t, rfl⟩ := rx
    cases y with
    | non => cases ry; exact PySem.EqNone.eq_int_none (fin_bl I q (by simp))
    | int j => obtain ⟨t', rfl⟩ := ry; exact eq_int (fin_bl I q dec_int)
    | str j => obtain ⟨t', rfl⟩ := ry; exact PySem.EqMixed.eq_int_str (fin_bl I q (by simp))
    | _ => exact absurd (show false = true from hs) Bool.false_ne_true
  | str i =>
    obtain ⟨t, rfl⟩ := rx
    cases y with
    | non => cases ry; exact PySem.EqNone.eq_str_none (fin_bl I q (by simp))
    | bl j => cases ry; exact PySem.EqMixed.eq_str_bool (fin_bl I q (by simp))
    | int j => obtain ⟨t', rfl⟩ := ry; exact PySem.EqMixed.eq_str_int (fin_bl I q (by simp))
    | str j => obtain ⟨t', rfl⟩ := ry; exact eq_str (fin_bl I q dec_str)
    | _ => exact absurd (show false = true from hs) Bool.false_ne_true
  | byt i =>
    obtain ⟨t, rfl⟩ := rx
    cases y with
    | byt j => obtain ⟨t', rfl⟩ := ry; exact PySem.W.eq_bytes (fin_bl I q dec_byt)
    | _ => exact absurd (show false = true from hs) Bool.false_ne_true
  | _ => cases y <;> exact absurd (show false = true from hs) Bool.false_ne_true
theorem op_ne : OpR X (compareOp .NotEq) rNe := by
  intro pins s σ H x y v u Q I rx ry h
  obtain ⟨hs, q⟩ := h
  cases x with
  | non =>
    cases rx
    cases y with
    | non => cases ry; exact PySem.EqNone.ne_none_none (fin_bl I q (by simp))
    | bl j => cases ry; exact PySem.EqNone.ne_none_bool (fin_bl I q (by simp))
    | int j => obtain ⟨t', rfl⟩ := ry; exact PySem.EqNone.ne_none_int (fin_bl I q (by simp))
    | str j => obtain ⟨t', rfl⟩ := ry; exact PySem.EqNone.ne_none_str (fin_bl I q (by simp))
    | _ => exact absurd (show false = true from hs) Bool.false_ne_true
  | bl i =>
    cases rx
    cases y with
    | non => cases ry; exact PySem.EqNone.ne_bool_none (fin_bl I q (by simp))
    | bl j => cases ry; exact ne_bool (fin_bl I q (congrArg not dec_bl))
    | str j => obtain ⟨t', rfl⟩ := ry; exact PySem.EqMixed.ne_bool_str (fin_bl I q (by simp))
    | _ => exact absurd (show false = true from hs) Bool.false_ne_true
  | int i =>
    obtain ⟨t, rfl⟩ := rx
    cases y with
    | non => cases ry; exact PySem.EqNone.ne_int_none (fin_bl I q (by simp))
    | int j => obtain ⟨t', rfl⟩ := ry; exact ne_int (fin_bl I q (congrArg not dec_int))
    | str j => obtain ⟨t', rfl⟩ := ry; exact PySem.EqMixed.ne_int_str (fin_bl I q (by simp))
    | _ => exact absurd (show false = true from hs) Bool.false_ne_true
  | str i =>
    obtain ⟨t, rfl⟩ := rx
    cases y with
    | non => cases ry; exact PySem.EqNone.ne_str_none (fin_bl I q (by simp))
    | bl j => cases ry; exact PySem.EqMixed.ne_str_bool (fin_bl I q (by simp))
    | int j => obtain ⟨t', rfl⟩ := ry; exact PySem.EqMixed.ne_str_int (fin_bl I q (by simp))
    | str j => obtain ⟨t', rfl⟩ := ry; exact ne_str (fin_bl I q (congrArg not dec_str))
    | _ => exact absurd (show false = true from hs) Bool.false_ne_true
  | byt i =>
    obtain ⟨t, rfl⟩ := rx
    cases y with
    | byt j => obtain ⟨t', rfl⟩ := ry; exact PySem.W.ne_bytes (fin_bl I q (congrArg not dec_byt))
    | _ => exact absurd (show false = true from hs) Bool.false_ne_true
  | _ => cases y <;> exact absurd (show false = true from hs) Bool.false_ne_true

theorem op_lt : OpR X (compareOp .Lt) (rI0 fun i j => .bl (decide (i < j))) := opB0 fun _ _ _ _ _ _ _ q => lt_int q
theorem op_le : OpR X (compareOp .LtE) (rI0 fun i j => .bl (decide (i ≤ j))) := opB0 fun _ _ _ _ _ _ _ q => le_int q
theorem op_gt : OpR X (compareOp .Gt) (rI0 fun i j => .bl (decide (j < i))) := opB0 fun _ _ _ _ _ _ _ q => gt_int q
theorem op_ge : OpR X (compareOp .GtE) (rI0 fun i j => .bl (decide (j ≤ i))) := opB0 fun _ _ _ _ _ _ _ q => ge_int q

theorem op_notN : OpR X (compareOp .IsNot) (fun x y H Q => y = .non ∧ Q (.bl (!decide (x = .non))) H) := by
  intro pins s σ H x y v u Q I rx ry h
  obtain ⟨rfl, q⟩ := h
  cases ry
  refine isnot_none_gen (fin_bl I q ?_)
  cases x <;> first
    | (cases rx; rfl)
    | (obtain ⟨t, rfl⟩ := rx; rfl)


/-- two rules for one operation: by cases -/
theorem OpR.or {f : Value → Value → Sem Value} {r r' : R2} (h : OpR X f r) (h' : OpR X f r') : OpR X f (fun x y H Q => r x y H Q ∨ r' x y H Q) := by
  intro pins s σ H x y v u Q I rx ry q
  rcases q with q | q
  · exact h pins s σ H x y v u Q I rx ry q
  · exact h' pins s σ H x y v u Q I rx ry q

theorem nomark (b : Expr) {op : CmpOp} (h : op ≠ .In := by decide) (h2 : op ≠ .NotIn := by decide) : behindInMarks op b = false := by
  have e1 : (op == CmpOp.In) = false := by cases op <;> first | rfl | exact absurd rfl h
  have e2 : (op == CmpOp.NotIn) = false := by cases op <;> first | rfl | exact absurd rfl h2
  cases b <;> simp [behindInMarks, e1, e2]
/-- a comparison as a value; hm: nomark b, or (for in, not in) by with_unfolding_all rfl -/
theorem pe_cmpR {op : CmpOp} {r : R2} (ho : OpR X (compareOp op) r) (ha : PE X a ta) (hb : PE X b tb) (hm : behindInMarks op b = false) : PE X (.Compare a [op] [b] pos) (tOp r ta tb) := by
  intro pins s σ H Q I h
  exact wpAny_Compare1 (binT ha hb I h fun v u s2 x y H2 I2 rx ry q => ho pins s2 σ H2 x y v u Q I2 rx ry q) hm
/-- a reading of a value as a test -/
def tTest (t : TE) : TT := fun σ H Q => t σ H fun x H' => ∃ k, x = .bl k ∧ Q k H'
theorem pt_cmpR {op : CmpOp} {r : R2} (ho : OpR X (compareOp op) r) (ha : PE X a ta) (hb : PE X b tb) (hm : behindInMarks op b = false) : PT X (.Compare a [op] [b] pos) (tTest (tOp r ta tb)) := by
  intro pins s σ H Q I h
  refine wpAny_isTrue_Compare1 (thn (ha pins s σ H _ I h) fun v s1 ⟨x, H1, I1, r1, q1⟩ => thn (hb pins s1 σ H1 _ I1 q1) fun u s2 ⟨y, H2, I2, r2, q2⟩ =>
    thn (ho pins s2 σ H2 x y v u _ I2 r1 r2 q2) fun c s3 ⟨z, H3, I3, r3, k, e, q3⟩ => ?_) hm
  subst e
  cases r3
  exact wpAny_truthy_bool ⟨H3, I3, q3⟩

/-! ### truth -/
/-- a value's truth by the abstract heap -/
def TruV (K : PySem.W.Frag) (x : V) (H : Hp) (k : Bool) : Prop :=
  match x with
  | .non => k = false
  | .bl b => k = b
  | .int i => k = (i != 0)
  | .str y => y.length ≤ sizeLine ∧ k = ((y.length : Int) != 0)
  | .byt y => y.size ≤ sizeLine ∧ k = ((y.size : Int) != 0)
  | .ref p => (∃ xs, SqL K H p xs ∧ k = !xs.isEmpty) ∨ (∃ xs, SqT K H p xs ∧ k = !xs.isEmpty) ∨ ∃ kvs, H p = some (.dK kvs) ∧ k = !kvs.isEmpty
  | _ => False
theorem isEmpty_kv {κ : Type} {kvs : List (κ × V)} {vs : List (κ × Value)} (r : KV kvs vs) : (!vs.isEmpty) = !kvs.isEmpty := by
  cases r <;> rfl
theorem isEmpty_of {xs : List V} {its : List Value} (r : Vals xs its) : (!its.toArray.isEmpty) = !xs.isEmpty := by
  cases r <;> simp
theorem line63 : (sizeLine : Nat) < 2 ^ 63 := by rw [sizeLine_eq]; decide
theorem tru_ok : TruR X (fun x H Q => ∃ k, TruV X.K x H k ∧ Q k H) := by
  intro pins s σ H x v Q I rx h
  obtain ⟨k, e, q⟩ := h
  have hl := line63
  have hs : sizeLine = 16777216 := sizeLine_eq
  cases x with
  | non =>
    cases rx
    have e' : k = false := e
    subst e'
    exact truthy_none ⟨H, I, q⟩
  | bl b =>
    cases rx
    have e' : k = b := e
    subst e'
    exact wpAny_truthy_bool ⟨H, I, q⟩
  | int i =>
    obtain ⟨t, rfl⟩ := rx
    have e' : k = (i != 0) := e
    subst e'
    exact PySem.P.truthy_int ⟨H, I, q⟩
  | str y =>
    obtain ⟨t, rfl⟩ := rx
    obtain ⟨hy, e'⟩ : y.length ≤ sizeLine ∧ k = ((y.length : Int) != 0) := e
    subst e'
    exact PySem.P.truthy_str (by omega) ⟨H, I.tok _, q⟩
  | byt y =>
    obtain ⟨t, rfl⟩ := rx
    obtain ⟨hy, e'⟩ : y.size ≤ sizeLine ∧ k = ((y.size : Int) != 0) := e
    subst e'
    exact PySem.W.truthy_bytes (by omega) ⟨H, I.tok _, q⟩
  | ref p =>
    cases rx
    have e' : (∃ xs, SqL X.K H p xs ∧ k = !xs.isEmpty) ∨ (∃ xs, SqT X.K H p xs ∧ k = !xs.isEmpty) ∨ ∃ kvs, H p = some (.dK kvs) ∧ k = !kvs.isEmpty := e
    rcases e' with ⟨xs, hx, e'⟩ | ⟨xs, hx, e'⟩ | ⟨kvs, hx, e'⟩
    · subst e'
      obtain ⟨its, r, pl, hz⟩ := I.list hx
      have hlen := r.length
      exact wpAny_truthy_list pl.isList (by simp only [List.size_toArray]; omega) ⟨H, I.tok _, by rw [isEmpty_of r]; exact q⟩
    · subst e'
      obtain ⟨its, r, pl, hz⟩ := I.tuple hx
      have hlen := r.length
      exact truthy_tuple pl (by simp only [List.size_toArray]; omega) ⟨H, I.tok _, by rw [isEmpty_of r]; exact q⟩
    · subst e'
      obtain ⟨hz, hS, vs, r, m⟩ : kvs.length ≤ sizeLine ∧ (p == sysModules) = false ∧ ∃ vs, KV kvs vs ∧ s.heap.DictOf (mixKind X.prog X.w) p vs := I.hok p _ hx
      have hlen : kvs.length = vs.length := Paired.length r
      exact wpAny_truthy_dict hS m (by omega) ⟨H, I.tok _, by rw [isEmpty_kv r]; exact q⟩
  | _ => exact (show False from e).elim
/-- any expression whose test is its value's truth (a name, a call, a subscript, a field ..: he by fun _ => rfl) -/
theorem pt_truth (ha : PE X a ta) (he : ∀ whole, isTrue a X.env whole = (do let v ← whole; standAt a.pos; holding [v] (truthy v))) :
    PT X a (fun σ H Q => ta σ H fun x H' => ∃ k, TruV X.K x H' k ∧ Q k H') := by
  intro pins s σ H Q I h
  exact isTrue_plain (thn (ha pins s σ H _ I h) fun v s1 ⟨x, H1, I1, r1, q1⟩ => tru_ok pins s1 σ H1 x v Q I1 r1 q1) (he _)

/-! ### strs and bytes -/


/-! ### scalar builtins, by CallR -/
theorem vals1 {x : V} {us : List Value} (r : Vals [x] us) : ∃ u, us = [u] ∧ RelV x u := by
  cases r with
  | cons r1 r2 => cases r2; exact ⟨_, rfl, r1⟩
theorem vals2 {x y : V} {us : List Value} (r : Vals [x, y] us) : ∃ u w', us = [u, w'] ∧ RelV x u ∧ RelV y w' := by
  cases r with
  | cons r1 r2 =>
    cases r2 with
    | cons r3 r4 => cases r4; exact ⟨_, _, rfl, r1, r3⟩
theorem call_abs : CallR X (.builtin "abs") (fun xs H Q => ∃ i, xs = [.int i] ∧ Q (.int (if i < 0 then -i else i)) H) := by
  intro pins s σ H xs us Q I r h
  obtain ⟨i, rfl, q⟩ := h
  obtain ⟨u, rfl, t, rfl⟩ := vals1 r
  exact call_abs_int fun u tk => ⟨.int (if i < 0 then -i else i), H, I.tok _, ⟨_, rfl⟩, q⟩
theorem call_max2 (hc : X.calm = true) : CallR X (.builtin "max") (fun xs H Q => ∃ i j, xs = [.int i, .int j] ∧ Q (.int (if j > i then j else i)) H) := by
  intro pins s σ H xs us Q I r h
  obtain ⟨i, j, rfl, q⟩ := h
  obtain ⟨u, w', rfl, ⟨t, rfl⟩, ⟨t', rfl⟩⟩ := vals2 r
  refine max_two_ints (I.ok.hd hc) fun h' tk k => ⟨_, H, I.kept k, ?_, q⟩
  by_cases hj : j > i
  · rw [if_pos hj, if_pos hj]; exact ⟨_, rfl⟩
  · rw [if_neg hj, if_neg hj]; exact ⟨_, rfl⟩
theorem call_min2 (hc : X.calm = true) : CallR X (.builtin "min") (fun xs H Q => ∃ i j, xs = [.int i, .int j] ∧ Q (.int (if j < i then j else i)) H) := by
  intro pins s σ H xs us Q I r h
  obtain ⟨i, j, rfl, q⟩ := h
  obtain ⟨u, w', rfl, ⟨t, rfl⟩, ⟨t', rfl⟩⟩ := vals2 r
  refine min_two_ints (I.ok.hd hc) fun h' tk k => ⟨_, H, I.kept k, ?_, q⟩
  by_cases hj : j < i
  · rw [if_pos hj, if_pos hj]; exact ⟨_, rfl⟩
  · rw [if_neg hj, if_neg hj]; exact ⟨_, rfl⟩
end
end L2

namespace L2
open PySem PySem.Spec PyProof.Rows

/-! ### an instance, its attributes a map -/
structure ObjM (h : Heap) (x dx C : Addr) (mA : Str → Option Value) : Prop where
  obj : h.get? x = some (PySem.W.instObj C dx)
  ns : h.Ns1 dx mA
  ne : dx ≠ x

theorem lookIn_ns {h : Heap} {dx : Addr} {mA : Str → Option Value} (n : h.Ns1 dx mA) : ∃ od, h.get? dx = some od ∧ ∀ name, PySem.W.lookIn name od = some (mA name) := by
  obtain ⟨o, es, ep, ho, hd, hk, _, hm⟩ := n
  refine ⟨o, ho, fun name => ?_⟩
  have e := hm name
  unfold nsFind findBy at e
  rw [← Array.find?_toList] at e
  unfold PySem.W.lookIn
  rw [hd]
  dsimp only
  split
  · rename_i y q
    rw [q] at e
    exact congrArg some e
  · rename_i q
    rw [q] at e
    have a : es.toList.any (·.refKey) = false := by
      rw [List.any_eq_false]
      intro y hy
      obtain ⟨z, t, hkey⟩ := hk y (Array.mem_toList_iff.mp hy)
      simp [DictEntry.refKey, hkey]
    have a' : ¬ es.toList.any (·.refKey) = true := by rw [a]; exact Bool.false_ne_true
    rw [if_neg a']
    exact congrArg some e

theorem ObjM.look {h : Heap} {x dx C : Addr} {mA : Str → Option Value} (I : ObjM h x dx C mA) : ∃ od, PySem.W.InstAt h x (PySem.W.instObj C dx) C (some od) ∧ ∀ name, PySem.W.lookIn name od = some (mA name) :=
  let ⟨od, ho, hl⟩ := lookIn_ns I.ns
  ⟨od, ⟨I.obj, rfl, rfl, ho⟩, hl⟩

section
variable {prog : Program} {w : World} {A : Around} {E : Value → Shared → Prop} {s : Shared} {K : PySem.W.Frag} {x dx C f : Addr} {mA : Str → Option Value} {name : Str} {v : Value}





end

/-! ### the attributes as a list of pairs -/

theorem RelO.some_of {v : V} {o : Option Value} (r : RelO (some v) o) : ∃ u, o = some u ∧ RelV v u := by
  cases o with
  | none => exact (show False from r).elim
  | some u => exact ⟨u, rfl, r⟩

section
variable {P : Program} {w : World} {H H' : Hp} {h h' : Heap} {a C dx : Addr} {fs fs' : List (Str × V)}
theorem ins_get (hok : HOk P w H h) (e : H a = some (.ins C dx fs)) : ∃ mA, ObjM h a dx C mA ∧ (∀ f, RelO (fs.lookup f) (mA f)) ∧ PySem.Within mA (fs.map (·.1)) ∧ fs.length ≤ 1000 ∧ H dx = some (.own a) := by
  obtain ⟨d, z, ne, ob, mA, n, r, q⟩ := (show ObjOk P w H h a (.ins C dx fs) from hok a _ e)
  exact ⟨mA, ⟨ob, n, ne⟩, r, q, z, d⟩
end

/-! ### what of the text a class must have -/
structure Cls (K : PySem.W.Frag) (C : Addr) : Prop where
  pg : PySem.W.plainGet K C Str.empty = true
  hd : PySem.W.hasDictIn K C = true
  po : PySem.W.plainOver K C = true
  sa : PySem.W.findIn K (.ref C) "__setattr__" = some (some (.builtin "object.__setattr__"))
theorem Cls.get {K : PySem.W.Frag} {C : Addr} (c : Cls K C) (f : Str) : PySem.W.plainGet K C f = true := c.pg
/-- a constant of the class -/
structure Con (K : PySem.W.Frag) (C : Addr) (f : Str) (v : V) (u : Value) : Prop where
  at_ : PySem.W.findIn K (.ref C) f = some (some u)
  rel : RelV v u
  get : PySem.W.specialIn K u "__get__" = some none
  cp : PySem.W.copiedNames.contains f = false
/-- a method: a plain def of the class or of one above it -/
structure Meth (K : PySem.W.Frag) (C : Addr) (m : Str) (f : Addr) : Prop where
  at_ : PySem.W.findIn K (.ref C) m = some (some (.ref f))
  fn : PySem.W.isFn K (.ref f) = true
  kp : PySem.W.keepIn K (.ref f) = true

section
variable {X : Cx} {pins : List (Addr × Obj)} {σ : St} {H : Hp} {s : Shared} {a C dx : Addr} {fs : List (Str × V)} {f : Str} {v : V} {A : Around} {E : Value → Shared → Prop}






end

/-! ### readings and rules -/

section
variable {X : Cx} {o e value : Expr} {f : Str} {pos pos' tpos : Pos} {ta tv : TE}

end

/-! ### isinstance -/
section
variable {X : Cx} {pins : List (Addr × Obj)} {σ : St} {H : Hp} {s : Shared} {A : Around} {E : Value → Shared → Prop} {Q : Value → Shared → Prop} {c : Value} {b : Bool}
/-- the type of a value, as the fragment's deciders take it; for an instance its class -/
inductive TyOf (K : PySem.W.Frag) (H : Hp) : V → Value → Prop where
  | non : TyOf K H .non (.type "NoneType")
  | bl (x : Bool) : TyOf K H (.bl x) (.type "bool")
  | int (i : Int) : TyOf K H (.int i) (.type "int")
  | str (x : Str) : TyOf K H (.str x) (.type "str")
  | flt (x : UInt64) : TyOf K H (.flt x) (.type "float")
  | lst {a : Addr} {xs : List V} (e : H a = some (.lst xs)) : TyOf K H (.ref a) (.type "list")
  | frz {a : Addr} {o : Obj} {xs : List V} (e : H a = some (.frz o (.lst xs))) : TyOf K H (.ref a) (.type "list")
  | tup {a : Addr} {xs : List V} (e : H a = some (.tup xs)) : TyOf K H (.ref a) (.type "tuple")
  | dK {a : Addr} {kvs : List (Key × V)} (e : H a = some (.dK kvs)) : TyOf K H (.ref a) (.type "dict")
  | dT {a : Addr} {kvs : List (List Key × V)} (e : H a = some (.dT kvs)) : TyOf K H (.ref a) (.type "dict")
  | ins {a C dx : Addr} {fs : List (Str × V)} (e : H a = some (.ins C dx fs)) (cl : Cls K C) (ha : PySem.W.findIn K (.ref C) "__class__" = some (some (.builtin "object.__class__")))
      (hn : PySem.W.specialIn K (.builtin "object.__class__") "__get__" = some (some (.builtin "getset_descriptor.__get__"))) (htk : PySem.W.takesIn K (.builtin "object.__class__") = some true)
      (hm : PySem.W.mroIn K C (.type "object") = some true) : TyOf K H (.ref a) (.ref C)
/-- isinstance(x, c) for one class c, a built-in or an own one: kitOne's answer -/
theorem isinst_ok {x : V} {u t : Value} (I : Inv X pins σ H s) (rx : RelV x u) (ty : TyOf X.K H x t) (e : PySem.W.kitOne X.K t c = some b) (h : ∀ tk, Q (.bool b) { s with toks := tk }) :
    wpAny (model X.prog X.w) A (call (.builtin "isinstance") [u, c]) Q E s := by
  cases ty with
  | non => cases (show u = Value.none from rx); exact PySem.W.kia_one PySem.W.kitx_none I.kIn True.intro e (fun z => nomatch z) h
  | bl y => cases (show u = Value.bool y from rx); exact PySem.W.kia_one PySem.W.kitx_bool I.kIn True.intro e (fun z => nomatch z) h
  | int i => obtain ⟨t, q⟩ := (show ∃ t, u = Value.int i t from rx); cases q; exact PySem.W.kia_one PySem.W.kitx_int I.kIn True.intro e (fun z => nomatch z) h
  | str y => obtain ⟨t, q⟩ := (show ∃ t, u = Value.str y t from rx); cases q; exact PySem.W.kia_one PySem.W.kitx_str I.kIn True.intro e (fun z => nomatch z) h
  | flt y => obtain ⟨t, q⟩ := (show ∃ t, u = Value.float y t from rx); cases q; exact PySem.W.kia_one PySem.W.kitx_float I.kIn True.intro e (fun z => nomatch z) h
  | @lst a xs ea =>
    cases (show u = Value.ref a from rx)
    obtain ⟨_, _, n, _, h1⟩ := (show ObjOk X.prog X.w H s.heap a (.lst xs) from I.hok a _ ea)
    exact PySem.W.kia_one PySem.W.kitx_list I.kIn ⟨_, h1, rfl⟩ e (fun z => nomatch z) h
  | @frz a ob xs ea =>
    cases (show u = Value.ref a from rx)
    obtain ⟨_, _, _, n, _, h1⟩ := (show ObjOk X.prog X.w H s.heap a (.frz ob (.lst xs)) from I.hok a _ ea)
    exact PySem.W.kia_one PySem.W.kitx_list I.kIn ⟨_, h1, rfl⟩ e (fun z => nomatch z) h
  | @tup a xs ea =>
    cases (show u = Value.ref a from rx)
    obtain ⟨_, _, _, p⟩ := (show ObjOk X.prog X.w H s.heap a (.tup xs) from I.hok a _ ea)
    obtain ⟨o, h1, h2, _⟩ := p
    exact PySem.W.kia_one PySem.W.kitx_tuple I.kIn ⟨o, h1, h2⟩ e (fun z => nomatch z) h
  | @dK a kvs ea =>
    cases (show u = Value.ref a from rx)
    obtain ⟨_, _, vs, _, p⟩ := (show ObjOk X.prog X.w H s.heap a (.dK kvs) from I.hok a _ ea)
    obtain ⟨o, es, ep, h1, h2, _⟩ := p
    exact PySem.W.kia_one PySem.W.kitx_dict I.kIn ⟨o, h1, h2.1⟩ e (fun z => nomatch z) h
  | @dT a kvs ea =>
    cases (show u = Value.ref a from rx)
    obtain ⟨_, _, xs, _, o, es, ep, h1, h2, _⟩ := (show ObjOk X.prog X.w H s.heap a (.dT kvs) from I.hok a _ ea)
    exact PySem.W.kia_one PySem.W.kitx_dict I.kIn ⟨o, h1, h2.1⟩ e (fun z => nomatch z) h
  | @ins a C dx fs ea cl ha hn htk hm =>
    cases (show u = Value.ref a from rx)
    obtain ⟨mA, O, _⟩ := ins_get I.hok ea
    obtain ⟨od, J, _⟩ := O.look
    exact PySem.W.kia_one (PySem.W.kitx_own (cl.get _) cl.hd ha hn htk hm) I.kIn J e (fun z => nomatch z) h
end
end L2

namespace L2
open PySem PySem.Spec PyProof.Rows

/-! ### room -/
structure Room (k : Nat) (A : Around) : Prop where
  hd : A.handled = none
  dp : A.depth + 3 * k + 5 < recursionLimit
  un : A.units + 16 * k + 200 < cLine
theorem Room.mono {j k : Nat} {A : Around} (r : Room k A) (h : j ≤ k) : Room j A := ⟨r.hd, by have := r.dp; omega, by have := r.un; omega⟩
theorem Room.deeper {k : Nat} {A : Around} (r : Room (k + 1) A) (env : Env) : Room k (A.deeper env) :=
  ⟨r.hd, by have := r.dp; show A.depth + 1 + 3 * k + 5 < _; omega, by have := r.un; show A.units + 3 + 16 * k + 200 < _; omega⟩
theorem Room.in1 {k : Nat} {A : Around} (r : Room (k + 1) A) : Room k A.in1 :=
  ⟨r.hd, by have := r.dp; show A.depth + 3 * k + 5 < _; omega, by have := r.un; show A.units + 1 + 16 * k + 200 < _; omega⟩
theorem Room.depth {k : Nat} {A : Around} (r : Room k A) : A.depth < recursionLimit := by have := r.dp; omega

/-! ### argument lists and displays -/
def tNil : TA := fun _ H Q => Q [] H
def tCons (ta : TE) (tr : TA) : TA := fun σ H Q => ta σ H fun x H1 => tr σ H1 fun xs H2 => Q (x :: xs) H2
section
variable {X : Cx} {e : Expr} {es : List Expr} {te : TE} {t : TA} {pos : Pos}
theorem pa_nil : PA X [] tNil := fun _ _ _ _ H Q I h => Calls.spliced_nil ⟨[], H, I, .nil, h⟩
theorem pa_cons (ha : PE X e te) (hr : PA X es t) (hs : starEach (e :: es) X.env = (false, eval e X.env) :: starEach es X.env := by rfl) : PA X (e :: es) (tCons te t) := by
  intro pos pins s σ H Q I h
  rw [hs]
  show wpAny _ _ (spliced ((false, eval e X.env) :: backTo pos (starEach es X.env))) _ _ s
  refine Calls.spliced_cons (thn (ha pins s σ H _ I h) fun u s1 ⟨x, H1, I1, r1, q1⟩ => ?_)
  exact thn (hr pos pins s1 σ H1 _ I1 q1) fun us s2 ⟨xs, H2, I2, r2, q2⟩ => ⟨x :: xs, H2, I2, .cons r1 r2, q2⟩

/-- a tuple, a list of written items -/
def tTup (t : TA) : TE := fun σ H Q => t σ H fun xs H1 => xs.length ≤ sizeLine ∧ ∀ p, H1 p = none → Q (.ref p) (upd H1 p (.tup xs))
def tLst (t : TA) : TE := fun σ H Q => t σ H fun xs H1 => xs.length ≤ sizeLine ∧ ∀ p, H1 p = none → Q (.ref p) (upd H1 p (.lst xs))
theorem pe_tup {x1} (h : PA X es t) : PE X (.Tuple es x1 pos) (tTup t) := by
  intro pins s σ H Q I hq
  refine wpAny_Tuple_spliced (thn (h pos pins s σ H _ I hq) fun us s1 ⟨xs, H1, I1, r, z, q⟩ => ⟨by rw [← r.length]; exact z, ?_⟩)
  have hf : H1 s1.heap.objs.size = none := I1.hok.fresh (Nat.le_refl _)
  refine ⟨.ref s1.heap.objs.size, upd H1 s1.heap.objs.size (.tup xs), I1.laid (t' := s1.toks) (fun b u e => Heap.get?_push_of_some _ e) (Nat.le_refl _) ?_, rfl, q _ hf⟩
  exact ⟨z, us, r, ⟨_, Heap.get?_push_size _ rfl, rfl, _, rfl⟩⟩
theorem pe_lst (h : PA X es t) : PE X (.List es pos) (tLst t) := by
  intro pins s σ H Q I hq
  refine wpAny_List_spliced (thn (h pos pins s σ H _ I hq) fun us s1 ⟨xs, H1, I1, r, z, q⟩ => ⟨by rw [← r.length]; exact z, ?_⟩)
  have hf : H1 s1.heap.objs.size = none := I1.hok.fresh (Nat.le_refl _)
  refine ⟨.ref s1.heap.objs.size, upd H1 s1.heap.objs.size (.lst xs), I1.laid (t' := s1.toks) (fun b u e => Heap.get?_push_of_some _ e) (Nat.le_refl _) ?_, rfl, q _ hf⟩
  exact ⟨z, us, 0, r, Heap.get?_push_size _ rfl⟩
end

/-! ### what a def promises -/
/-- a def's promise: the bound arguments in the parameters' order, the heap, the wanted end, the wanted exception -/
abbrev Sp := List V → Hp → VK → XK → Prop
/-- how an exception lies behind a call (file 08 gives it): the callers' frames, abstract heap and state ahead of the call, the wish, the exception, the state -/
abbrev CXT := List Env → Hp → Shared → XK → Value → Shared → Prop

/-- the state at a call -/
structure Env0 (P : Program) (w : World) (K : PySem.W.Frag) (mg : Str → Option Value) (base : Heap) (A : Around) (outer : List Env) (s : Shared) (H : Hp) : Prop where
  frames : A.frames = some outer
  mod : Mod K mg base
  bs : ∀ b o, base.get? b = some o → s.heap.get? b = some o ∧ H b = none
  bsz : base.objs.size ≤ s.heap.objs.size
  funs : s.heap.FunFrames base outer
  frf : ∀ b ∈ frs outer, H b = none
  hok : HOk P w H s.heap
  bare : AllBare s.gens
/-- a call's end -/
def CE (outer : List Env) (P : Program) (w : World) (H : Hp) (s : Shared) (Q : VK) (u : Value) (s' : Shared) : Prop :=
  ∃ v H', s'.os = s.os ∧ AllBare s'.gens ∧ Un (frs outer) [] H H' s.heap s'.heap ∧ HOk P w H' s'.heap ∧ RelV v u ∧ Q v H'
def CR (CX : CXT) (outer : List Env) (P : Program) (w : World) (H : Hp) (s : Shared) (Q : VK) (E : XK) (r : Result) (s' : Shared) : Prop :=
  match r with
  | .ok (.ret u) => CE outer P w H s Q u s'
  | .ok _ => False
  | .error e => CX outer H s E e s'
structure FnOk (P : Program) (w : World) (K : PySem.W.Frag) (mg : Str → Option Value) (base : Heap) (CX : CXT) (k : Nat) (f : Addr) (fd : FuncData) (ps : List Str) (sp : Sp) : Prop where
  len : ∀ vs H Q E, sp vs H Q E → vs.length = ps.length
  run : ∀ (A : Around) (outer : List Env) (s : Shared) (H : Hp) (args : Args) (us : List Value) (vs : List V) (Q : VK) (E : XK), Room k A → Env0 P w K mg base A outer s H → BindsTo s fd args (ps.zip us) → Vals vs us → sp vs H Q E →
    codeAny (model P w) A (.call (.ref f) args) (CR CX outer P w H s Q E) s
theorem FnOk.mono {P : Program} {w : World} {K : PySem.W.Frag} {mg : Str → Option Value} {base : Heap} {CX : CXT} {j k : Nat} {f : Addr} {fd : FuncData} {ps : List Str} {sp : Sp} (F : FnOk P w K mg base CX j f fd ps sp) (h : j ≤ k) :
    FnOk P w K mg base CX k f fd ps sp := ⟨F.len, fun A outer s H args us vs Q E hr => F.run A outer s H args us vs Q E (hr.mono h)⟩

theorem Env0.in1 {P : Program} {w : World} {K : PySem.W.Frag} {mg : Str → Option Value} {base : Heap} {A : Around} {outer : List Env} {s : Shared} {H : Hp} (e : Env0 P w K mg base A outer s H) :
    Env0 P w K mg base A.in1 outer s H := ⟨e.frames, e.mod, e.bs, e.bsz, e.funs, e.frf, e.hok, e.bare⟩

section
variable {X : Cx} {pins : List (Addr × Obj)} {σ : St} {H : Hp} {s s' : Shared}
/-- from a body: what a callee wants -/
theorem Inv.env0 (I : Inv X pins σ H s) : Env0 X.prog X.w X.K X.mg X.base X.A X.stack s H :=
  ⟨I.ok.frames, I.ok.mod, I.bs, Nat.le_trans I.ok.bsz I.sz, I.stack, I.stkFree, I.hok, I.bare⟩
/-- behind a call -/
theorem Inv.after {Q : VK} {u : Value} (I : Inv X pins σ H s) (h : CE X.stack X.prog X.w H s Q u s') : EP X pins σ Q u s' := by
  obtain ⟨v, H', os, bare, un, hok, r, q⟩ := h
  obtain ⟨hh, g, d, t, os'⟩ := s'
  obtain rfl : os' = s.os := os
  exact ⟨v, H', I.call (h' := hh) (g' := g) (d' := d) (t' := t) (ch := []) un hok bare (fun b z => absurd z (by simp)), r, q⟩
end

/-! ### calls -/
/-- f(..): the written arguments, then the defaults dvs; E: what is wanted of an exception -/
def tCall (sp : Sp) (dvs : List V) (E : XK) (t : TA) : TE := fun σ H Q => t σ H fun vs H1 => sp (vs ++ dvs) H1 Q E

/-- how the parameters are bound: us the positional arguments, kw the keywords' values by name, ds the defaults that fill up -/
def Binds (K : PySem.W.Frag) (fd : FuncData) (ps : List Str) (ds : List Value) : Prop :=
  ∀ (s : Shared) (us : List Value), K.In s.heap → (us ++ ds).length = ps.length → BindsTo s fd ⟨us, []⟩ (ps.zip (us ++ ds))
/-- every parameter is given -/
theorem Binds.all {K : PySem.W.Frag} {fd : FuncData} {ps : List Str} (h : ∀ us : List Value, us.length = ps.length → bindArgs fd ⟨us, []⟩ = pure (ps.zip us)) : Binds K fd ps [] := fun s us _ hl => by
  rw [List.append_nil] at hl ⊢
  exact .of_eq (h us hl)

/-- an exception of a callee reaches what this body wants of exceptions -/
def Passes (CX : CXT) (X : Cx) (E : XK) : Prop := ∀ (pins : List (Addr × Obj)) (σ : St) (H : Hp) (s : Shared) (e : Value) (s' : Shared), Inv X pins σ H s → CX X.stack H s E e s' → X.xe e s'

section
variable {X : Cx} {CX : CXT} {k : Nat} {f C : Addr} {fd : FuncData} {ps : List Str} {sp : Sp} {dvs : List V} {ds : List Value} {E : XK} {x m : Str} {p pos apos : Pos} {e o : Expr} {es : List Expr} {ta : TE} {t : TA}

/-- the callee runs -/
theorem run_fn {pins : List (Addr × Obj)} {σ : St} {H : Hp} {s : Shared} {Q : VK} {us : List Value} {vs : List V} (F : FnOk X.prog X.w X.K X.mg X.base CX k f fd ps sp) (hr : Room k X.A) (hb : Binds X.K fd ps ds) (hd : Vals dvs ds) (hx : Passes CX X E)
    (I : Inv X pins σ H s) (r : Vals vs us) (h : sp (vs ++ dvs) H Q E) : wpAny (model X.prog X.w) X.A (call (.ref f) us) (EP X pins σ Q) X.xe s := by
  have r2 : Vals (vs ++ dvs) (us ++ ds) := r.append hd
  have hl : (us ++ ds).length = ps.length := by rw [← r2.length]; exact F.len _ _ _ _ h
  refine wpAny_call (codeAny_mono (F.run X.A X.stack s H ⟨us, []⟩ (us ++ ds) (vs ++ dvs) Q E hr I.env0 (hb s us I.kIn hl) r2 h) fun r s' hq => ?_)
  cases r with
  | error e => exact hx pins σ H s e s' I hq
  | ok fl =>
    cases fl with
    | ret u => exact I.after hq
    | next => exact False.elim hq
    | brk => exact False.elim hq
    | cont => exact False.elim hq

theorem pe_call (F : FnOk X.prog X.w X.K X.mg X.base CX k f fd ps sp) (hr : Room k X.A) (hg : Gl X x) (hm : X.mg x = some (.ref f)) (hk : PySem.W.keepIn X.K (.ref f) = true) (hb : Binds X.K fd ps ds) (hd : Vals dvs ds) (hx : Passes CX X E)
    (ha : PA X (e :: es) t) (hdb : (x == ("__debug__" : Str)) = false := by decide) (he : starEach (e :: es) X.env = (false, eval e X.env) :: starEach es X.env := by rfl) (hpl : (backTo pos (starEach es X.env)).any (·.1) = false := by rfl) :
    PE X (.Call (.Name x p) (e :: es) [] pos) (tCall sp dvs E t) := by
  intro pins s σ H Q I h
  refine wpAny_Call_Name_kw (ld_glob I hg hm ?_ hdb)
  refine PySem.W.callWith_K (h₀ := X.base) I.ok.mod.kin hk (thn (ha pos pins s σ H _ I h) fun us s1 ⟨vs, H1, I1, r, q⟩ => ⟨I1.kIn, ?_⟩) he hpl
  exact run_fn F hr hb hd hx I1 r q
theorem pe_call0 (F : FnOk X.prog X.w X.K X.mg X.base CX k f fd ps sp) (hr : Room k X.A) (hg : Gl X x) (hm : X.mg x = some (.ref f)) (hk : PySem.W.keepIn X.K (.ref f) = true) (hb : Binds X.K fd ps ds) (hd : Vals dvs ds) (hx : Passes CX X E)
    (hdb : (x == ("__debug__" : Str)) = false := by decide) : PE X (.Call (.Name x p) [] [] pos) (tCall sp dvs E tNil) := by
  intro pins s σ H Q I h
  refine wpAny_Call_Name_kw (ld_glob I hg hm ?_ hdb)
  exact PySem.W.callWith_K0 I.kIn hk (run_fn (us := []) F hr hb hd hx I .nil h)


/-- what a class must have to be made -/
structure Mk (K : PySem.W.Frag) (C f : Addr) : Prop where
  makes : PySem.W.makesIn K C = true
  init : PySem.W.findIn K (.ref C) "__init__" = some (some (.ref f))
  fn : PySem.W.isFn K (.ref f) = true
  kp : PySem.W.keepIn K (.ref C) = true

end

/-! ### keywords -/
/-- the values of the keywords, from the left -/
def PK (X : Cx) (kws : List Keyword) (t : TA) : Prop :=
  ∀ (pos : Pos) (pins : List (Addr × Obj)) (s : Shared) (σ : St) (H : Hp) (Q : List V → Hp → Prop), Inv X pins σ H s → t σ H Q → wpAny (model X.prog X.w) X.A (evalAll ((backToKw pos (keywordEach kws X.env)).map (·.2))) (AP X pins σ Q) X.xe s
section
variable {X : Cx} {CX : CXT} {k : Nat} {f C : Addr} {fd : FuncData} {ps ks : List Str} {sp : Sp} {E : XK} {x m : Str} {p pos apos kpos : Pos} {e o : Expr} {es : List Expr} {kws : List Keyword} {te ta : TE} {t tk : TA} {nm : Option Str}
theorem pk_nil : PK X [] tNil := fun _ _ _ _ H Q I h => wpAny_evalAll_nil ⟨[], H, I, .nil, h⟩
theorem pk_cons (ha : PE X e te) (hr : PK X kws t) : PK X (⟨nm, e, kpos⟩ :: kws) (tCons te t) := by
  intro pos pins s σ H Q I h
  show wpAny _ _ (evalAll ((do let v ← eval e X.env; standAt pos; pure v) :: (backToKw pos (keywordEach kws X.env)).map (·.2))) _ _ s
  refine wpAny_evalAll_cons (wpAny_bind (thn (ha pins s σ H _ I h) fun u s1 ⟨x, H1, I1, r1, q1⟩ => wpAny_bind (wpAny_standAt (wpAny_pure ?_))))
  exact thn (hr pos pins s1 σ H1 _ I1 q1) fun us s2 ⟨xs, H2, I2, r2, q2⟩ => ⟨x :: xs, H2, I2, .cons r1 r2, q2⟩

/-- how a call with keywords binds: g puts the positional values us and the keywords' values ws (names ks) in the parameters' order, defaults among them -/
structure KBinds (K : PySem.W.Frag) (fd : FuncData) (ps ks : List Str) (g : List Value → List Value → List Value) (gV : List V → List V → List V) : Prop where
  to : ∀ (s : Shared) (us ws : List Value), K.In s.heap → (g us ws).length = ps.length → BindsTo s fd ⟨us, ks.zip ws⟩ (ps.zip (g us ws))
  rel : ∀ {vs : List V} {us : List Value} {zs : List V} {ws : List Value}, Vals vs us → Vals zs ws → Vals (gV vs zs) (g us ws)
variable {g : List Value → List Value → List Value} {gV : List V → List V → List V}
end

/-! ### a def's body keeps its promise -/
/-- names: the parameters first -/
structure FnScope (N P : List Str) (sc : Scope) : Prop where
  kind : sc.kind = .function
  co : sc.isCoroutine = false
  gen : sc.isGenerator = false
  nd : N.Nodup
  pre : N.take P.length = P
  par : ∀ x ∈ P, sc.names.lookup x = some .local ∨ sc.names.lookup x = some .cell
  nofree : ∀ y ∈ sc.names, y.2 ≠ .free

theorem bindL_out {kindOf : Str → Option NameKind} {x : Str} : ∀ {binds : List (Str × Value)} {m : Str → Option Value}, (∀ v, (x, v) ∉ binds) → bindL kindOf binds m x = m x
  | [], _, _ => rfl
  | (n, v) :: r, m, h => by
    unfold bindL
    rw [bindL_out fun w hw => h w (List.mem_cons_of_mem _ hw)]
    split
    · have : x ≠ n := by rintro rfl; exact h v List.mem_cons_self
      simp [this]
    · rfl
theorem bindC_out {kindOf : Str → Option NameKind} {x : Str} : ∀ {binds : List (Str × Value)} {m : Str → Option Value}, (∀ v, (x, v) ∉ binds) → bindC kindOf binds m x = m x
  | [], _, _ => rfl
  | (n, v) :: r, m, h => by
    unfold bindC
    rw [bindC_out fun w hw => h w (List.mem_cons_of_mem _ hw)]
    split
    · rfl
    · have : x ≠ n := by rintro rfl; exact h v List.mem_cons_self
      simp [this]
theorem bindL_get {kindOf : Str → Option NameKind} {x : Str} {v : Value} : ∀ {P : List Str} {vs : List Value} {i : Nat} {m : Str → Option Value}, P.Nodup → P[i]? = some x → vs[i]? = some v → kindOf x = some .local →
    bindL kindOf (P.zip vs) m x = some v
  | [], _, _, _, _, h, _, _ => by simp at h
  | _ :: _, [], _, _, _, _, h, _ => by simp at h
  | p :: P, w :: vs, 0, m, nd, h1, h2, hk => by
    simp at h1 h2; subst h1; subst h2
    show bindL kindOf ((p, w) :: P.zip vs) m p = _
    unfold bindL
    rw [bindL_out fun v hv => (List.nodup_cons.mp nd).1 (List.of_mem_zip hv).1, if_pos hk]
    simp
  | p :: P, w :: vs, i + 1, m, nd, h1, h2, hk => by
    show bindL kindOf ((p, w) :: P.zip vs) m x = _
    unfold bindL
    exact bindL_get (i := i) (List.nodup_cons.mp nd).2 (by simpa using h1) (by simpa using h2) hk
theorem bindC_get {kindOf : Str → Option NameKind} {x : Str} {v : Value} : ∀ {P : List Str} {vs : List Value} {i : Nat} {m : Str → Option Value}, P.Nodup → P[i]? = some x → vs[i]? = some v → kindOf x ≠ some .local →
    bindC kindOf (P.zip vs) m x = some v
  | [], _, _, _, _, h, _, _ => by simp at h
  | _ :: _, [], _, _, _, _, h, _ => by simp at h
  | p :: P, w :: vs, 0, m, nd, h1, h2, hk => by
    simp at h1 h2; subst h1; subst h2
    show bindC kindOf ((p, w) :: P.zip vs) m p = _
    unfold bindC
    rw [bindC_out fun v hv => (List.nodup_cons.mp nd).1 (List.of_mem_zip hv).1, if_neg hk]
    simp
  | p :: P, w :: vs, i + 1, m, nd, h1, h2, hk => by
    show bindC kindOf ((p, w) :: P.zip vs) m x = _
    unfold bindC
    exact bindC_get (i := i) (List.nodup_cons.mp nd).2 (by simpa using h1) (by simpa using h2) hk

/-- the names' values at the entry -/
def start (N : List Str) (vs : List V) : St := vs.map some ++ List.replicate (N.length - vs.length) none

/-- the context of a def's body, at its entry; an exception leaves the frame, then lies as CX says -/
def cxOf (CX : CXT) (P : Program) (w : World) (K : PySem.W.Frag) (mg : Str → Option Value) (base : Heap) (N : List Str) (qual : Str) (scope : Scope) (f : Addr) (cd : Value) (A : Around) (outer : List Env) (s : Shared) (H : Hp) (E : XK) : Cx where
  prog := P
  w := w
  K := K
  mg := mg
  base := base
  A := A.deeper (envOfC qual scope s.heap.objs.size f cd)
  N := N
  s₀ := s
  H₀ := H
  env := envOfC qual scope s.heap.objs.size f cd
  outer := outer
  stack := envOfC qual scope s.heap.objs.size f cd :: outer
  ex := []
  calm := true
  fn := fun _ => true
  pn := []
  xe := fun e s' => wpAny (model P w) (A.deeper (envOfC qual scope s.heap.objs.size f cd)) (leaving (envOfC qual scope s.heap.objs.size f cd) e) (fun _ s'' => CX outer H s E e s'') (fun e' s'' => CX outer H s E e' s'') s'

theorem cell_has {sc : Scope} {n : Nat} {x : Str} (h : sc.names.lookup x = some .cell) : ∃ c, (cellsFrom n sc.names []).lookup x = some c := by
  have q := PySem.W.cellsFrom_some sc.names n [] (.inl h)
  exact Option.isSome_iff_exists.mp q

theorem inv_start {CX : CXT} {P : Program} {w : World} {K : PySem.W.Frag} {mg : Str → Option Value} {base : Heap} {N ps : List Str} {qual : Str} {scope : Scope} {f : Addr} {cd : Value} {A : Around} {outer : List Env} {s s1 : Shared} {H : Hp} {E : XK} {us : List Value} {vs : List V}
    (S : FnScope N ps scope) (hd : A.handled = none) (e0 : Env0 P w K mg base A outer s H) (hl : vs.length = ps.length) (r : Vals vs us)
    (x : InCallC s s.heap.objs.size (bindL (envOfC qual scope s.heap.objs.size f cd).kindOf (ps.zip us) fun _ => none) (cellsFrom (s.heap.objs.size + 1) scope.names []) (bindC (envOfC qual scope s.heap.objs.size f cd).kindOf (ps.zip us) fun _ => none) s1) :
    Inv (cxOf CX P w K mg base N qual scope f cd A outer s H E) [] (start N vs) H s1 := by
  have hpl : ps.length ≤ N.length := by have := congrArg List.length S.pre; rw [List.length_take] at this; omega
  obtain ⟨h1, tk, rfl, hk⟩ := x.done
  have noA : ∀ b : Addr, b ∉ (cxOf CX P w K mg base N qual scope f cd A outer s H E).ex := fun b z => absurd (show b ∈ ([] : List Addr) from z) (by simp)
  refine ⟨⟨e0.mod, S.kind, rfl, rfl, Nat.le_refl _, fun y z c h1 h2 => ?_, fun y hy => ?_, fun y c _ h => ?_, fun _ => hd, Around.frames_deeper e0.frames, .inr ⟨rfl, rfl⟩, fun b z => absurd z (noA b), e0.bs, e0.bsz, fun b _ _ => noA b, fun b z => absurd z (noA b), e0.funs, e0.frf⟩,
    rfl, e0.bare, Un.kept hk, ⟨_, x.toInCall.ns, fun i y v h1 h2 h3 => ?_⟩, fun y c h => ⟨_, x.cell y c h⟩, e0.hok.fresh (Nat.le_refl _), fun y c h => ?_, fun p hp => absurd (show p ∈ ([] : List (Addr × Obj)) from hp) (by simp), e0.hok.kept hk, ?_⟩
  · exact name_of_addr x.apart (PySem.mem_of_lookup h1) (PySem.mem_of_lookup h2)
  · have hy : scope.names.lookup y = some .cell ∨ scope.names.lookup y = some .free := hy
    rcases hy with hy | hy
    · exact cell_has hy
    · exact absurd rfl (S.nofree _ (PySem.mem_of_lookup hy))
  · exact Nat.le_of_lt (x.above y c (PySem.mem_of_lookup h))
  · have hi : i < vs.length := by
      unfold start at h2
      by_cases hi : i < vs.length
      · exact hi
      · rw [List.getElem?_append_right (by simpa using hi)] at h2
        rw [List.getElem?_replicate] at h2
        split at h2 <;> cases h2
    have ha : vs[i]? = some v := by
      unfold start at h2
      rw [List.getElem?_append_left (by simpa using hi), List.getElem?_map] at h2
      cases e : vs[i]? with
      | none => rw [e] at h2; cases h2
      | some a => rw [e] at h2; cases h2; rfl
    obtain ⟨u, hu, rv⟩ := r.get ha
    have hp : ps[i]? = some y := by
      rw [← S.pre, List.getElem?_take_of_lt (by omega)]; exact h1
    have ndP : ps.Nodup := by rw [← S.pre]; exact S.nd.sublist (List.take_sublist _ _)
    refine ⟨u, rv, ?_⟩
    rcases S.par y (List.mem_of_getElem? hp) with k | k
    · exact .inl ⟨k, bindL_get ndP hp hu k⟩
    · obtain ⟨c, e⟩ := cell_has (n := s.heap.objs.size + 1) k
      refine .inr ⟨.inl k, c, e, ?_⟩
      have q := x.cell y c e
      rw [bindC_get ndP hp hu (by show scope.names.lookup y ≠ _; rw [k]; decide)] at q
      exact q
  · exact e0.hok.fresh (Nat.le_of_lt (x.above y c (PySem.mem_of_lookup h)))
  · unfold start
    show _ = N.length
    rw [List.length_append, List.length_map, List.length_replicate]
    omega

/-- THE RULE: a def (or a method) of the text, by its body. The body's reading t is chosen for each entry; it is run at the parameters' values -/
theorem fn_of {CX : CXT} {P : Program} {w : World} {K : PySem.W.Frag} {mg : Str → Option Value} {base : Heap} {k : Nat} {f : Addr} {name qual : Str} {params : Arguments} {body : List Stmt} {scope : Scope} {dV kV doc pm cdv ct oc : Value} {an od : Option Addr}
    {osl : Array (Option Value)} {N ps : List Str} {sp : Sp} (lk : K.lookup f = some ⟨oc, od, .func (PySem.W.fnOf name qual params body scope dV kV doc pm an cdv ct), osl⟩) (hcd : PySem.W.codeIn K cdv qual = true) (S : FnScope N ps scope)
    (len : ∀ vs H Q E, sp vs H Q E → vs.length = ps.length)
    (hbody : ∀ (A : Around) (outer : List Env) (s : Shared) (H : Hp) (vs : List V) (Q : VK) (E : XK), Room k (A.deeper (envOfC qual scope s.heap.objs.size f cdv)) → sp vs H Q E →
      ∃ t, PSs (cxOf CX P w K mg base N qual scope f cdv A outer s H E) body t ∧ t { nx := fun _ H' => Q .non H', rt := Q } (start N vs) H) :
    FnOk P w K mg base CX (k + 1) f (PySem.W.fnOf name qual params body scope dV kV doc pm an cdv ct) ps sp := by
  refine ⟨len, fun A outer s H args us vs Q E hr e0 hb r hsp => ?_⟩
  have hl := len _ _ _ _ hsp
  have KX : K.In s.heap := e0.mod.kin.keeps fun b o e => (e0.bs b o e).1
  have lim : s.heap.NoLimit := e0.mod.nolimit.keeps fun b o e => (e0.bs b o e).1
  have hkind : ∀ y ∈ ps.zip us, scope.names.lookup y.1 = some .local ∨ (scope.names.lookup y.1 = some .cell ∧ ((cellsFrom (s.heap.objs.size + 1) scope.names []).lookup y.1).isSome = true) := fun ⟨n, v⟩ hy => by
    rcases S.par n (List.of_mem_zip hy).1 with q | q
    · exact .inl q
    · exact .inr ⟨q, PySem.W.cellsFrom_some _ _ _ (.inl q)⟩
  refine codeAny_call_function hr.depth (KX _ _ lk) rfl S.co S.gen rfl (PySem.W.codeRec_of KX hcd) (hb _ _ _ _ ?_)
  refine wpAny_newFunctionEnv_cells S.kind hkind fun env he s1 x => ?_
  subst he
  refine ⟨lim.keeps x.toInCall.keep, codeAny_func ?_⟩
  obtain ⟨t, ht, hq⟩ := hbody A outer s H vs Q E (hr.deeper _) hsp
  have I : Inv (cxOf CX P w K mg base N qual scope f cdv A outer s H E) [] (start N vs) H s1 := inv_start S hr.hd e0 hl r x
  refine wpAny_mono (ht [] s1 (start N vs) H _ I hq) (fun fl s' hs => ?_) fun e s' hs => hs
  have fin : ∀ {σ' : St} {H' : Hp} {v : V} {u : Value}, Inv (cxOf CX P w K mg base N qual scope f cdv A outer s H E) [] σ' H' s' → RelV v u → Q v H' → CE outer P w H s Q u s' :=
    fun {σ' H' v u} J rv q => ⟨v, H', J.os, J.bare, J.base, J.hok, rv, q⟩
  cases fl with
  | ret u =>
    obtain ⟨v, σ', H', J, rv, q⟩ := hs
    exact fin J rv q
  | next =>
    obtain ⟨σ', H', J, q⟩ := hs
    exact fin (v := V.non) (u := Value.none) J rfl q
  | brk =>
    obtain ⟨_, _, _, q⟩ := hs
    exact False.elim q
  | cont =>
    obtain ⟨_, _, _, q⟩ := hs
    exact False.elim q
end L2

namespace L2
open PySem PySem.Spec PyProof.Rows
section
variable {X : Cx} {x : Str} {p pos : Pos} {e : Expr} {es : List Expr} {t : TA} {id T : String} {r : List V → Hp → VK → Prop}

def tCB (r : List V → Hp → VK → Prop) (t : TA) : TE := fun σ H Q => t σ H fun vs H1 => r vs H1 Q
/-- f(e, ..), f a built-in function -/
theorem pe_callB (hc : CallR X (.builtin id) r) (hg : Gl X x) (hm : X.mg x = none) (hv : bootBuiltins x = some (.builtin id)) (ha : PA X (e :: es) t) (hn : x ≠ "__name__" := by decide) (hdb : (x == ("__debug__" : Str)) = false := by decide)
    (he : starEach (e :: es) X.env = (false, eval e X.env) :: starEach es X.env := by rfl) (hpl : (backTo pos (starEach es X.env)).any (·.1) = false := by rfl) : PE X (.Call (.Name x p) (e :: es) [] pos) (tCB r t) := by
  intro pins s σ H Q I h
  refine wpAny_Call_Name_kw (ld_blt I hg hm hv ?_ hn hdb)
  exact PyProof.Rows.callWith_builtin1 (thn (ha pos pins s σ H _ I h) fun us s1 ⟨vs, H1, I1, r1, q1⟩ => hc pins s1 σ H1 vs us Q I1 r1 q1) he hpl
/-- T(e, ..), T a built-in type -/
theorem pe_callTy (hc : CallR X (.type T) r) (hg : Gl X x) (hm : X.mg x = none) (hv : bootBuiltins x = some (.type T)) (ha : PA X (e :: es) t) (hn : x ≠ "__name__" := by decide) (hdb : (x == ("__debug__" : Str)) = false := by decide)
    (he : starEach (e :: es) X.env = (false, eval e X.env) :: starEach es X.env := by rfl) (hpl : (backTo pos (starEach es X.env)).any (·.1) = false := by rfl) : PE X (.Call (.Name x p) (e :: es) [] pos) (tCB r t) := by
  intro pins s σ H Q I h
  refine wpAny_Call_Name_kw (ld_blt I hg hm hv ?_ hn hdb)
  exact PyProof.Rows.callWith_type1 (thn (ha pos pins s σ H _ I h) fun us s1 ⟨vs, H1, I1, r1, q1⟩ => hc pins s1 σ H1 vs us Q I1 r1 q1) he hpl
end
end L2

namespace L2
open PySem PySem.Spec PyProof.Rows

/-! ### lists of pairs as tables -/
section
variable {κ : Type} [DecidableEq κ]
def valV (kvs : List (κ × V)) (k : κ) : Option V := (kvs.find? fun kv => decide (kv.1 = k)).map (·.2)
/-- in its place, or at the end -/
def putK (kvs : List (κ × V)) (k : κ) (v : V) : List (κ × V) :=
  if (kvs.any fun kv => decide (kv.1 = k)) = true then kvs.map (fun kv => if kv.1 = k then (kv.1, v) else kv) else kvs ++ [(k, v)]
def dropK (kvs : List (κ × V)) (k : κ) : List (κ × V) := kvs.filter fun kv => decide (kv.1 ≠ k)

theorem valV_pos {p : κ × V} {r : List (κ × V)} {k : κ} (e : p.1 = k) : valV (p :: r) k = some p.2 := by simp [valV, List.find?_cons, e]
theorem valV_neg {p : κ × V} {r : List (κ × V)} {k : κ} (e : ¬ p.1 = k) : valV (p :: r) k = valV r k := by simp [valV, List.find?_cons, e]
theorem valV_any (k : κ) : ∀ kvs : List (κ × V), (kvs.any fun kv => decide (kv.1 = k)) = (valV kvs k).isSome
  | [] => rfl
  | p :: r => by
    rw [List.any_cons]
    by_cases e : p.1 = k
    · simp only [valV_pos e, decide_eq_true e, Bool.true_or, Option.isSome_some]
    · rw [valV_neg e, decide_eq_false e, Bool.false_or]; exact valV_any k r
theorem length_putK (kvs : List (κ × V)) (k : κ) (v : V) : (putK kvs k v).length ≤ kvs.length + 1 := by
  unfold putK
  split
  · rw [List.length_map]; omega
  · rw [List.length_append, List.length_cons, List.length_nil]; omega

theorem RelO.isSome_eq {o : Option V} {u : Option Value} (r : RelO o u) : o.isSome = u.isSome := by
  cases o with
  | none => cases u with
    | none => rfl
    | some _ => exact (show False from r).elim
  | some _ => cases u with
    | none => exact (show False from r).elim
    | some _ => rfl
theorem RelO.getD {o : Option V} {u : Option Value} {d : V} {d' : Value} (r : RelO o u) (rd : RelV d d') : RelV (o.getD d) (u.getD d') := by
  cases o with
  | none => cases u with
    | none => exact rd
    | some _ => exact (show False from r).elim
  | some _ => cases u with
    | none => exact (show False from r).elim
    | some _ => exact r

/-- raw tables of the same keys -/
theorem KV.val {kvs : List (κ × V)} {vs : List (κ × Value)} (r : KV kvs vs) (k : κ) : RelO (valV kvs k) (valueAt vs k) := by
  unfold KV at r
  induction r with
  | nil => exact True.intro
  | @cons p q ps qs h t ih =>
    obtain ⟨h1, h2⟩ := h
    by_cases e : p.1 = k
    · have e' : q.1 = k := h1.symm.trans e
      have b : valueAt (q :: qs) k = some q.2 := by simp [valueAt, List.find?_cons, e']
      rw [valV_pos e, b]; exact h2
    · have e' : ¬ q.1 = k := fun z => e (h1.trans z)
      have b : valueAt (q :: qs) k = valueAt qs k := by simp [valueAt, List.find?_cons, e']
      rw [valV_neg e, b]; exact ih
theorem KV.any {kvs : List (κ × V)} {vs : List (κ × Value)} (r : KV kvs vs) (k : κ) : (kvs.any fun kv => decide (kv.1 = k)) = vs.any fun kv => decide (kv.1 = k) := by
  unfold KV at r
  induction r with
  | nil => rfl
  | cons h t ih => rw [List.any_cons, List.any_cons, ih, h.1]
theorem KV.repl {kvs : List (κ × V)} {vs : List (κ × Value)} (r : KV kvs vs) (k : κ) {y : V} {u : Value} (ry : RelV y u) :
    KV (kvs.map fun kv => if kv.1 = k then (kv.1, y) else kv) (vs.map fun kv => if kv.1 = k then (kv.1, u) else kv) := by
  unfold KV at r ⊢
  induction r with
  | nil => exact .nil
  | @cons p q ps qs h t ih =>
    rw [List.map_cons, List.map_cons]
    refine .cons ?_ ih
    obtain ⟨h1, h2⟩ := h
    by_cases e : p.1 = k
    · rw [if_pos e, if_pos (h1.symm.trans e)]; exact ⟨h1, ry⟩
    · rw [if_neg e, if_neg (fun z => e (h1.trans z))]; exact ⟨h1, h2⟩
theorem KV.put {kvs : List (κ × V)} {vs : List (κ × Value)} (r : KV kvs vs) (k : κ) {y : V} {u : Value} (ry : RelV y u) : KV (putK kvs k y) (stored vs k u) := by
  unfold putK stored
  rw [r.any k]
  by_cases e : (vs.any fun kv => decide (kv.1 = k)) = true
  · rw [if_pos e, if_pos e]; exact r.repl k ry
  · rw [if_neg e, if_neg e]; exact Paired.snoc r ⟨rfl, ry⟩
theorem KV.drop {kvs : List (κ × V)} {vs : List (κ × Value)} (r : KV kvs vs) (k : κ) : KV (dropK kvs k) (without vs k) := by
  unfold KV at r ⊢
  unfold dropK without
  induction r with
  | nil => exact .nil
  | @cons p q ps qs h t ih =>
    obtain ⟨h1, h2⟩ := h
    rw [List.filter_cons, List.filter_cons]
    by_cases e : p.1 = k
    · have a : ¬ decide (p.1 ≠ k) = true := by simp [e]
      have b : ¬ decide (q.1 ≠ k) = true := by simp [h1.symm.trans e]
      rw [if_neg a, if_neg b]; exact ih
    · have e' : ¬ q.1 = k := fun z => e (h1.trans z)
      have a : decide (p.1 ≠ k) = true := by simp [e]
      have b : decide (q.1 ≠ k) = true := by simp [e']
      rw [if_pos a, if_pos b]; exact .cons ⟨h1, h2⟩ ih
theorem KV.length {kvs : List (κ × V)} {vs : List (κ × Value)} (r : KV kvs vs) : kvs.length = vs.length := Paired.length r
theorem dropK_le (kvs : List (κ × V)) (k : κ) : (dropK kvs k).length ≤ kvs.length := List.length_filter_le _ _
end


/-! ### a tracked dict, its keys ints and texts or tuples of these -/
theorem kV_is {P : Program} {w : World} {k : Key} {u : Value} (r : RelV (kV k) u) : (mixKind P w).is k u = true := by
  cases k with
  | inl i => obtain ⟨t, e⟩ := (show ∃ t, u = Value.int i t from r); subst e; exact mixKind_int P w i t
  | inr x => obtain ⟨t, e⟩ := (show ∃ t, u = Value.str x t from r); subst e; exact mixKind_str P w x t
theorem items_are {P : Program} {w : World} : ∀ {ks : List Key} {us : List Value}, Vals (ks.map kV) us → ItemsAre (mixKind P w) ks us
  | [], _, r => by rw [List.map_nil] at r; cases r; exact .nil
  | k :: ks, _, r => by
    rw [List.map_cons] at r
    cases r with
    | cons h t => exact .cons (kV_is h) (items_are t)

/-- raw entries of a dict with tuple keys -/
abbrev KT (H : Hp) : List (List Key × V) → List (List Key × Addr × Value) → Prop := Paired fun p q => p.1 = q.1 ∧ H q.2.1 = some (.tup (p.1.map kV)) ∧ RelV p.2 q.2.2
theorem KT.val {H : Hp} {kvs : List (List Key × V)} {xs : List (List Key × Addr × Value)} (r : KT H kvs xs) (k : List Key) : RelO (valV kvs k) ((atKey xs k).map (·.2)) := by
  induction r with
  | nil => exact True.intro
  | @cons p q ps qs h t ih =>
    obtain ⟨h1, _, h2⟩ := h
    by_cases e : p.1 = k
    · have e' : q.1 = k := h1.symm.trans e
      have b : atKey (q :: qs) k = some q.2 := by simp [atKey, List.find?_cons, e']
      rw [valV_pos e, b]; exact h2
    · have e' : ¬ q.1 = k := fun z => e (h1.trans z)
      have b : atKey (q :: qs) k = atKey qs k := by simp [atKey, List.find?_cons, e']
      rw [valV_neg e, b]; exact ih
theorem KT.repl {H : Hp} {kvs : List (List Key × V)} {xs : List (List Key × Addr × Value)} (r : KT H kvs xs) (k : List Key) {y : V} {u : Value} (ry : RelV y u) :
    KT H (kvs.map fun kv => if kv.1 = k then (kv.1, y) else kv) (xs.map (putAt k u)) := by
  induction r with
  | nil => exact .nil
  | @cons p q ps qs h t ih =>
    rw [List.map_cons, List.map_cons]
    refine .cons ?_ ih
    obtain ⟨h1, h2, h3⟩ := h
    unfold putAt
    by_cases e : p.1 = k
    · rw [if_pos e, if_pos (h1.symm.trans e)]; exact ⟨h1, h2, ry⟩
    · rw [if_neg e, if_neg (fun z => e (h1.trans z))]; exact ⟨h1, h2, h3⟩
theorem KT.put {H : Hp} {kvs : List (List Key × V)} {xs : List (List Key × Addr × Value)} (r : KT H kvs xs) (k : List Key) {b : Addr} {y : V} {u : Value} (hb : H b = some (.tup (k.map kV))) (ry : RelV y u) :
    KT H (putK kvs k y) (storedH xs k b u) := by
  have e : (kvs.any fun kv => decide (kv.1 = k)) = (atKey xs k).isSome := by
    rw [valV_any, (r.val k).isSome_eq, Option.isSome_map]
  unfold putK storedH
  rw [e]
  by_cases q : (atKey xs k).isSome = true
  · rw [if_pos q, if_pos q]; exact r.repl k ry
  · rw [if_neg q, if_neg q]; exact Paired.snoc r ⟨rfl, hb, ry⟩
theorem KT.keeps {H H' : Hp} {kvs : List (List Key × V)} {xs : List (List Key × Addr × Value)} (r : KT H kvs xs) (ht : ∀ b ys, H b = some (.tup ys) → H' b = some (.tup ys)) : KT H' kvs xs :=
  Paired.mapP r fun _ _ z => ⟨z.1, ht _ _ z.2.1, z.2.2⟩

section
variable {P : Program} {w : World} {H : Hp} {h : Heap} {a : Addr}
theorem rd_of {u : HO} (ok : HOk P w H h) (e : Rd H a u) : ObjOk P w H h a u := e.ok ok
theorem dk_rd {kvs : List (Key × V)} (ok : HOk P w H h) (e : Rd H a (.dK kvs)) : kvs.length ≤ sizeLine ∧ (a == sysModules) = false ∧ ∃ vs, KV kvs vs ∧ h.DictOf (mixKind P w) a vs :=
  show ObjOk P w H h a (.dK kvs) from rd_of ok e
theorem dk_of {kvs : List (Key × V)} (ok : HOk P w H h) (e : H a = some (.dK kvs)) : kvs.length ≤ sizeLine ∧ (a == sysModules) = false ∧ ∃ vs, KV kvs vs ∧ h.DictOf (mixKind P w) a vs := dk_rd ok (.inl e)
/-- a tracked tuple of ints and texts is a key -/
theorem key_of {ks : List Key} (ok : HOk P w H h) (e : H a = some (.tup (ks.map kV))) : (tupleKind (mixKind P w)).is h ks a := by
  obtain ⟨_, its, r, o, h1, h2, n, h3⟩ := (show ObjOk P w H h a (.tup (ks.map kV)) from ok a _ e)
  exact ⟨o, its.toArray, n, h1, h2, h3, by simpa using items_are r⟩
theorem dt_rd {kvs : List (List Key × V)} (ok : HOk P w H h) (e : Rd H a (.dT kvs)) : kvs.length ≤ sizeLine ∧ (a == sysModules) = false ∧
    ∃ xs, KT H kvs xs ∧ h.DictOfH (tupleKind (mixKind P w)) a xs := by
  obtain ⟨z, y, xs, r, o, es, ep, h1, h2, h3, h4, h5⟩ := (show ObjOk P w H h a (.dT kvs) from rd_of ok e)
  refine ⟨z, y, xs, r, o, es, ep, h1, h2, h3, h4, fun x hx => ?_, h5⟩
  have all : ∀ {l : List (List Key × V)} {m : List (List Key × Addr × Value)}, KT H l m → ∀ x ∈ m, (tupleKind (mixKind P w)).is h x.1 x.2.1 := by
    intro l m q
    induction q with
    | nil => intro x hx; exact nomatch hx
    | @cons p q ps qs hq t ih =>
      intro x hx
      rcases List.mem_cons.mp hx with e | hx
      · subst e
        exact key_of ok (by rw [← hq.1]; exact hq.2.1)
      · exact ih x hx
  exact all r x hx
theorem dt_of {kvs : List (List Key × V)} (ok : HOk P w H h) (e : H a = some (.dT kvs)) : kvs.length ≤ sizeLine ∧ (a == sysModules) = false ∧
    ∃ xs, KT H kvs xs ∧ h.DictOfH (tupleKind (mixKind P w)) a xs := dt_rd ok (.inl e)
end

/-- what the dict at a holds at the key y -/
def DGet (H : Hp) (a : Addr) (y : V) (r : Option V) : Prop :=
  (∃ kvs k, Rd H a (.dK kvs) ∧ y = kV k ∧ r = valV kvs k) ∨ ∃ kvs k b, Rd H a (.dT kvs) ∧ y = .ref b ∧ H b = some (.tup (k.map kV)) ∧ r = valV kvs k
/-- the heap behind a[y] = v -/
def DPut (H : Hp) (a : Addr) (y v : V) (H' : Hp) : Prop :=
  (∃ kvs k, H a = some (.dK kvs) ∧ y = kV k ∧ kvs.length < sizeLine ∧ H' = upd H a (.dK (putK kvs k v))) ∨
  ∃ kvs k b, H a = some (.dT kvs) ∧ y = .ref b ∧ H b = some (.tup (k.map kV)) ∧ kvs.length < sizeLine ∧ H' = upd H a (.dT (putK kvs k v))
theorem DGet.k {H : Hp} {a : Addr} {kvs : List (Key × V)} {k : Key} (e : H a = some (.dK kvs)) : DGet H a (kV k) (valV kvs k) := .inl ⟨kvs, k, .inl e, rfl, rfl⟩
theorem DGet.t {H : Hp} {a b : Addr} {kvs : List (List Key × V)} {k : List Key} (e : H a = some (.dT kvs)) (eb : H b = some (.tup (k.map kV))) : DGet H a (.ref b) (valV kvs k) := .inr ⟨kvs, k, b, .inl e, rfl, eb, rfl⟩
theorem DPut.k {H : Hp} {a : Addr} {kvs : List (Key × V)} {k : Key} {v : V} (e : H a = some (.dK kvs)) (hl : kvs.length < sizeLine) : DPut H a (kV k) v (upd H a (.dK (putK kvs k v))) := .inl ⟨kvs, k, e, rfl, hl, rfl⟩
theorem DPut.t {H : Hp} {a b : Addr} {kvs : List (List Key × V)} {k : List Key} {v : V} (e : H a = some (.dT kvs)) (eb : H b = some (.tup (k.map kV))) (hl : kvs.length < sizeLine) :
    DPut H a (.ref b) v (upd H a (.dT (putK kvs k v))) := .inr ⟨kvs, k, b, e, rfl, eb, hl, rfl⟩


section
variable {X : Cx} {pins : List (Addr × Obj)} {σ : St} {H : Hp} {s : Shared} {a : Addr} {y v : V} {u r : Value} {o : Option V} {A : Around} {E : Value → Shared → Prop}

theorem Inv.big (I : Inv X pins σ H s) : sysModules < s.heap.objs.size := by
  have h : mainGlobals < s.heap.objs.size := (I.mod.glob.keeps I.bk).lt
  exact Nat.lt_trans (by decide) h

/-- d[y], there -/
theorem d_getItem {Q : Value → Shared → Prop} (hu : A.units + 1 < cLine) (I : Inv X pins σ H s) (g : DGet H a y (some v)) (ry : RelV y u) (h : ∀ w' s', Inv X pins σ H s' → RelV v w' → Q w' s') :
    wpAny (model X.prog X.w) A (getItem (.ref a) u) Q E s := by
  rcases g with ⟨kvs, k, e, ey, l⟩ | ⟨kvs, k, b, e, ey, eb, l⟩
  · subst ey
    obtain ⟨z, hd, vs, rel, dd⟩ := dk_rd I.hok e
    obtain ⟨w', hw, rw'⟩ := RelO.some_of (v := v) (o := valueAt vs k) (by rw [l]; exact rel.val k)
    exact wpAny_getItem_of (kV_is ry) dd.mapOf hw (h w' _ (I.tok _) rw')
  · subst ey
    cases (show u = Value.ref b from ry)
    obtain ⟨z, hd, xs, rel, dd⟩ := dt_rd I.hok e
    obtain ⟨w', hw, rw'⟩ := RelO.some_of (v := v) (o := (atKey xs k).map (·.2)) (by rw [l]; exact rel.val k)
    obtain ⟨p, hp, hp2⟩ := Option.map_eq_some_iff.mp hw
    refine wpAny_getItem_heap (tupleKind_room_in1 hu) (key_of I.hok eb) dd hp ?_
    rw [hp2]
    exact h w' _ (I.tok _) rw'
/-- y in d -/
theorem d_in {Q : Value → Shared → Prop} (hu : A.units + 1 < cLine) (I : Inv X pins σ H s) (g : DGet H a y o) (ry : RelV y u) (h : ∀ s', Inv X pins σ H s' → Q (.bool o.isSome) s') :
    wpAny (model X.prog X.w) A (compareOp .In u (.ref a)) Q E s := by
  rcases g with ⟨kvs, k, e, ey, l⟩ | ⟨kvs, k, b, e, ey, eb, l⟩
  · subst ey
    obtain ⟨z, hd, vs, rel, dd⟩ := dk_rd I.hok e
    refine wpAny_in_of (kV_is ry) hd dd.mapOf ?_
    rw [← (rel.val k).isSome_eq, ← l]
    exact h _ (I.tok _)
  · subst ey
    cases (show u = Value.ref b from ry)
    obtain ⟨z, hd, xs, rel, dd⟩ := dt_rd I.hok e
    refine wpAny_in_heap (tupleKind_room_in1 hu) (key_of I.hok eb) hd dd ?_
    have q := (rel.val k).isSome_eq
    rw [Option.isSome_map] at q
    rw [← q, ← l]
    exact h _ (I.tok _)
theorem d_notIn {Q : Value → Shared → Prop} (hu : A.units + 1 < cLine) (I : Inv X pins σ H s) (g : DGet H a y o) (ry : RelV y u) (h : ∀ s', Inv X pins σ H s' → Q (.bool (!o.isSome)) s') :
    wpAny (model X.prog X.w) A (compareOp .NotIn u (.ref a)) Q E s := by
  rcases g with ⟨kvs, k, e, ey, l⟩ | ⟨kvs, k, b, e, ey, eb, l⟩
  · subst ey
    obtain ⟨z, hd, vs, rel, dd⟩ := dk_rd I.hok e
    refine wpAny_notIn_of (kV_is ry) hd dd.mapOf ?_
    rw [← (rel.val k).isSome_eq, ← l]
    exact h _ (I.tok _)
  · subst ey
    cases (show u = Value.ref b from ry)
    obtain ⟨z, hd, xs, rel, dd⟩ := dt_rd I.hok e
    refine wpAny_notIn_heap (tupleKind_room_in1 hu) (key_of I.hok eb) hd dd ?_
    have q := (rel.val k).isSome_eq
    rw [Option.isSome_map] at q
    rw [← q, ← l]
    exact h _ (I.tok _)
/-- a dict's object is replaced -/
theorem d_write {h' : Heap} {t' : Nat} {ob : HO} (I : Inv X pins σ H s) (mu : Mut (H a)) (hs : Heap.SameBut a s.heap h') (he : ∃ q, h'.get? a = some q) (new : ObjOk X.prog X.w (upd H a ob) h' a ob) :
    Inv X pins σ (upd H a ob) { s with heap := h', toks := t' } :=
  I.write (x := a) (e := a) mu (.inl rfl) (fun b q hb z => (hs.2 b hb).trans z) he new
theorem dk_new {P : Program} {w : World} {H' : Hp} {h' : Heap} {kvs : List (Key × V)} {vs : List (Key × Value)} (z : kvs.length ≤ sizeLine) (hd : (a == sysModules) = false) (rel : KV kvs vs) (dd : h'.DictOf (mixKind P w) a vs) :
    ObjOk P w H' h' a (.dK kvs) := ⟨z, hd, vs, rel, dd⟩
/-- d[y] = v -/
theorem d_setItem {H' : Hp} {Q : Unit → Shared → Prop} (hu : A.units + 1 < cLine) (I : Inv X pins σ H s) (g : DPut H a y v H') (ry : RelV y u) (rv : RelV v r) (h : ∀ s', Inv X pins σ H' s' → Q () s') :
    wpAny (model X.prog X.w) A (setItem (.ref a) u r) Q E s := by
  rcases g with ⟨kvs, k, e, ey, l, eH⟩ | ⟨kvs, k, b, e, ey, eb, l, eH⟩
  · subst ey eH
    obtain ⟨z, hd, vs, rel, dd⟩ := dk_of I.hok e
    have hz : vs.length ≤ sizeLine := by rw [← rel.length]; exact z
    have hl : (putK kvs k v).length ≤ sizeLine := by have := length_putK kvs k v; omega
    refine wpAny_setItem_pairs (hsz := hz) (kV_is ry) dd fun h' dd' hs => h _ ?_
    have he : ∃ q, h'.get? a = some q := let ⟨q, _, _, hq, _⟩ := dd'; ⟨q, hq⟩
    exact d_write I (by rw [e]; exact True.intro) hs he (dk_new hl hd (rel.put k rv) dd')
  · subst ey eH
    cases (show u = Value.ref b from ry)
    obtain ⟨z, hd, xs, rel, dd⟩ := dt_of I.hok e
    have hz : xs.length ≤ sizeLine := by rw [← Paired.length rel]; exact z
    have hl : (putK kvs k v).length ≤ sizeLine := by have := length_putK kvs k v; omega
    refine wpAny_setItem_heap (hsz := hz) (tupleKind_room_in1 hu) (key_of I.hok eb) dd fun h' dd' hs => h _ ?_
    obtain ⟨q, es, ep, hq, h2, h3, h4, _, h5⟩ := dd'
    refine d_write I (by rw [e]; exact True.intro) hs ⟨q, hq⟩ ⟨hl, hd, _, (rel.put k eb rv).keeps fun c ys ec => ?_, q, es, ep, hq, h2, h3, h4, h5⟩
    rw [upd_ne (ne_of ec e (fun z => nomatch z))]
    exact ec
end

section
variable {X : Cx} {pins : List (Addr × Obj)} {σ : St} {H : Hp} {s : Shared} {a : Addr} {kvs : List (Key × V)} {k : Key} {u : Value} {A : Around} {E : Value → Shared → Prop}
/-- len(d) -/
theorem d_len {Q : Value → Shared → Prop} (I : Inv X pins σ H s) (e : Rd H a (.dK kvs)) (h : ∀ t s', Inv X pins σ H s' → Q (.int kvs.length t) s') : wpAny (model X.prog X.w) A (call (.builtin "len") [.ref a]) Q E s := by
  obtain ⟨z, hd, vs, rel, dd⟩ := dk_rd I.hok e
  refine call_len_dict hd dd (by rw [← rel.length]; rw [sizeLine_eq] at z; omega) ?_
  rw [← rel.length]
  exact h _ _ (I.tok _)
end


/-! ### readings and rules -/
/-- the element of a subscription, not a slice -/
def NoSl (i : Expr) : Prop := ∀ ov iv, subscripted i false ov iv = operate [ov, iv] (getItem ov iv)
theorem subD_of {prog : Program} {w : World} {A : Around} {E : Value → Shared → Prop} {s : Shared} {env : Env} {value slice : Expr} {pos : Pos} {T id : String} {Q : Value → Shared → Prop}
    (hl : typeLookup (.type T) "__getitem__" = pure (some (.builtin id))) (hs : NoSl slice)
    (h : wpAny (model prog w) A (eval value env) (fun o s₁ => wpAny (model prog w) A (eval slice env) (fun i s₂ => s₂.TypeIs o T ∧ wpAny (model prog w) A (getItem o i) Q E s₂) E s₁) E s) :
    wpAny (model prog w) A (eval (.Subscript value slice pos) env) Q E s := by
  refine Subscript_ (wpAny_mono h (fun o s₁ h₁ => wpAny_mono h₁ (fun i s₂ h₂ => ?_) fun _ _ x => x) fun _ _ x => x)
  obtain ⟨hT, h₂⟩ := h₂
  unfold subscriptTail
  refine wpAny_bind ?_
  rw [getitemInPython_of_ne hT.not_modules]
  refine wpAny_bind (wpAny_specialOf hT hl ?_)
  have fin : wpAny (model prog w) A (subscripted slice false o i) (fun r s₃ => wpAny (model prog w) A (letTemporaryGo value o r >>= fun _ => pure r) Q E s₃) E s₂ := by
    rw [hs o i]
    exact wpAny_operating (wpAny_mono h₂ (fun r s₃ h₃ => wpAny_bind (wpAny_letTemporaryGo (wpAny_pure h₃))) fun _ _ x => x)
  first
    | exact wpAny_pure (wpAny_bind fin)
    | exact wpAny_bind (wpAny_pure (wpAny_bind fin))
    | exact wpAny_bind fin

theorem dict_typeIs {X : Cx} {pins : List (Addr × Obj)} {σ : St} {H : Hp} {s : Shared} {a : Addr} {y : V} {o : Option V} (I : Inv X pins σ H s) (g : DGet H a y o) : s.TypeIs (.ref a) "dict" := by
  rcases g with ⟨kvs, k, e, _, _⟩ | ⟨kvs, k, b, e, _, _, _⟩
  · obtain ⟨_, _, vs, _, dd⟩ := dk_rd I.hok e
    exact dd.typeIs
  · obtain ⟨_, _, xs, _, dd⟩ := dt_rd I.hok e
    exact dd.typeIs

/-- d[y] -/
def tDGet (td ty : TE) : TE := fun σ H Q => td σ H fun x H1 => ty σ H1 fun y H2 => ∃ a v, x = .ref a ∧ DGet H2 a y (some v) ∧ Q v H2
/-- d[y] = v -/
def sDPut (td ty tv : TE) : TS := fun D σ H => tv σ H fun v H1 => td σ H1 fun x H2 => ty σ H2 fun y H3 => ∃ a H4, x = .ref a ∧ DPut H3 a y v H4 ∧ D.nx σ H4

section
variable {X : Cx} {o i e value : Expr} {pos pos' tpos : Pos} {td ty tv : TE}
theorem pe_dget (hu : X.A.units + 1 < cLine) (ho : PE X o td) (hi : PE X i ty) (hs : NoSl i) : PE X (.Subscript o i pos) (tDGet td ty) := by
  intro pins s σ H Q I h
  refine subD_of PySem.F.slot_dict_getitem.lookup hs (thn (ho pins s σ H _ I h) fun u s1 ⟨x, H1, I1, rx, q1⟩ => thn (hi pins s1 σ H1 _ I1 q1) fun iv s2 ⟨y, H2, I2, ry, a, v, ex, g, q2⟩ => ?_)
  subst ex
  obtain rfl : u = Value.ref a := rx
  exact ⟨dict_typeIs I2 g, d_getItem hu I2 g ry fun w' s3 I3 rw' => ⟨v, H2, I3, rw', q2⟩⟩
theorem ps_dput (hu : X.A.units + 1 < cLine) (ho : PE X o td) (hi : PE X i ty) (hv : PE X value tv) (hs : swapsWith value (some (.Subscript o i pos')) pos.line X.env = pure false) :
    PS X (.Assign [.Subscript o i pos'] value pos) (sDPut td ty tv) := by
  intro pins s σ H D I h
  refine wpAny_Assign_Subscript (thn (hv pins s σ H _ I h) fun r s1 ⟨v, H1, I1, rv, q1⟩ => thn (ho pins s1 σ H1 _ I1 q1) fun u s2 ⟨x, H2, I2, rx, q2⟩ => thn (hi pins s2 σ H2 _ I2 q2) fun iv s3 ⟨y, H3, I3, ry, a, H4, ex, g, q3⟩ => ?_) hs
  subst ex
  obtain rfl : u = Value.ref a := rx
  exact d_setItem hu I3 g ry rv fun s4 I4 => ⟨σ, H4, I4, q3⟩
end


/-! ### displays -/
theorem dk_empty {P : Program} {w : World} {H : Hp} (h : Heap) (hb : sysModules < h.objs.size) : ObjOk P w H (h.push { cls := .type "dict", data := .dict #[] }) h.objs.size (.dK []) :=
  ⟨Nat.zero_le _, beq_eq_false_iff_ne.mpr (Ne.symm (Nat.ne_of_lt hb)), [], .nil, Heap.DictOf.new h⟩
theorem dt_empty {P : Program} {w : World} {H : Hp} (h : Heap) (hb : sysModules < h.objs.size) : ObjOk P w H (h.push { cls := .type "dict", data := .dict #[] }) h.objs.size (.dT []) :=
  ⟨Nat.zero_le _, beq_eq_false_iff_ne.mpr (Ne.symm (Nat.ne_of_lt hb)), [], .nil, _, #[], 0, Heap.get?_push_size _ rfl, ⟨rfl, rfl, rfl⟩, rfl, rfl, List.nodup_nil⟩
/-- {}, to be a dict of the kind that is wanted -/
def tDNewK : TE := fun _ H Q => ∀ p, H p = none → Q (.ref p) (upd H p (.dK []))
def tDNewT : TE := fun _ H Q => ∀ p, H p = none → Q (.ref p) (upd H p (.dT []))
section
variable {X : Cx} {pos : Pos}
theorem pe_dnewK : PE X (.Dict [] [] pos) tDNewK := fun pins s σ H Q I h =>
  wpAny_Dict_empty ⟨.ref s.heap.objs.size, _, I.laid (a := s.heap.objs.size) (o := .dK []) (t' := s.toks) (fun _ _ q => Heap.get?_push_of_some _ q) (Nat.le_refl _) (dk_empty s.heap I.big), rfl, h _ (I.hok.fresh (Nat.le_refl _))⟩
theorem pe_dnewT : PE X (.Dict [] [] pos) tDNewT := fun pins s σ H Q I h =>
  wpAny_Dict_empty ⟨.ref s.heap.objs.size, _, I.laid (a := s.heap.objs.size) (o := .dT []) (t' := s.toks) (fun _ _ q => Heap.get?_push_of_some _ q) (Nat.le_refl _) (dt_empty s.heap I.big), rfl, h _ (I.hok.fresh (Nat.le_refl _))⟩
end




/-! ### methods -/
/-- a method call o.m(e) of a built-in, with one argument: what must be seen of the text -/
structure M1 (X : Cx) (o : Expr) (m : Str) (apos : Pos) (e : Expr) (cpos : Pos) : Prop where
  base : attributeBase o m X.env (eval o X.env) = eval o X.env
  few : ((backTo cpos (starEach [e] X.env)).all (fun x => !x.1) && (backToKw cpos (keywordEach [] X.env)).all (fun x => x.1.isSome)
    && decide (([e] : List Expr).length + ([] : List Keyword).length + (if ([] : List Keyword).isEmpty then 0 else 1) < 30)) = true
  line : (apos.endLine == cpos.line) = true
  trees : backTo cpos (starEach [e] X.env) = [(false, eval e X.env)]
structure M2 (X : Cx) (o : Expr) (m : Str) (apos : Pos) (e f : Expr) (cpos : Pos) : Prop where
  base : attributeBase o m X.env (eval o X.env) = eval o X.env
  few : ((backTo cpos (starEach [e, f] X.env)).all (fun x => !x.1) && (backToKw cpos (keywordEach [] X.env)).all (fun x => x.1.isSome)
    && decide (([e, f] : List Expr).length + ([] : List Keyword).length + (if ([] : List Keyword).isEmpty then 0 else 1) < 30)) = true
  line : (apos.endLine == cpos.line) = true
  trees : backTo cpos (starEach [e, f] X.env) = [(false, eval e X.env), (false, eval f X.env)]

/-- a is a dict, whatever its keys -/
def IsD (H : Hp) (a : Addr) : Prop := (∃ kvs, Rd H a (.dK kvs)) ∨ ∃ kvs, Rd H a (.dT kvs)
theorem isD_at {X : Cx} {pins : List (Addr × Obj)} {σ : St} {H : Hp} {s : Shared} {a : Addr} (I : Inv X pins σ H s) (d : IsD H a) :
    s.TypeIs (.ref a) "dict" ∧ (∀ b, Value.ref a = .ref b → ∃ ob, s.heap.get? b = some ob ∧ ob.dict = none) ∧ (a == sysModules) = false := by
  rcases d with ⟨kvs, e⟩ | ⟨kvs, e⟩
  · obtain ⟨_, hd, vs, _, dd⟩ := dk_rd I.hok e
    refine ⟨dd.typeIs, fun b q => ?_, hd⟩
    cases q
    obtain ⟨ob, _, _, h1, h2, _⟩ := dd
    exact ⟨ob, h1, h2.2.1⟩
  · obtain ⟨_, hd, xs, _, dd⟩ := dt_rd I.hok e
    refine ⟨dd.typeIs, fun b q => ?_, hd⟩
    cases q
    obtain ⟨ob, _, _, h1, h2, _⟩ := dd
    exact ⟨ob, h1, h2.2.1⟩

section
variable {X : Cx} {pins : List (Addr × Obj)} {σ : St} {H : Hp} {s : Shared} {a : Addr} {y d : V} {u r : Value} {o : Option V} {A : Around} {E : Value → Shared → Prop}
/-- d.get(y) -/
theorem d_get1 {Q : Value → Shared → Prop} (hu : A.units + 1 < cLine) (I : Inv X pins σ H s) (g : DGet H a y o) (ry : RelV y u) (h : ∀ w' s', Inv X pins σ H s' → RelV (o.getD .non) w' → Q w' s') :
    wpAny (model X.prog X.w) A (call (.builtin "dict.get") [.ref a, u]) Q E s := by
  rcases g with ⟨kvs, k, e, ey, l⟩ | ⟨kvs, k, b, e, ey, eb, l⟩
  · subst ey
    obtain ⟨z, hd, vs, rel, dd⟩ := dk_rd I.hok e
    refine call_meetsIn PySem.F.slot_dict_get dd.typeIs PySem.F.entry_dict_get (PySem.F.args_dict_get_2 _ _) (meets_dict_get (mixKind X.prog X.w) a (kV_is ry) hd) ⟨_, dd.mapOf, h _ _ (I.tok _) ?_⟩
    rw [l]
    exact (rel.val k).getD rfl
  · subst ey
    cases (show u = Value.ref b from ry)
    obtain ⟨z, hd, xs, rel, dd⟩ := dt_rd I.hok e
    refine call_meetsIn PySem.F.slot_dict_get dd.typeIs PySem.F.entry_dict_get (PySem.F.args_dict_get_2 _ _) (meetsH_dict_get (tupleKind (mixKind X.prog X.w)) a b hd) ⟨tupleKind_room_in1 hu, k, xs, key_of I.hok eb, dd, h _ _ (I.tok _) ?_⟩
    rw [l]
    exact (rel.val k).getD rfl
/-- d.get(y, x) -/
theorem d_get2 {Q : Value → Shared → Prop} (hu : A.units + 1 < cLine) (I : Inv X pins σ H s) (g : DGet H a y o) (ry : RelV y u) (rd : RelV d r) (h : ∀ w' s', Inv X pins σ H s' → RelV (o.getD d) w' → Q w' s') :
    wpAny (model X.prog X.w) A (call (.builtin "dict.get") [.ref a, u, r]) Q E s := by
  rcases g with ⟨kvs, k, e, ey, l⟩ | ⟨kvs, k, b, e, ey, eb, l⟩
  · subst ey
    obtain ⟨z, hd, vs, rel, dd⟩ := dk_rd I.hok e
    refine call_meetsIn PySem.F.slot_dict_get dd.typeIs PySem.F.entry_dict_get (PySem.F.args_dict_get_3 _ _ _) (meets_dict_get_default (mixKind X.prog X.w) a (kV_is ry) hd r) ⟨_, dd.mapOf, h _ _ (I.tok _) ?_⟩
    rw [l]
    exact (rel.val k).getD rd
  · subst ey
    cases (show u = Value.ref b from ry)
    obtain ⟨z, hd, xs, rel, dd⟩ := dt_rd I.hok e
    refine call_meetsIn PySem.F.slot_dict_get dd.typeIs PySem.F.entry_dict_get (PySem.F.args_dict_get_3 _ _ _) (meetsH_dict_get_default (tupleKind (mixKind X.prog X.w)) a b hd r) ⟨tupleKind_room_in1 hu, k, xs, key_of I.hok eb, dd, h _ _ (I.tok _) ?_⟩
    rw [l]
    exact (rel.val k).getD rd
end

def tDGet1 (td ty : TE) : TE := fun σ H Q => td σ H fun x H1 => ∃ a, x = .ref a ∧ IsD H1 a ∧ ty σ H1 fun y H2 => ∃ o, DGet H2 a y o ∧ Q (o.getD .non) H2
def tDGet2 (td ty tx : TE) : TE := fun σ H Q => td σ H fun x H1 => ∃ a, x = .ref a ∧ IsD H1 a ∧ ty σ H1 fun y H2 => tx σ H2 fun z H3 => ∃ o, DGet H3 a y o ∧ Q (o.getD z) H3
section
variable {X : Cx} {o e f : Expr} {apos cpos : Pos} {td ty tx : TE}
theorem pe_dget1 (hu : X.A.units + 1 < cLine) (ho : PE X o td) (he : PE X e ty) (m : M1 X o "get" apos e cpos) : PE X (.Call (.Attribute o "get" apos) [e] [] cpos) (tDGet1 td ty) := by
  intro pins s σ H Q I h
  refine wpAny_Call_method m.base m.few m.line PySem.F.plainAttrs_dict PySem.F.slot_dict_get PySem.F.type_dict_get (thn (ho pins s σ H _ I h) fun u s1 ⟨x, H1, I1, rx, a, ex, d, q1⟩ => ?_)
  subst ex
  obtain rfl : u = Value.ref a := rx
  obtain ⟨t1, t2, _⟩ := isD_at I1 d
  refine ⟨t1, t2, ?_⟩
  rw [m.trees]
  refine Calls.callWith_builtin rfl (Calls.evalArgs_plain (Calls.spliced_cons (thn (he pins s1 σ H1 _ I1 q1) fun iv s2 ⟨y, H2, I2, ry, ov, g, q2⟩ => Calls.spliced_nil ?_)))
  exact d_get1 hu I2 g ry fun w' s3 I3 rw' => ⟨_, H2, I3, rw', q2⟩
theorem pe_dget2 (hu : X.A.units + 1 < cLine) (ho : PE X o td) (he : PE X e ty) (hf : PE X f tx) (m : M2 X o "get" apos e f cpos) : PE X (.Call (.Attribute o "get" apos) [e, f] [] cpos) (tDGet2 td ty tx) := by
  intro pins s σ H Q I h
  refine wpAny_Call_method m.base m.few m.line PySem.F.plainAttrs_dict PySem.F.slot_dict_get PySem.F.type_dict_get (thn (ho pins s σ H _ I h) fun u s1 ⟨x, H1, I1, rx, a, ex, d, q1⟩ => ?_)
  subst ex
  obtain rfl : u = Value.ref a := rx
  obtain ⟨t1, t2, _⟩ := isD_at I1 d
  refine ⟨t1, t2, ?_⟩
  rw [m.trees]
  refine Calls.callWith_builtin rfl (Calls.evalArgs_plain (Calls.spliced_cons (thn (he pins s1 σ H1 _ I1 q1) fun iv s2 ⟨y, H2, I2, ry, q2⟩ =>
    Calls.spliced_cons (thn (hf pins s2 σ H2 _ I2 q2) fun fv s3 ⟨z, H3, I3, rz, ov, g, q3⟩ => Calls.spliced_nil ?_))))
  exact d_get2 hu I3 g ry rz fun w' s4 I4 rw' => ⟨_, H3, I4, rw', q3⟩
end

/-! ### dict(d): a copy -/
section
variable {X : Cx} {pins : List (Addr × Obj)} {σ : St} {H : Hp} {s : Shared} {a : Addr} {kvs : List (Key × V)} {A : Around} {E : Value → Shared → Prop}
end


section
variable {X : Cx} {pins : List (Addr × Obj)} {σ : St} {H : Hp} {s : Shared} {a : Addr} {y : V} {u : Value} {A : Around} {E : Value → Shared → Prop}
end
end L2

namespace HT
open PySem PyProof.Rows

/-- t < u of tuples of ints -/
def lexLt : List Int → List Int → Bool
  | [], [] => false
  | [], _ :: _ => true
  | _ :: _, [] => false
  | x :: xs, y :: ys => if x = y then lexLt xs ys else decide (x < y)
theorem lexLt_cons (x y : Int) (xs ys : List Int) : lexLt (x :: xs) (y :: ys) = if x = y then lexLt xs ys else decide (x < y) := rfl
theorem lexLt_nil_nil : lexLt [] [] = false := rfl
theorem lexLt_nil_cons (y : Int) (ys : List Int) : lexLt [] (y :: ys) = true := rfl
theorem lexLt_cons_nil (x : Int) (xs : List Int) : lexLt (x :: xs) [] = false := rfl

theorem eqAt_int (A : Around) (s : Shared) (a : Int) (t : Tok) (c : Int) (u : Tok) : ∃ e, SeqAt.EqAt A s (.int a t) (.int c u) e ∧ (e = true ↔ a = c) :=
  ⟨(a == c), SeqAt.EqAt.int_int a t c u, by simp⟩
theorem rcLt_int (A : Around) (s : Shared) (a : Int) (t : Tok) (c : Int) (u : Tok) (prog : Program) (w : World) (E : Value → Shared → Prop) (Q : Value → Shared → Prop) (h : Q (.bool (decide (a < c))) s) :
    wpAny (model prog w) A (richCompare .Lt (.int a t) (.int c u)) Q E s :=
  (PyProof.Rows.lt_int h : wpAny (model prog w) A (compareOp .Lt (.int a t) (.int c u)) Q E s)

section
open PySem.SeqAt
open PySem.AutoSeq1 (wpAny_loadPart')
open PySem.MeetsSeq PySem.MeetsSeq2 PySem.MeetsSeq3

theorem tuple_lt_ints (l b : Addr) (items items2 : Array Value) (n n2 : Nat) (dd dd2 : Option Addr) (sl sl2 : Array (Option Value)) (ns ms : List Int) (hi : IntsAre items.toList ns) (hj : IntsAre items2.toList ms) :
    Meets (Builtin.«tuple.__lt__» ⟨[.ref l, .ref b], []⟩)
      (fun _ R s => s.heap.get? l = some { cls := .type "tuple", dict := dd, data := .seq items n, slots := sl } ∧ s.heap.get? b = some { cls := .type "tuple", dict := dd2, data := .seq items2 n2, slots := sl2 } ∧
        R (.ok (.ret (.bool (lexLt ns ms)))) s) :=
  .of_wp fun prog w A R s h => by
    obtain ⟨hp, g, d, tk, os⟩ := s; obtain ⟨hl, hb, h⟩ := h
    have f2 := AutoSeq1.sub_tuple_tuple
    have z1 : items.size = ns.length := by rw [← hi.length]; simp
    have z2 : items2.size = ms.length := by rw [← hj.length]; simp
    wp_walk using wpAny_loadPart' hl, wpAny_loadPart' hb, wpAny_forIn_list _ (fun rest b s' => b.1 = none ∧ s' = ⟨hp, g, d, tk, os⟩ ∧ ∃ (vs ws : List Value) (ns' ms' : List Int), rest = vs.zip ws ∧
      IntsAre vs ns' ∧ IntsAre ws ms' ∧ ns'.length + items2.size = ms'.length + items.size ∧ R (.ok (.ret (.bool (lexLt ns' ms')))) ⟨hp, g, d, tk, os⟩) _
    case turn =>
      rintro ⟨y, x⟩ rest b s' ⟨hb', rfl, vs, ws, ns', ms', hz, hvi, hwi, hlen, hR⟩
      cases hvi with
      | nil => rw [List.zip_nil_left] at hz; cases hz
      | cons a t hvi' =>
        cases hwi with
        | nil => rw [List.zip_nil_right] at hz; cases hz
        | cons c u hwi' =>
          rw [List.zip_cons_cons] at hz
          injection hz with hyx hrest
          injection hyx with hy hx
          subst hy hx
          rw [lexLt_cons] at hR
          simp only [List.length_cons] at hlen
          obtain ⟨e, he, hiff⟩ := eqAt_int A.in1 ⟨hp, g, d, tk, os⟩ a t c u
          refine wpAny_bind (he prog w _ _ ?_)
          cases e with
          | true =>
            rw [if_pos (hiff.mp rfl)] at hR
            wp_walk
            exact ⟨rfl, rfl, _, _, _, _, hrest, hvi', hwi', by omega, hR⟩
          | false =>
            rw [if_neg (fun q => absurd (hiff.mpr q) Bool.false_ne_true)] at hR
            have hri := rcLt_int A.in1 ⟨hp, g, d, tk, os⟩ a t c u prog w
            wp_walk using hri
            exact ⟨_, rfl, by simpa using hR⟩
    case fin =>
      rintro ⟨b1, b2⟩ s' ⟨hb', rfl, vs, ws, ns', ms', hz, hvi, hwi, hlen, hR⟩
      simp only at hb'
      subst hb'
      have hv : lexLt ns' ms' = decide (items.size < items2.size) := by
        cases hvi with
        | nil =>
          cases hwi with
          | nil =>
            simp only [List.length_nil] at hlen
            rw [lexLt_nil_nil]
            exact (decide_eq_false (by omega)).symm
          | cons c u hw =>
            simp only [List.length_nil, List.length_cons] at hlen
            rw [lexLt_nil_cons]
            exact (decide_eq_true (by omega)).symm
        | cons a t hv =>
          cases hwi with
          | nil =>
            simp only [List.length_nil, List.length_cons] at hlen
            rw [lexLt_cons_nil]
            exact (decide_eq_false (by omega)).symm
          | cons c u hw =>
            rw [List.zip_cons_cons] at hz
            cases hz
      rw [hv] at hR
      wp_walk
      exact ⟨_, rfl, by simpa [Builtin.Tuple.tupleCompareSizes] using hR⟩
    case h =>
      exact ⟨rfl, rfl, items.toList, items2.toList, ns, ms, rfl, hi, hj, by omega, h⟩
end

section
variable {prog : Program} {w : World} {A : Around} {E : Value → Shared → Prop} {s : Shared}

theorem lt_tupInts {l b : Addr} {items items2 : Array Value} {ns ms : List Int} {Q : Value → Shared → Prop} (hl : IsTup s.heap l items) (hb : IsTup s.heap b items2) (hi : IntsAre items.toList ns) (hj : IntsAre items2.toList ms)
    (hu : A.units < cLine) (h : Q (.bool (lexLt ns ms)) s) : wpAny (model prog w) A (compareOp .Lt (.ref l) (.ref b)) Q E s := by
  obtain ⟨⟨cls, dd, data, sl⟩, ho, hc, n, hd⟩ := id hl
  obtain ⟨⟨cls2, dd2, data2, sl2⟩, ho2, hc2, n2, hd2⟩ := id hb
  simp only at hc hd hc2 hd2
  subst hc hd hc2 hd2
  exact richCompare_meets_room (op := .Lt) ⟨_, ho, rfl⟩ ⟨_, ho2, rfl⟩ PySem.F.slot_tuple_lt PySem.F.entry_tuple_lt (PySem.F.args_tuple_lt_2 _ _) (tuple_lt_ints l b items items2 n n2 dd dd2 sl sl2 ns ms hi hj)
    ⟨ho, ho2, show Value.bool (lexLt ns ms) ≠ Value.notImplemented ∧ Q (.bool (lexLt ns ms)) s from ⟨(fun x => nomatch x), h⟩⟩ hu

/-- t + u, t not empty -/
theorem cat_tup {t b : Addr} {vs ws : List Value} {Q : Value → Shared → Prop} (ht : IsTup s.heap t vs.toArray) (hb : IsTup s.heap b ws.toArray) (hv : vs ≠ [])
    (h1 : ws = [] → Q (.ref t) s) (h2 : ws ≠ [] → Q (.ref s.heap.objs.size) { s with heap := s.heap.push { cls := .type "tuple", data := .seq (vs ++ ws).toArray } })
    (hsz : vs.length + ws.length ≤ sizeLine) : wpAny (model prog w) A (binaryOp .Add (.ref t) (.ref b)) Q E s := by
  obtain ⟨⟨cls, dd, data, sl⟩, ho, hc, n, hd⟩ := id ht
  obtain ⟨⟨cls2, dd2, data2, sl2⟩, ho2, hc2, n2, hd2⟩ := id hb
  simp only at hc hd hc2 hd2
  subst hc hd hc2 hd2
  have e : vs.toArray ++ ws.toArray = (vs ++ ws).toArray := by simp
  by_cases hw : ws = []
  · exact concat_meets ⟨_, ho, rfl⟩ ⟨_, ho2, rfl⟩ noFill_tuple_add seq_tuple_add PySem.F.slot_tuple_add PySem.F.entry_tuple_add (PySem.F.args_tuple_add_2 _ _)
      (tuple_addW1 t b vs.toArray ws.toArray n n2 dd dd2 sl sl2 (by simpa using hv) (by simp [hw])) ⟨ho, ho2, h1 hw⟩
  · refine concat_meets ⟨_, ho, rfl⟩ ⟨_, ho2, rfl⟩ noFill_tuple_add seq_tuple_add PySem.F.slot_tuple_add PySem.F.entry_tuple_add (PySem.F.args_tuple_add_2 _ _)
      (tuple_addW2 t b vs.toArray ws.toArray n n2 dd dd2 sl sl2 (by simpa using hv) (by simpa using hw) (by rw [List.size_toArray, List.size_toArray]; exact hsz)) ⟨ho, ho2, ?_⟩
    rw [e]
    exact h2 hw

/-! ### t[a:b], not the whole -/
/-- a slice's bound as a place among n (d where it is left out) -/
def sIx (n d : Nat) : Option Int → Nat
  | none => d
  | some v => if v < 0 then (v + (n : Int)).toNat else min v.toNat n

end
end HT

namespace L2
open PySem PySem.Spec PyProof.Rows

/-! ### the parts of a slice -/

theorem intsAre_of {ns : List Int} : ∀ {us : List Value}, Vals (ns.map V.int) us → IntsAre us ns := by
  induction ns with
  | nil => intro us r; rw [List.map_nil] at r; cases r; exact .nil
  | cons n ns ih =>
    intro us r
    rw [List.map_cons] at r
    cases r with
    | cons r1 r2 =>
      obtain ⟨t, e⟩ := r1
      subst e
      exact .cons n t (ih r2)

section
variable {X : Cx} {e : Expr} {te : TE} {lo hi : Option Expr} {tl th : TO} {pos p2 : Pos}


/-- what a slice of a value is, by values: the slice object stands at sl -/
def SlR (X : Cx) (r : V → Option Int → Option Int → Hp → VK → Prop) : Prop :=
  ∀ (pins : List (Addr × Obj)) (s : Shared) (σ : St) (H : Hp) (x : V) (v vl vu : Value) (lo hi : Option Int) (sl : Addr) (Q : VK), Inv X pins σ H s → RelV x v → s.heap.IsSliceOf sl vl vu .none → IsPart vl lo → IsPart vu hi → r x lo hi H Q →
    ∃ T id, typeLookup (.type T) "__getitem__" = pure (some (.builtin id)) ∧ s.TypeIs v T ∧ wpAny (model X.prog X.w) X.A (getItem v (.ref sl)) (EP X pins σ Q) X.xe s
theorem SlR.or {r r' : V → Option Int → Option Int → Hp → VK → Prop} (h : SlR X r) (h' : SlR X r') : SlR X (fun x lo hi H Q => r x lo hi H Q ∨ r' x lo hi H Q) := by
  intro pins s σ H x v vl vu lo hi sl Q I rx hs pl pu q
  rcases q with q | q
  · exact h pins s σ H x v vl vu lo hi sl Q I rx hs pl pu q
  · exact h' pins s σ H x v vl vu lo hi sl Q I rx hs pl pu q

/-- the items of xs[lo:hi] -/
def cutV (xs : List V) (lo hi : Option Int) : List V := (xs.drop (HT.sIx xs.length 0 lo)).take (HT.sIx xs.length xs.length hi - HT.sIx xs.length 0 lo)
theorem cutV_length (xs : List V) (lo hi : Option Int) : (cutV xs lo hi).length ≤ xs.length := by
  unfold cutV
  rw [List.length_take, List.length_drop]
  omega

/-! ### t < u, t + u -/
def rLtT (K : PySem.W.Frag) : R2 := fun x y H Q => ∃ a b ns ms, x = .ref a ∧ y = .ref b ∧ SqT K H a (ns.map V.int) ∧ SqT K H b (ms.map V.int) ∧ Q (.bl (HT.lexLt ns ms)) H
theorem op_ltT (hu : X.A.units < cLine) : OpR X (compareOp .Lt) (rLtT X.K) := by
  intro pins s σ H x y v u Q I rx ry h
  obtain ⟨a, b, ns, ms, rfl, rfl, ha, hb, q⟩ := h
  cases rx
  cases ry
  obtain ⟨its, r1, p1, _⟩ := I.tuple ha
  obtain ⟨its2, r2, p2, _⟩ := I.tuple hb
  have i1 : IntsAre its.toArray.toList ns := intsAre_of r1
  have i2 : IntsAre its2.toArray.toList ms := intsAre_of r2
  exact HT.lt_tupInts p1 p2 i1 i2 hu ⟨.bl (HT.lexLt ns ms), H, I, rfl, q⟩
/-- t + u, t not empty: u empty gives t itself -/
def rCatT (K : PySem.W.Frag) : R2 := fun x y H Q => ∃ a b xs ys, x = .ref a ∧ y = .ref b ∧ SqT K H a xs ∧ SqT K H b ys ∧ xs ≠ [] ∧ xs.length + ys.length ≤ sizeLine ∧
  (ys = [] → Q (.ref a) H) ∧ (ys ≠ [] → ∀ p, H p = none → Q (.ref p) (upd H p (.tup (xs ++ ys))))
theorem Vals.nil_iff {xs : List V} {us : List Value} (r : Vals xs us) : us = [] ↔ xs = [] := by
  cases r with
  | nil => simp
  | cons _ _ => simp
theorem op_catT : OpR X (binaryOp .Add) (rCatT X.K) := by
  intro pins s σ H x y v u Q I rx ry h
  obtain ⟨a, b, xs, ys, rfl, rfl, ha, hb, hx, hz, q1, q2⟩ := h
  cases rx
  cases ry
  obtain ⟨its, r1, p1, _⟩ := I.tuple ha
  obtain ⟨its2, r2, p2, _⟩ := I.tuple hb
  refine HT.cat_tup p1 p2 (fun z => hx (r1.nil_iff.mp z)) (fun z => ⟨.ref a, H, I, rfl, q1 (r2.nil_iff.mp z)⟩) (fun z => ?_) (by rw [← r1.length, ← r2.length]; exact hz)
  refine ⟨.ref s.heap.objs.size, _, I.laid (t' := s.toks) (o := .tup (xs ++ ys)) (fun b ob q => Heap.get?_push_of_some _ q) (Nat.le_refl _) ?_, rfl, q2 (fun w => z (r2.nil_iff.mpr w)) _ (I.hok.fresh (Nat.le_refl _))⟩
  exact ⟨by rw [List.length_append]; exact hz, _, r1.append r2, IsTup.new _ _⟩
end
end L2

namespace L2
open PySem PySem.Spec PyProof.Rows

/-! ### places -/
/-- the place that an index of any sign means -/
def ixN (n : Nat) (i : Int) : Option Nat := if 0 ≤ i then (if i < n then some i.toNat else none) else if -(n : Int) ≤ i then some (i + n).toNat else none
def atI {α : Type} (xs : List α) (i : Int) : Option α := (ixN xs.length i).bind fun j => xs[j]?
theorem ixN_seq {n : Nat} {i : Int} {j : Nat} (h : ixN n i = some j) : seqIndex? i n = some j ∧ j < n ∧ -(n : Int) ≤ i ∧ i < n := by
  unfold ixN at h
  by_cases h0 : 0 ≤ i
  · rw [if_pos h0] at h
    by_cases h1 : i < n
    · rw [if_pos h1] at h
      have e : i.toNat = j := Option.some.inj h
      exact ⟨by rw [seqIndex_of h0 h1, e], by omega, by omega, h1⟩
    · rw [if_neg h1] at h; cases h
  · rw [if_neg h0] at h
    by_cases h1 : -(n : Int) ≤ i
    · rw [if_pos h1] at h
      have e : (i + n).toNat = j := Option.some.inj h
      exact ⟨by rw [seqIndex_neg (by omega) h1, e], by omega, h1, by omega⟩
    · rw [if_neg h1] at h; cases h
theorem atI_get {α : Type} {xs : List α} {i : Int} {v : α} (h : atI xs i = some v) : ∃ j, seqIndex? i xs.length = some j ∧ xs[j]? = some v ∧ j < xs.length ∧ -(xs.length : Int) ≤ i ∧ i < xs.length := by
  unfold atI at h
  cases e : ixN xs.length i with
  | none => rw [e] at h; cases h
  | some j =>
    rw [e] at h
    obtain ⟨h1, h2, h3, h4⟩ := ixN_seq e
    exact ⟨j, h1, h, h2, h3, h4⟩

/-! ### what may be subscripted -/
/-- what stands as an index of a plain subscript -/
def PlainIx (b : Expr) : Prop := ∀ o i, subscripted b false o i = operate [o, i] (getItem o i)
/-- a subscript by values -/
def IxR (X : Cx) (r : R2) : Prop :=
  ∀ (value slice : Expr) (pins : List (Addr × Obj)) (s : Shared) (σ : St) (H : Hp) (x y : V) (v u : Value) (Q : VK), Inv X pins σ H s → RelV x v → RelV y u → r x y H Q →
    subscripted slice false v u = operate [v, u] (getItem v u) → wpAny (model X.prog X.w) X.A (subscriptTail value slice v u) (EP X pins σ Q) X.xe s
/-- a call of a builtin's method by values: the receiver, the arguments -/
def MtR (X : Cx) (id : String) (r : V → List V → Hp → VK → Prop) : Prop :=
  ∀ (pins : List (Addr × Obj)) (s : Shared) (σ : St) (H : Hp) (x : V) (xs : List V) (v : Value) (us : List Value) (Q : VK), Inv X pins σ H s → RelV x v → Vals xs us → r x xs H Q →
    wpAny (model X.prog X.w) X.A (call (.builtin id) (v :: us)) (EP X pins σ Q) X.xe s
section
variable {X : Cx} {a b : Expr} {ta tb : TE} {pos : Pos}
theorem IxR.or {r r' : R2} (h : IxR X r) (h' : IxR X r') : IxR X (fun x y H Q => r x y H Q ∨ r' x y H Q) := by
  intro value slice pins s σ H x y v u Q I rx ry q hs
  rcases q with q | q
  · exact h value slice pins s σ H x y v u Q I rx ry q hs
  · exact h' value slice pins s σ H x y v u Q I rx ry q hs
theorem MtR.or {id : String} {r r' : V → List V → Hp → VK → Prop} (h : MtR X id r) (h' : MtR X id r') : MtR X id (fun x xs H Q => r x xs H Q ∨ r' x xs H Q) := by
  intro pins s σ H x xs v us Q I rx rs q
  rcases q with q | q
  · exact h pins s σ H x xs v us Q I rx rs q
  · exact h' pins s σ H x xs v us Q I rx rs q
/-- a[b] -/
theorem pe_ix {r : R2} (hr : IxR X r) (ha : PE X a ta) (hb : PE X b tb) (hs : PlainIx b) : PE X (.Subscript a b pos) (tOp r ta tb) := by
  intro pins s σ H Q I h
  exact Subscript_ (binT ha hb I h fun v u s2 x y H2 I2 rx ry q => hr a b pins s2 σ H2 x y v u Q I2 rx ry q (hs _ _))

def rIxL (K : PySem.W.Frag) : R2 := fun x y H Q => ∃ p xs i v, x = .ref p ∧ y = .int i ∧ SqL K H p xs ∧ atI xs i = some v ∧ Q v H
def rIxT (K : PySem.W.Frag) : R2 := fun x y H Q => ∃ p xs i v, x = .ref p ∧ y = .int i ∧ SqT K H p xs ∧ atI xs i = some v ∧ Q v H
def rIxS : R2 := fun x y H Q => ∃ z i c, x = .str z ∧ y = .int i ∧ z.length ≤ sizeLine ∧ atI z.cps.toList i = some c ∧ Q (.str ⟨#[c]⟩) H
theorem ix_list : IxR X (rIxL X.K) := by
  intro value slice pins s σ H x y v u Q I rx ry h hs
  obtain ⟨p, xs, i, z, rfl, rfl, hq, he, q⟩ := h
  cases rx
  obtain ⟨t, rfl⟩ := ry
  obtain ⟨its, r, pl, hz⟩ := I.list hq
  obtain ⟨j, h1, h2, h3, h4, h5⟩ := atI_get he
  obtain ⟨w, ew, rw'⟩ := r.get h2
  have hl := r.length
  have hn := line63
  have fin : EP X pins σ Q w s := ⟨z, H, I, rw', q⟩
  by_cases h0 : 0 ≤ i
  · have hj : i.toNat = j := by
      rw [seqIndex_of h0 h5] at h1
      exact Option.some.inj h1
    exact item_listR pl.isList h0 (by omega) (by rw [hj]; simpa using ew) fin hs
  · have hj : (i + (its.toArray.size : Int)).toNat = j := by
      rw [seqIndex_neg (by omega) h4] at h1
      rw [List.size_toArray, ← hl]
      exact Option.some.inj h1
    exact subscriptTail_builtinR (x := w) pl.isList.typeIs slot_list_getitem.lookup
      (wpAny_getItem_list_neg (Q := fun r s' => r = w ∧ EP X pins σ Q r s') pl.isList (by omega) (by rw [List.size_toArray] <;> omega) (by omega) (by rw [hj]; simpa using ew) ⟨rfl, fin⟩) hs
theorem ix_tup : IxR X (rIxT X.K) := by
  intro value slice pins s σ H x y v u Q I rx ry h hs
  obtain ⟨p, xs, i, z, rfl, rfl, hq, he, q⟩ := h
  cases rx
  obtain ⟨t, rfl⟩ := ry
  obtain ⟨its, r, pl, hz⟩ := I.tuple hq
  obtain ⟨j, h1, h2, h3, h4, h5⟩ := atI_get he
  obtain ⟨w, ew, rw'⟩ := r.get h2
  have hl := r.length
  have hn := line63
  have fin : EP X pins σ Q w s := ⟨z, H, I, rw', q⟩
  exact subscriptTail_builtinR (x := w) pl.typeIs slot_tuple_getitem.lookup
    (getItem_tuple (j := j) (Q := fun r s' => r = w ∧ EP X pins σ Q r s') pl (by omega) (by omega) (by rw [List.size_toArray, ← hl]; exact h1) (by simpa using ew) ⟨rfl, fin⟩) hs
theorem ix_str : IxR X rIxS := by
  intro value slice pins s σ H x y v u Q I rx ry h hs
  obtain ⟨z, i, c, rfl, rfl, hz, he, q⟩ := h
  obtain ⟨t, rfl⟩ := rx
  obtain ⟨t', rfl⟩ := ry
  obtain ⟨j, h1, h2, h3, h4, h5⟩ := atI_get he
  have hl : z.cps.toList.length = z.length := by simp [Str.length]
  rw [hl] at h1 h4 h5
  have hn := line63
  exact tail_any (typeIs_str s z t) slot_str_getitem.lookup (getItem_str (c := c) (by
    have e1 : decide (i < -(2 ^ 63 : Int)) = false := decide_eq_false (by omega)
    have e2 : decide (i ≥ 2 ^ 63) = false := decide_eq_false (by omega)
    rw [e1, e2, Bool.or_false]) (by rw [h1]; simpa using h2) ⟨.str ⟨#[c]⟩, H, I.tok _, ⟨_, rfl⟩, q⟩) hs
/-- list, tuple or str -/
def rIx (K : PySem.W.Frag) : R2 := fun x y H Q => rIxL K x y H Q ∨ rIxT K x y H Q ∨ rIxS x y H Q
theorem ix_seq : IxR X (rIx X.K) := ix_list.or (ix_tup.or ix_str)

/-! ### xs[i] = v, any sign -/
theorem Inv.lst {pins : List (Addr × Obj)} {σ : St} {H : Hp} {s : Shared} {p : Addr} {xs : List V} (I : Inv X pins σ H s) (h : H p = some (.lst xs)) :
    ∃ (its : List Value) (n : Nat), Vals xs its ∧ s.heap.get? p = some { cls := .type "list", data := .seq its.toArray n } ∧ xs.length ≤ sizeLine := by
  obtain ⟨z, its, n, r, e⟩ := I.hok p _ h
  exact ⟨its, n, r, e, z⟩

/-! ### slices -/
theorem slice_bounds (lo hi : Option Int) (n : Nat) : (sliceBounds lo hi none n).1 = ((HT.sIx n 0 lo : Nat) : Int) ∧ (sliceBounds lo hi none n).2.1 = ((HT.sIx n n hi : Nat) : Int) ∧ (sliceBounds lo hi none n).2.2 = 1 := by
  refine ⟨?_, ?_, rfl⟩
  · cases lo with
    | none => simp [sliceBounds, HT.sIx]
    | some i =>
      simp only [sliceBounds, HT.sIx, Option.getD_none, show (1 : Int) > 0 by decide, if_true]
      by_cases h : i < 0
      · simp only [h, if_true] <;> omega
      · simp only [h, if_false] <;> omega
  · cases hi with
    | none => simp [sliceBounds, HT.sIx]
    | some i =>
      simp only [sliceBounds, HT.sIx, Option.getD_none, show (1 : Int) > 0 by decide, if_true]
      by_cases h : i < 0
      · simp only [h, if_true] <;> omega
      · simp only [h, if_false] <;> omega
theorem slicePick_cut (its : List Value) (lo hi : Option Int) : slicePick its.toArray lo hi none = ((its.drop (HT.sIx its.length 0 lo)).take (HT.sIx its.length its.length hi - HT.sIx its.length 0 lo)).toArray := by
  obtain ⟨h1, h2, h3⟩ := slice_bounds lo hi its.toArray.size
  unfold slicePick
  rw [h1, h2, h3]
  simp only [sliceRange_one, pick_run, List.size_toArray] <;> rfl
/-- xs[lo:hi] of a list: a new list -/
def rSlL (K : PySem.W.Frag) : V → Option Int → Option Int → Hp → VK → Prop := fun x lo hi H Q => ∃ a xs, x = .ref a ∧ SqL K H a xs ∧ ∀ p, H p = none → Q (.ref p) (upd H p (.lst (cutV xs lo hi)))
theorem sl_list : SlR X (rSlL X.K) := by
  intro pins s σ H x v vl vu lo hi sl Q I rx hs pl pu h
  obtain ⟨a, xs, rfl, hx, q⟩ := h
  cases rx
  obtain ⟨its, r, ht, hz⟩ := I.list hx
  have hlen := r.length
  refine ⟨"list", _, slot_list_getitem.lookup, ht.isList.typeIs, ?_⟩
  refine wpAny_getItem_list_slice ht.isList hs pl pu .none (by simp) ?_ (by rw [List.size_toArray] <;> omega)
  rw [slicePick_cut, ← hlen]
  refine ⟨.ref s.heap.objs.size, _, I.laid (t' := s.toks) (o := .lst (cutV xs lo hi)) (fun b ob q => Heap.get?_push_of_some _ q) (Nat.le_refl _) ?_, rfl, q _ (I.hok.fresh (Nat.le_refl _))⟩
  exact ⟨Nat.le_trans (cutV_length xs lo hi) hz, _, 0, (r.drop (HT.sIx xs.length 0 lo)).take (HT.sIx xs.length xs.length hi - HT.sIx xs.length 0 lo), Heap.get?_push_size _ rfl⟩

/-! ### in, not in: flat items -/

/-! ### len, list(x), tuple(x) of any list or tuple that is read -/
theorem call_len_seq : CallR X (.builtin "len") (fun xs H Q => ∃ p ys, xs = [.ref p] ∧ (SqL X.K H p ys ∨ SqT X.K H p ys) ∧ Q (.int ys.length) H) := by
  intro pins s σ H xs us Q I r h
  obtain ⟨p, ys, rfl, hq, q⟩ := h
  obtain ⟨u, rfl, rx⟩ := vals1 r
  cases rx
  have hn := line63
  rcases hq with hq | hq
  · obtain ⟨its, r', pl, hz⟩ := I.list hq
    have hlen := r'.length
    exact Calls.call_len_list pl.isList (by simp only [List.size_toArray] <;> omega) ⟨.int ys.length, H, I.tok _, ⟨s.toks + 1, by rw [List.size_toArray, hlen]⟩, q⟩
  · obtain ⟨its, r', pl, hz⟩ := I.tuple hq
    have hlen := r'.length
    exact len_tuple pl (by simp only [List.size_toArray] <;> omega) ⟨.int ys.length, H, I.tok _, ⟨s.toks + 1, by rw [List.size_toArray, hlen]⟩, q⟩
theorem CallR.or {f : Value} {r r' : List V → Hp → VK → Prop} (h : CallR X f r) (h' : CallR X f r') : CallR X f (fun xs H Q => r xs H Q ∨ r' xs H Q) := by
  intro pins s σ H xs us Q I rs q
  rcases q with q | q
  · exact h pins s σ H xs us Q I rs q
  · exact h' pins s σ H xs us Q I rs q
theorem call_list_of : CallR X (.type "list") (fun xs H Q => ∃ p ys, xs = [.ref p] ∧ (SqL X.K H p ys ∨ SqT X.K H p ys) ∧ ∀ l, H l = none → Q (.ref l) (upd H l (.lst ys))) := by
  intro pins s σ H xs us Q I r h
  obtain ⟨p, ys, rfl, hq, q⟩ := h
  obtain ⟨u, rfl, rx⟩ := vals1 r
  cases rx
  have fin : ∀ (its : List Value), Vals ys its → ys.length ≤ sizeLine → ∀ (h' : Heap) (c' : Nat), (∀ b o', s.heap.get? b = some o' → h'.get? b = some o') →
      h'.get? s.heap.objs.size = some { cls := .type "list", dict := none, data := .seq its.toArray c', slots := #[] } → EP X pins σ Q (.ref s.heap.objs.size) { s with heap := h' } := fun its r' hz h' c' kp e =>
    ⟨.ref s.heap.objs.size, _, I.laid (t' := s.toks) kp (Nat.le_refl _) (show ObjOk X.prog X.w _ h' _ (.lst ys) from ⟨hz, its, c', r', e⟩), rfl, q _ (I.hok.fresh (Nat.le_refl _))⟩
  rcases hq with hq | hq
  · obtain ⟨its, r', pl, hz⟩ := I.list hq
    have hlen := r'.length
    obtain ⟨o, ho, hc, n, hd⟩ := pl.isList
    exact call_list_seq p (.inl rfl) ho hc hd (fun h' c' kp e => fin its r' hz h' c' kp e) (by simp only [List.size_toArray] <;> omega)
  · obtain ⟨its, r', pl, hz⟩ := I.tuple hq
    have hlen := r'.length
    obtain ⟨o, ho, hc, n, hd⟩ := pl
    exact call_list_seq p (.inr rfl) ho hc hd (fun h' c' kp e => fin its r' hz h' c' kp e) (by simp only [List.size_toArray] <;> omega)
theorem call_tuple_of : CallR X (.type "tuple") (fun xs H Q => ∃ p ys, xs = [.ref p] ∧ ((SqL X.K H p ys ∧ ∀ l, H l = none → Q (.ref l) (upd H l (.tup ys))) ∨ (SqT X.K H p ys ∧ Q (.ref p) H))) := by
  intro pins s σ H xs us Q I r h
  obtain ⟨p, ys, rfl, h⟩ := h
  obtain ⟨u, rfl, rx⟩ := vals1 r
  cases rx
  rcases h with ⟨hq, q⟩ | ⟨hq, q⟩
  · obtain ⟨its, r', pl, hz⟩ := I.list hq
    have hlen := r'.length
    refine call_tuple_list pl.isList (fun h' kp => ?_) (by simp only [List.size_toArray] <;> omega)
    have I1 : Inv X pins σ H { s with heap := h' } := I.kept (t' := s.toks) kp
    have I2 : Inv X pins σ (upd H h'.objs.size (.tup ys)) { s with heap := h'.push { cls := .type "tuple", data := .seq its.toArray } } :=
      I1.laid (t' := s.toks) (fun b o e => Heap.get?_push_of_some _ e) (Nat.le_refl _) (show ObjOk X.prog X.w _ _ _ (.tup ys) from ⟨hz, its, r', IsTup.new _ _⟩)
    exact ⟨.ref h'.objs.size, _, I2, rfl, q _ (I1.hok.fresh (Nat.le_refl _))⟩
  · obtain ⟨its, r', pl, hz⟩ := I.tuple hq
    exact call_tuple_same pl ⟨.ref p, H, I, rfl, q⟩

/-! ### the call of a builtin's method: o.m(..) -/
/-- the value is of that builtin type -/
def tyV (K : PySem.W.Frag) (T : String) (x : V) (H : Hp) : Prop := match x with
  | .str _ => T = "str"
  | .int _ => T = "int"
  | .ref p => (T = "list" ∧ ∃ xs, SqL K H p xs) ∨ (T = "tuple" ∧ ∃ o, K.lookup p = some o ∧ o.cls = .type "tuple" ∧ o.dict = none) ∨
      (T = "dict" ∧ ((∃ kvs, H p = some (.dK kvs)) ∨ ∃ kvs, H p = some (.dT kvs))) ∨ (T = "set" ∧ ∃ S n, H p = some (.set S n))
  | _ => False
theorem tyV_is {pins : List (Addr × Obj)} {σ : St} {H : Hp} {s : Shared} {T : String} {x : V} {v : Value} (I : Inv X pins σ H s) (r : RelV x v) (ty : tyV X.K T x H) :
    s.TypeIs v T ∧ ∀ a, v = .ref a → ∃ ob, s.heap.get? a = some ob ∧ ob.dict = none := by
  cases x with
  | str z =>
    obtain ⟨t, rfl⟩ := r
    cases (show T = "str" from ty)
    exact ⟨typeIs_str s z t, fun _ e => nomatch e⟩
  | int i =>
    obtain ⟨t, rfl⟩ := r
    cases (show T = "int" from ty)
    exact ⟨typeIs_int s i t, fun _ e => nomatch e⟩
  | ref p =>
    cases r
    rcases ty with ⟨rfl, xs, hq⟩ | ⟨rfl, o, hk, hc, hd⟩ | ⟨rfl, hk⟩ | ⟨rfl, S, n, hk⟩
    · obtain ⟨its, _, pl, _⟩ := I.list hq
      refine ⟨pl.isList.typeIs, fun a e => ?_⟩
      cases e
      obtain ⟨o, n, e, c, hd, _⟩ := pl
      exact ⟨o, e, hd⟩
    · refine ⟨⟨o, I.kIn p o hk, hc⟩, fun a e => ?_⟩
      cases e
      exact ⟨o, I.kIn _ o hk, hd⟩
    · have z : ∃ o, s.heap.get? p = some o ∧ o.ExactDict := by
        rcases hk with ⟨kvs, hk⟩ | ⟨kvs, hk⟩
        · obtain ⟨_, _, _, _, o, _, _, e, ex, _⟩ := I.hok p _ hk
          exact ⟨o, e, ex⟩
        · obtain ⟨_, _, _, _, o, _, _, e, ex, _⟩ := I.hok p _ hk
          exact ⟨o, e, ex⟩
      obtain ⟨o, e, ex⟩ := z
      refine ⟨⟨o, e, ex.1⟩, fun a e2 => ?_⟩
      cases e2
      exact ⟨o, e, ex.2.1⟩
    · obtain ⟨o, _, _, _, e, ex, _⟩ := I.hok p _ hk
      refine ⟨⟨o, e, ex.1⟩, fun a e2 => ?_⟩
      cases e2
      exact ⟨o, e, ex.2.1⟩
  | _ => exact False.elim ty
def tBM (K : PySem.W.Frag) (T : String) (r : V → List V → Hp → VK → Prop) (to : TE) (t : TA) : TE := fun σ H Q => to σ H fun x H1 => tyV K T x H1 ∧ t σ H1 fun xs H2 => r x xs H2 Q
variable {o e : Expr} {es : List Expr} {to : TE} {t : TA} {name : Str} {apos cpos : Pos} {T id : String} {r : V → List V → Hp → VK → Prop}
theorem pe_bm (pa : PlainAttrs T) (slot : Slot T name id) (hty : typeOf (.builtin id) = pure (.type "method_descriptor")) (hm : MtR X id r) (ho : PE X o to) (ha : PA X (e :: es) t)
    (hbase : attributeBase o name X.env (eval o X.env) = eval o X.env := by rfl)
    (hfew : ((backTo cpos (starEach (e :: es) X.env)).all (fun x => !x.1) && (backToKw cpos (keywordEach [] X.env)).all (fun x => x.1.isSome)
      && decide ((e :: es).length + ([] : List Keyword).length + (if ([] : List Keyword).isEmpty then 0 else 1) < 30)) = true := by rfl)
    (hline : (apos.endLine == cpos.line) = true := by rfl) (hs : starEach (e :: es) X.env = (false, eval e X.env) :: starEach es X.env := by rfl) (hplain : (backTo cpos (starEach es X.env)).any (·.1) = false := by rfl) :
    PE X (.Call (.Attribute o name apos) (e :: es) [] cpos) (tBM X.K T r to t) := by
  intro pins s σ H Q I h
  refine wpAny_Call_method_late hbase hfew hline rfl (thn (ho pins s σ H _ I h) fun v s1 ⟨x, H1, I1, r1, ty, q1⟩ => ?_)
  obtain ⟨h1, h2⟩ := tyV_is I1 r1 ty
  refine ⟨T, id, pa, slot, hty, h1, h2, ?_⟩
  have hA := ha cpos pins s1 σ H1 _ I1 q1
  rw [hs] at hA ⊢
  refine Calls.callWith_builtin (by show (false || (backTo cpos (starEach es X.env)).any (·.1)) = false; rw [hplain] <;> rfl) (Calls.evalArgs_plain ?_)
  exact thn hA fun us s2 ⟨vs, H2, I2, r2, q2⟩ => hm pins s2 σ H2 x vs v us Q I2 r1 r2 q2
/- xs.append(e), list.index on a module's tuple .. are MtR facts of 06m -/
end
end L2

namespace L2
open PySem PySem.Spec PyProof.Rows

def MtM (X : Cx) (id : String) (r : V → List V → Hp → VK → Prop) : Prop :=
  ∀ (pins : List (Addr × Obj)) (s : Shared) (σ : St) (H : Hp) (x : V) (xs : List V) (v : Value) (us : List Value) (Q : VK), Inv X pins σ H s → RelV x v → Vals xs us → r x xs H Q →
    wpAny (model X.prog X.w) X.A (call (.builtin id) (v :: us)) (EP X pins σ Q) X.xe s

/-! ### lists of values -/
theorem Vals.one : ∀ {x : V} {us : List Value}, Vals [x] us → ∃ u, us = [u] ∧ RelV x u
  | _, _, .cons r .nil => ⟨_, rfl, r⟩
theorem Vals.two : ∀ {x y : V} {us : List Value}, Vals [x, y] us → ∃ u v, us = [u, v] ∧ RelV x u ∧ RelV y v
  | _, _, _, .cons r (.cons q .nil) => ⟨_, _, rfl, r, q⟩
theorem Vals.eraseIdx : ∀ {xs : List V} {us : List Value} (i : Nat), Vals xs us → Vals (xs.eraseIdx i) (us.eraseIdx i)
  | _, _, _, .nil => .nil
  | _, _, 0, .cons _ t => t
  | _, _, i + 1, .cons r t => .cons r (Vals.eraseIdx i t)
theorem Vals.rep {xs : List V} {us : List Value} (h : Vals xs us) : ∀ k : Nat, Vals (List.replicate k xs).flatten (List.replicate k us).flatten
  | 0 => .nil
  | k + 1 => by
    rw [List.replicate_succ, List.replicate_succ, List.flatten_cons, List.flatten_cons]
    exact Vals.append h (Vals.rep h k)
theorem len_erase {α : Type} : ∀ (l : List α) (i : Nat), (l.eraseIdx i).length ≤ l.length
  | [], _ => Nat.le_refl _
  | _ :: _, 0 => Nat.le_succ _
  | _ :: r, i + 1 => Nat.succ_le_succ (len_erase r i)

section
variable {X : Cx} {pins : List (Addr × Obj)} {σ : St} {H : Hp} {s : Shared} {l b : Addr} {xs ys zs : List V}

/-! ### the two steps: a tracked list is rewritten, a new list is laid -/
theorem Inv.lset {its its' : List Value} {n : Nat} {f : Array Value → Array Value} {t' : Nat} (I : Inv X pins σ H s) (hH : H l = some (.lst xs))
    (e : s.heap.get? l = some { cls := .type "list", data := .seq its.toArray n }) (hf : f its.toArray = its'.toArray) (hv : Vals ys its') (hz : ys.length ≤ sizeLine) :
    Inv X pins σ (upd H l (.lst ys)) { s with heap := s.heap.update l (Obj.mapSeq f), toks := t' } := by
  have q := PySem.IsL.update e f
  rw [hf] at q
  refine I.write (x := l) (e := l) (by rw [hH]; exact trivial) (.inl rfl) (fun b' u hb hu => (Heap.get?_update_other s.heap (Obj.mapSeq f) (Ne.symm hb)).trans hu) ⟨_, q⟩ ?_
  exact ⟨hz, its', _, hv, q⟩
theorem Inv.lnew {its : List Value} {t' : Nat} (I : Inv X pins σ H s) (hv : Vals ys its) (hz : ys.length ≤ sizeLine) :
    Inv X pins σ (upd H s.heap.objs.size (.lst ys)) { s with heap := s.heap.push { cls := .type "list", data := .seq its.toArray }, toks := t' } :=
  I.laid (fun _ _ q => Heap.get?_push_of_some _ q) (Nat.le_refl _) ⟨hz, its, 0, hv, Heap.get?_push_size _ rfl⟩
theorem Inv.fresh (I : Inv X pins σ H s) : H s.heap.objs.size = none := I.hok.fresh (Nat.le_refl _)
theorem Inv.lstM (I : Inv X pins σ H s) (hH : H l = some (.lst xs)) : xs.length ≤ sizeLine ∧ ∃ (its : List Value) (n : Nat), Vals xs its ∧ xs.length = its.length ∧ s.heap.get? l = some { cls := .type "list", data := .seq its.toArray n } := by
  obtain ⟨z, its, n, r, e⟩ := I.hok l _ hH
  exact ⟨z, its, n, r, r.length, e⟩

theorem notLongL {n : Nat} (h : n ≤ sizeLine) : Builtin.List.listTooLong n = false := by
  unfold Builtin.List.listTooLong
  exact decide_eq_false (by omega)
end

section
variable {X : Cx}

/-! ### methods -/
def rAppend : V → List V → Hp → VK → Prop := fun x vs H Q => ∃ l xs y, x = .ref l ∧ vs = [y] ∧ H l = some (.lst xs) ∧ xs.length < sizeLine ∧ Q .non (upd H l (.lst (xs ++ [y])))
theorem mt_append : MtM X "list.append" rAppend := by
  intro pins s σ H x vs v us Q I rx rv h
  obtain ⟨l, xs, y, rfl, rfl, hH, hz, q⟩ := h
  cases rx
  obtain ⟨u, rfl, ru⟩ := rv.one
  obtain ⟨z, its, n, r, hl, e⟩ := I.lstM hH
  refine call_meets F.slot_list_append ⟨_, e, rfl⟩ F.entry_list_append (F.args_list_append_2 _ _) (PySem.list_append l its.toArray n u (by rw [List.size_toArray]; omega)) ⟨e, ?_⟩
  refine ⟨.non, _, I.lset (its' := its ++ [u]) hH e (by simp) (r.append (.cons ru .nil)) ?_, rfl, q⟩
  rw [List.length_append, List.length_singleton]
  omega

def rExtend : V → List V → Hp → VK → Prop := fun x vs H Q => ∃ l b xs zs, x = .ref l ∧ vs = [.ref b] ∧ H l = some (.lst xs) ∧ H b = some (.lst zs) ∧ xs.length + zs.length ≤ sizeLine ∧ Q .non (upd H l (.lst (xs ++ zs)))
theorem mt_extend : MtM X "list.extend" rExtend := by
  intro pins s σ H x vs v us Q I rx rv h
  obtain ⟨l, b, xs, zs, rfl, rfl, hH, hB, hz, q⟩ := h
  cases rx
  obtain ⟨u, rfl, ru⟩ := rv.one
  cases ru
  obtain ⟨z, its, n, r, hl, e⟩ := I.lstM hH
  obtain ⟨z2, its2, n2, r2, hl2, e2⟩ := I.lstM hB
  have hsz : its.toArray.size + its2.toArray.size ≤ sizeLine := by rw [List.size_toArray, List.size_toArray]; omega
  have hlong : ¬ (!its.toArray.isEmpty && Builtin.List.listTooLong (its.toArray.size + its2.toArray.size)) = true := by
    rw [notLongL hsz, Bool.and_false]
    exact Bool.false_ne_true
  refine call_meets F.slot_list_extend ⟨_, e, rfl⟩ F.entry_list_extend (F.args_list_extend_2 _ _)
    (AutoSeq1.list_extend_list_list_0 l its.toArray n b its2.toArray n2 hlong (by rw [List.size_toArray]; omega) (by omega)) ⟨e, e2, ?_⟩
  refine ⟨.non, _, I.lset (its' := its ++ its2) hH e (by simp) (r.append r2) ?_, rfl, q⟩
  rw [List.length_append]
  omega


def rPopAt : V → List V → Hp → VK → Prop := fun x vs H Q => ∃ l xs i k y, x = .ref l ∧ vs = [.int i] ∧ H l = some (.lst xs) ∧ -(2 ^ 63) ≤ i ∧ i < 2 ^ 63 ∧ seqIndex? i xs.length = some k ∧ xs[k]? = some y ∧ Q y (upd H l (.lst (xs.eraseIdx k)))
theorem mt_popAt : MtM X "list.pop" rPopAt := by
  intro pins s σ H x vs v us Q I rx rv h
  obtain ⟨l, xs, i, k, y, rfl, rfl, hH, h1, h2, hk, hy, q⟩ := h
  cases rx
  obtain ⟨u, rfl, ru⟩ := rv.one
  obtain ⟨t, rfl⟩ := ru
  obtain ⟨z, its, n, r, hl, e⟩ := I.lstM hH
  obtain ⟨w, hw, rw'⟩ := r.get hy
  refine call_meets F.slot_list_pop ⟨_, e, rfl⟩ F.entry_list_pop (F.args_list_pop_2 _ _)
    (MeetsSeq.list_pop_at l its.toArray n i t k w (fitsIndex_both h1 h2) (by rw [List.size_toArray, ← hl]; exact hk) (by rw [← Array.getElem?_toList]; exact hw) (by rw [List.size_toArray]; omega)) ⟨e, ?_⟩
  refine ⟨y, _, I.lset (its' := its.eraseIdx k) hH e ?_ (r.eraseIdx k) ?_, rw', q⟩
  · show its.toArray.eraseIdxIfInBounds k = (its.eraseIdx k).toArray
    rw [List.eraseIdxIfInBounds_toArray]
  · have := len_erase xs k
    omega



/-! ### list + list, list += list, list * int -/
def rCat : R2 := fun x y H Q => ∃ l b xs zs, x = .ref l ∧ y = .ref b ∧ H l = some (.lst xs) ∧ H b = some (.lst zs) ∧ xs.length + zs.length ≤ sizeLine ∧ ∀ p, H p = none → Q (.ref p) (upd H p (.lst (xs ++ zs)))
theorem op_cat : OpR X (binaryOp .Add) rCat := by
  intro pins s σ H x y v u Q I rx ry h
  obtain ⟨l, b, xs, zs, rfl, rfl, hH, hB, hz, q⟩ := h
  cases rx
  cases ry
  obtain ⟨z, its, n, r, hl, e⟩ := I.lstM hH
  obtain ⟨z2, its2, n2, r2, hl2, e2⟩ := I.lstM hB
  refine PySem.P.add_list e e2 ?_ (by rw [List.size_toArray, List.size_toArray]; omega)
  have ea : its.toArray ++ its2.toArray = (its ++ its2).toArray := by simp
  rw [ea]
  exact ⟨.ref _, _, I.lnew (t' := s.toks) (r.append r2) (by rw [List.length_append]; omega), rfl, q _ I.fresh⟩

/-! ### del xs[i] -/
end

/-! ### xs[a:b] = ys -/
section
variable {prog : Program} {w : World} {A : Around} {E : Value → Shared → Prop} {s : Shared}
end

section
variable {X : Cx}
end
end L2

namespace Att
open PySem PySem.W PySem.Calls PyProof.Rows

/-! ### the script -/
theorem ints_of_wellAll {P : Params} {h : Heap} : ∀ (ns : List Int) (vs : List Value), WellAll P h vs (ns.map WData.int) → IntsAre vs ns := by
  intro ns
  induction ns with
  | nil =>
    intro vs w
    rw [List.map_nil] at w
    cases w
    exact .nil
  | cons n ns ih =>
    intro vs w
    rw [List.map_cons] at w
    cases w with
    | cons a b =>
      cases a
      exact .cons _ _ (ih _ b)

theorem script_of {l : OpenLaw} {n : Nat} (hn : l.most = some n) {P : Params} {h : Heap} {args : List WData} {vals : List Value}
    (hpre : l.row.toRowW.claim.pre args = true) (hwl : WellAll P h vals args) :
    ∃ a vs ns, vals = [Value.ref a] ∧ args = [WData.list (ns.map WData.int)] ∧ h.get? a = some { cls := .type "list", data := .seq vs.toArray } ∧ IntsAre vs ns ∧ ns.length ≤ n := by
  have hsh : WShape.hasAll [] args [.list .int] = true := (pre_splitW hpre).1
  have hc : l.pre.holds [] { args := args } = true := (pre_splitW hpre).2
  obtain ⟨d, r, rfl, h1, h2⟩ := hasAllW_cons hsh
  obtain rfl := hasAllW_nil h2
  obtain ⟨xs, rfl, h3⟩ := hasW_list h1
  obtain ⟨ns, rfl⟩ := items_int h3
  have hlen : ns.length ≤ n := by
    unfold OpenLaw.pre at hc
    have h4 : (WTm.not (.lt (.lit (.int (n : Int))) (.len (.arg 0)))).holds [] { args := [.list (ns.map .int)] } = true := by
      have h4 := (holds_andW hc).1
      rw [hn] at h4
      exact h4
    have h5 := condW_of h4 (w_not (w_lt w_lit (w_len_list (w_arg rfl))))
    rw [List.length_map] at h5
    refine Nat.le_of_not_lt fun q => ?_
    have q' : (n : Int) < ((ns.length : Nat) : Int) := by omega
    first
      | (rw [decide_eq_true q'] at h5; exact absurd h5 (by decide))
      | (simp at h5; omega)
  cases hwl with
  | cons w1 w2 =>
    cases w2
    cases w1 with
    | list ho hall => exact ⟨_, _, ns, rfl, rfl, ho, ints_of_wellAll ns _ hall, hlen⟩

theorem post_true (l : OpenLaw) (args : List WData) : l.row.toRowW.claim.post args (.bool true) args = true :=
  postW_of (r := l.row.toRowW) (X := (true == true))
    (show WShape.has [] (.bool true) .bool = true by first | rfl | decide | simp [WShape.has, WShape.arms, WShape.armsAll])
    (show (WTm.eq .res (.lit (.bool true))).value [] { args := args, res := some (.bool true), after := args } = some (.bool (true == true)) from w_eq_bool (w_res rfl) w_lit) rfl

/-! ### the attachment: holds_open's last premise (the goal 'hc' behind k_head) from a wpAny of the law's body -/

/-- the same from a codeAny of the CALL (for a layer whose function contracts speak of calls) -/
theorem attach_call {l : OpenLaw} {n : Nat} {q : Program} {loose : List Str} {XP : (Str → Option Value) → Heap → Prop} {YP : World → Heap → Prop} {d : DefRec}
    (hn : l.most = some n) (hdf : d.params.defaults = [])
    (call : ∀ (w : World) (s₀ s₁ : Shared) (mg mb : Str → Option Value) (fa : Addr) (o : Obj) (pm cd doc : Value) (a : Addr) (vs : List Value) (ns : List Int),
      Ground q loose [] XP w s₀ mg mb s₁.heap → YP w s₁.heap →
      s₁.heap.get? fa = some o → o.data = .func (docDef d.name d.params d.body d.scope pm cd doc) → s₁.heap.CodeRec cd d.name → mg d.name = some (.ref fa) →
      s₁.heap.get? a = some { cls := .type "list", data := .seq vs.toArray } → IntsAre vs ns → ns.length ≤ n → s₁.gens = #[] →
      codeAny (model l.prog w) callerA (.call (.ref fa) ⟨[.ref a], []⟩) (fun r s' => r = .ok (.ret (.bool true)) ∧ OldK s₁.heap s'.heap ∧ s'.os = s₁.os ∧ AllBare s'.gens) s₁) :
    WalkO q loose XP YP l.row.toRowW d [] (fun f vs => PySem.call f vs) := by
  intro w s₀ s₁ mg mb G Y fa o pm cd doc dV kV ho hd hcd hD hmg hg args vals as hpre hlay hrd hwl hlo
  obtain rfl : dV = .none := Dflts.none hD hdf
  obtain rfl : kV = .none := Dflts.noKw hD
  obtain ⟨a, vs, ns, rfl, rfl, hobj, hints, hlen⟩ := script_of hn hpre hwl
  refine enter_call (codeAny_mono (call w s₀ s₁ mg mb fa o pm cd doc a vs ns G Y ho (fd_plain hd) hcd hmg hobj hints hlen hg) fun r s' hq => ?_)
  obtain ⟨rfl, h2, h3, h4⟩ := hq
  exact ⟨.inl ⟨.bool true, .bool true, [], rfl, fun _ => rfl, .bool true, post_true l _, fun _ => ⟨List.Pairwise.nil, fun _ hm => (nomatch hm)⟩⟩, h2, h3, h4⟩


/-! ### rules over ANY heap (no ledger) from facts about the written part K: the library's own take a ledger (News) for what they write -/
section
variable {prog : Program} {w : World} {A : Around} {E : Value → Shared → Prop} {s : Shared} {K : Frag}





/-! the whole heap as the ledger: makes every rule that writes through a ledger a rule over any heap -/

end
end Att

namespace L2
open PySem PySem.Spec PyProof.Rows

theorem vals_ints : ∀ {vs : List Value} {ns : List Int}, IntsAre vs ns → Vals (ns.map V.int) vs
  | _, _, .nil => .nil
  | _, _, .cons n t h => .cons ⟨t, rfl⟩ (vals_ints h)

/-- nothing is tracked but the script, known to the object (or it is an object of the module) -/
def Only (H : Hp) : Prop := ∀ b, H b = none ∨ ∃ o xs, H b = some (.frz o (.lst xs))

/-- THE HEAD: the law's promise, at the heap behind the top. F, the promise of the law's def, may use that base is part of the heap (so K.In base, base.Ns mainGlobals mg stand in Mod) -/
theorem law_call {P : Program} {w : World} {K : PySem.W.Frag} {mg mb : Str → Option Value} {CX : CXT} {k : Nat} {fa a : Addr} {fd : FuncData} {x : Str} {sp : Sp} {s₁ : Shared} {vs : List Value} {ns : List Int}
    (KX : K.In s₁.heap) (hns : s₁.heap.Ns mainGlobals mg) (hb : s₁.heap.Ns builtinsNs mb) (hbb : ∀ x : Str, x ≠ "__name__" → mb x = bootBuiltins x) (hlim : s₁.heap.NoLimit) (hg : s₁.gens = #[])
    (ha : s₁.heap.get? a = some { cls := .type "list", data := .seq vs.toArray }) (hi : IntsAre vs ns) (hl : ns.length ≤ sizeLine) (hr : Room k callerA)
    (F : ∀ base : Heap, K.In base → base.Ns mainGlobals mg → FnOk P w K mg base CX k fa fd [x] sp) (hbind : ∀ (s : Shared) (u : Value), BindsTo s fd ⟨[u], []⟩ [(x, u)])
    (hsp : ∀ H : Hp, Only H → SqL K H a (ns.map V.int) → sp [.ref a] H (fun v _ => v = .bl true) fun _ _ _ => False)
    (hCX : ∀ H e s', CX [] H s₁ (fun _ _ _ => False) e s' → False) :
    codeAny (model P w) callerA (.call (.ref fa) ⟨[.ref a], []⟩) (fun r s' => r = .ok (.ret (.bool true)) ∧ OldK s₁.heap s'.heap ∧ s'.os = s₁.os ∧ AllBare s'.gens) s₁ := by
  have rv := vals_ints hi
  have lenV := hi.length
  -- from an abstract heap in which nothing but the script may be tracked
  have core : ∀ H : Hp, Only H → SqL K H a (ns.map V.int) → HOk P w H s₁.heap → (∀ b, H b ≠ none → b = a) → (H a ≠ none → K.lookup a = none) →
      codeAny (model P w) callerA (.call (.ref fa) ⟨[.ref a], []⟩) (fun r s' => r = .ok (.ret (.bool true)) ∧ OldK s₁.heap s'.heap ∧ s'.os = s₁.os ∧ AllBare s'.gens) s₁ := by
    intro H hO hS hok hA hK
    have base_of : ∀ {b : Addr} {o : Obj}, s₁.heap.get? b = some o → H b = none → (hidT s₁.heap H).get? b = some o := fun e n => hidT_get e n
    have noA : ∀ {b : Addr} {o : Obj} {es : Array DictEntry} {ep : Nat}, s₁.heap.get? b = some o → o.data = .dict es ep → H b = none := fun {b o es ep} e d => by
      cases q : H b with
      | none => rfl
      | some u =>
        have e' : b = a := hA b (by rw [q]; simp)
        subst e'
        rw [ha] at e; cases e
        have d' : Data.seq vs.toArray _ = Data.dict es ep := d
        cases d'
    have nsK : ∀ {b : Addr} {m : Str → Option Value}, s₁.heap.Ns b m → (hidT s₁.heap H).Ns b m := fun {b m} ⟨o, es, ep, e, d, r⟩ => ⟨o, es, ep, base_of e (noA e d), d, r⟩
    have hKb : K.In (hidT s₁.heap H) := fun b o e => base_of (KX b o e) (by
      cases q : H b with
      | none => rfl
      | some u =>
        have e' : b = a := hA b (by rw [q]; simp)
        subst e'
        rw [hK (by rw [q]; simp)] at e; cases e)
    have hM : Mod K mg (hidT s₁.heap H) := ⟨hKb, nsK hns, ⟨mb, nsK hb, hbb⟩, let ⟨mc, h1, h2⟩ := hlim; ⟨mc, nsK h1, h2⟩⟩
    have e0 : Env0 P w K mg (hidT s₁.heap H) callerA [] s₁ H := ⟨rfl, hM, fun b o e => of_hidT e, Nat.le_of_eq (hidT_size _ _), trivial, fun b hb => absurd (show b ∈ ([] : List Addr) from hb) (by simp), hok, .of_eq hg⟩
    refine codeAny_mono ((F _ hKb (nsK hns)).run callerA [] s₁ H ⟨[.ref a], []⟩ [.ref a] [.ref a] _ _ hr e0 (hbind s₁ (.ref a)) (.cons rfl .nil) (hsp H hO hS)) fun r s' h => ?_
    cases r with
    | error e => exact (hCX H e s' h).elim
    | ok fl =>
      cases fl with
      | next => exact False.elim h
      | brk => exact False.elim h
      | cont => exact False.elim h
      | ret u =>
        obtain ⟨v, H', os, bare, un, hok', r', q⟩ := h
        have q' : v = .bl true := q
        subst q'
        obtain rfl : u = Value.bool true := r'
        refine ⟨rfl, OldK.of_keep fun b o e => ?_, os, bare⟩
        cases q : H b with
        | none => exact un.keep b o e q (by intro z; exact absurd (show b ∈ ([] : List Addr) from z) (by simp)) (by simp)
        | some u =>
          rcases hO b with z | ⟨ob, xs, z⟩
          · rw [q] at z; cases z
          · have z2 := un.frzs b ob _ z
            obtain ⟨e1, _⟩ := hok b _ z
            obtain ⟨e2, _⟩ := hok' b _ z2
            rw [e] at e1; cases e1
            exact e2
  cases hk : K.lookup a with
  | some o =>
    -- the script is one of the module's own objects
    have e := KX a o hk
    rw [ha] at e
    cases e
    refine core (fun _ => none) (fun _ => .inl rfl) (.inr ⟨_, vs.toArray, _, hk, rfl, rfl, rfl, by rw [List.size_toArray, lenV]; exact hl, by simpa using rv⟩) (fun b u z => by have z' : (none : Option HO) = some u := z; cases z') (fun b z => absurd rfl z) fun z => absurd rfl z
  | none =>
    refine core (fun b => if b = a then some (.frz { cls := .type "list", data := .seq vs.toArray } (.lst (ns.map V.int))) else none) (fun b => ?_) (.inl (.inr ⟨{ cls := .type "list", data := .seq vs.toArray }, if_pos rfl⟩)) (fun b u z => ?_) (fun b z => ?_) fun _ => hk
    · by_cases hb : b = a
      · exact .inr ⟨_, _, if_pos hb⟩
      · exact .inl (if_neg hb)
    · by_cases hb : b = a
      · have z' := (if_pos hb).symm.trans z
        cases z'
        subst hb
        exact ⟨ha, by rw [List.length_map]; exact hl, vs, _, rv, ha⟩
      · have z' := (if_neg hb).symm.trans z
        cases z'
    · by_cases hb : b = a
      · exact hb
      · exact absurd (if_neg hb) z
end L2

namespace L2
open PySem PySem.Spec PyProof.Rows


end L2

/- THE LAST THEOREM (shape; LID, My.* are yours):
   My.Adr: a structure of the addresses that your layer names (classes, functions); My.Txt K t: a structure (Prop) of the equations over K;
   My.txt_mk : {K} {implicit addresses ..} (e1 : nsIn K mainGlobals "law" = some (some (.ref f))) (e2 : K.lookup f = some ⟨oc, od, .func (fnOf "law" "law" params body scope dV kV doc pm an cdv ct), sl⟩) (e3 : codeIn K cdv "law" = true) .. : ∃ t, My.Txt K t

set_option maxRecDepth 100000 in
set_option maxHeartbeats 0 in
theorem PySem.Challenge.cw_LID_holds : PySem.Challenge.rw_LID.Holds := by
  w_on; o_law; k_head; (case hw => w_witness2)
  k_fill
  refine L2.walk_of (l := PySem.Challenge.rw_LID) (n := 63) (k := 40) (x := "script") (CX := fun w => ..) (sp := fun _ => My.sp_law) rfl (by decide) rfl ⟨rfl, by decide, by decide⟩ (fun w h Y => PySem.W.kIn_of Y) ?F ?S ?C
  case F =>
    intro w mg fa h KX G hmg
    have T : ∃ t, My.Txt (L2.KOf KX) t := by
      dsimp only [L2.KOf]                          -- K must stand as «<heap const> w.params» for k_is
      refine' My.txt_mk ?e1 ?e2 ?e3 ..
      (case e1 => PySem.W.k_is)                    -- in the order: a name -> its address -> its object -> its parts
      (case e2 => PySem.W.k_is)
      ..
    obtain ⟨t, T⟩ := T
    have e0 := hmg.symm.trans (PySem.W.mg_of KX G T.law)
    cases e0                                       -- fa is the law's own address
    exact ⟨_, fun s u => .of_eq rfl, fun base kb nb => My.law_fn T kb nb⟩     -- if «.of_eq rfl» comes too early: refine' ⟨_, ?b, fun base kb nb => My.law_fn T kb nb⟩; exact fun s u => .of_eq rfl
  case S => exact fun w H a ns hl hO hS => ..
  case C => exact ..
(the tactic k_is has no namespace: write k_is) -/

/-! SHORT WORDS over the layer: a def of the text, its body, what a loop and a test want. -/
namespace L2
open PySem PySem.Spec PyProof.Rows

/-! ### the text by places -/
def defArgs (s : Stmt) : Arguments := match s with
  | .FunctionDef _ a _ _ _ _ _ _ _ _ => a
  | _ => { posonlyargs := [], args := [], vararg := none, kwonlyargs := [], kw_defaults := [], kwarg := none, defaults := [] }
def defBody (s : Stmt) : List Stmt := match s with
  | .FunctionDef _ _ b _ _ _ _ _ _ _ => b
  | _ => []
def defScope (s : Stmt) : Scope := match s with
  | .FunctionDef _ _ _ _ _ _ sc _ _ _ => sc
  | _ => { kind := .function, names := [], isGenerator := false, isCoroutine := false }

/-! ### no exception leaves a def -/
abbrev CX0 : CXT := fun _ _ _ _ _ _ => False
abbrev E0 : XK := fun _ _ _ => False
theorem pass0 {X : Cx} : Passes CX0 X E0 := fun _ _ _ _ _ _ _ h => h.elim

/-! ### a def (or method) of the text as it stands behind the top -/
structure Fun (K : PySem.W.Frag) (x qual : Str) (st : Stmt) (f : Addr) (fd : FuncData) : Prop where
  ex : ∃ (oc : Value) (od : Option Addr) (kV doc pm : Value) (an : Option Addr) (cdv ct : Value) (osl : Array (Option Value)),
    fd = PySem.W.fnOf x qual (defArgs st) (defBody st) (defScope st) .none kV doc pm an cdv ct ∧ K.lookup f = some ⟨oc, od, .func fd, osl⟩ ∧ PySem.W.codeIn K cdv qual = true
  kp : PySem.W.keepIn K (.ref f) = true
section
variable {P : Program} {w : World} {K : PySem.W.Frag} {mg : Str → Option Value} {base : Heap}
/-- THE RULE for a def: its body as a term of rules, and the reading of that term -/
theorem Fun.ok {x qual : Str} {st : Stmt} {f : Addr} {fd : FuncData} {N ps : List Str} {k : Nat} {sp : Sp} (F : Fun K x qual st f fd) (S : FnScope N ps (defScope st)) (len : ∀ vs H Q E, sp vs H Q E → vs.length = ps.length)
    (hbody : ∀ (cdv : Value) (A : Around) (outer : List Env) (s : Shared) (H : Hp) (vs : List V) (Q : VK) (E : XK), Room k (A.deeper (envOfC qual (defScope st) s.heap.objs.size f cdv)) → sp vs H Q E →
      ∃ t, PSs (cxOf CX0 P w K mg base N qual (defScope st) f cdv A outer s H E).nox (defBody st) t ∧ t { nx := fun _ H' => Q .non H', rt := Q } (start N vs) H) : FnOk P w K mg base CX0 (k + 1) f fd ps sp := by
  obtain ⟨oc, od, kV, doc, pm, an, cdv, ct, osl, rfl, lk, hcd⟩ := F.ex
  refine fn_of lk hcd S len fun A outer s H vs Q E hr hsp => ?_
  obtain ⟨t, h, q⟩ := hbody cdv A outer s H vs Q E hr hsp
  exact ⟨t, h.nox, q⟩
end

/-! ### expressions in short: the name that stands in the i-th slot -/
section
variable {X : Cx}
end

/-! ### tests -/

/-! ### heaps -/
/-- all that was tracked is as it was -/
def Same (H H' : Hp) : Prop := ∀ b o, H b = some o → H' b = some o
theorem Same.refl (H : Hp) : Same H H := fun _ _ h => h
theorem Same.trans {H H1 H2 : Hp} (a : Same H H1) (b : Same H1 H2) : Same H H2 := fun c o h => b c o (a c o h)
theorem Same.free {H H' : Hp} (e : Same H H') {l : Addr} (h : H' l = Option.none) : H l = Option.none := by
  cases q : H l with
  | none => rfl
  | some o =>
    rw [e l o q] at h
    cases h
theorem Same.seq {K : PySem.W.Frag} {H H' : Hp} {a : Addr} {xs : List V} (e : Same H H') (h : SqL K H a xs) : SqL K H' a xs := by
  rcases h with (h | ⟨o, h⟩) | h
  · exact .inl (.inl (e _ _ h))
  · exact .inl (.inr ⟨o, e _ _ h⟩)
  · exact .inr h

end L2

namespace L2
open PySem PySem.Spec PyProof.Rows
section
variable {X : Cx}
/-- len of a dict -/
theorem call_lenD : CallR X (.builtin "len") (fun xs H Q => ∃ a kvs, xs = [V.ref a] ∧ H a = some (.dK kvs) ∧ Q (.int kvs.length) H) := by
  intro pins s σ H xs us Q I r h
  obtain ⟨a, kvs, rfl, ha, q⟩ := h
  obtain ⟨u, rfl, ru⟩ := vals1 r
  cases ru
  exact d_len I (.inl ha) fun t s' I' => ⟨.int kvs.length, H, I', ⟨t, rfl⟩, q⟩
end
/-! ### a dict's pairs: keys that differ -/
section
variable {κ : Type} [DecidableEq κ]
end
end L2


end
section
namespace L2
open PySem PySem.Spec PyProof.Rows

/-! ## a list comprehension: one clause, no test or one -/
def cellsFor (cells : List (Str × Addr)) (y : Str × NameKind) (acc : List (Str × Addr)) : List (Str × Addr) :=
  if (y.2 == NameKind.free) = true then (match cells.lookup y.1 with | some c => (y.1, c) :: acc | none => acc) else acc
def closL (cells : List (Str × Addr)) (names : List (Str × NameKind)) (acc : List (Str × Addr)) : List (Str × Addr) := names.foldl (fun a y => cellsFor cells y a) acc

theorem forIn_steps {α β : Type} (f : α → β → Sem (ForInStep β)) (g : α → β → β) : ∀ (l : List α) (b : β), (∀ x ∈ l, ∀ b, f x b = pure (.yield (g x b))) → forIn l b f = (pure (l.foldl (fun b x => g x b) b) : Sem β)
  | [], b, _ => rfl
  | x :: l, b, h => by
    rw [List.forIn_cons, h x List.mem_cons_self, pure_bind]
    exact forIn_steps f g l _ fun y hy => h y (List.mem_cons_of_mem _ hy)

theorem closureFor_cells {scope : Scope} {env : Env} (h : ∀ y ∈ scope.names, y.2 = .free → ∃ c, env.cells.lookup y.1 = some c) :
    closureFor scope env = pure (closL env.cells scope.names []) := by
  unfold closureFor closL
  dsimp only
  rw [forIn_steps _ (fun y a => cellsFor env.cells y a)]
  · simp
  · intro y hy a
    obtain ⟨n, k⟩ := y
    by_cases hk : k = .free
    · obtain ⟨c, hc⟩ := h _ hy hk
      subst hk
      simp at hc
      simp [cellOf, hc, cellsFor]
    · have : (k == NameKind.free) = false := by simpa using hk
      simp [this, cellsFor]

theorem closL_sub {cells : List (Str × Addr)} : ∀ (names : List (Str × NameKind)) (acc : List (Str × Addr)), (∀ x c, acc.lookup x = some c → cells.lookup x = some c) →
    ∀ x c, (closL cells names acc).lookup x = some c → cells.lookup x = some c
  | [], acc, h => h
  | y :: r, acc, h => by
    refine closL_sub r (cellsFor cells y acc) ?_
    intro x c e
    unfold cellsFor at e
    split at e
    · split at e
      · rename_i c' hc'
        rw [List.lookup_cons] at e
        cases hx : x == y.1 with
        | true =>
          rw [hx] at e
          have q : x = y.1 := beq_iff_eq.mp hx
          have e' : c' = c := Option.some.inj e
          rw [q, ← e']
          exact hc'
        | false => rw [hx] at e; exact h x c e
      · exact h x c e
    · exact h x c e

theorem closL_has {cells : List (Str × Addr)} : ∀ (names : List (Str × NameKind)) (acc : List (Str × Addr)) (x : Str), (∀ y ∈ names, y.2 = .free → ∃ c, cells.lookup y.1 = some c) →
    ((∃ c, acc.lookup x = some c) ∨ (x, NameKind.free) ∈ names) → ∃ c, (closL cells names acc).lookup x = some c
  | [], acc, x, _, h => by
    rcases h with h | h
    · exact h
    · cases h
  | y :: r, acc, x, hf, h => by
    refine closL_has r (cellsFor cells y acc) x (fun z hz => hf z (List.mem_cons_of_mem _ hz)) ?_
    rcases h with ⟨c, h⟩ | h
    · left
      unfold cellsFor
      split
      · split
        · rename_i c' hc'
          rw [List.lookup_cons]
          cases hx : x == y.1 with
          | true => exact ⟨c', rfl⟩
          | false => exact ⟨c, h⟩
        · exact ⟨c, h⟩
      · exact ⟨c, h⟩
    · rcases List.mem_cons.mp h with h | h
      · left
        subst h
        obtain ⟨c, hc⟩ := hf _ List.mem_cons_self rfl
        refine ⟨c, ?_⟩
        simp at hc
        simp [cellsFor, hc]
      · exact .inr h

def relab (env : Env) (y : Str × NameKind) : Str × NameKind := if (y.2 == .free && env.scope.kind == .function && env.kindOf y.1 == some .cell) = true then (y.1, .cell) else y
theorem relabel_names (scope : Scope) (env : Env) : (relabel scope env).names = scope.names.map (relab env) := by
  unfold relabel
  show scope.names.map _ = _
  refine List.map_congr_left fun y _ => ?_
  obtain ⟨n, k⟩ := y
  rfl
theorem relab_fst (env : Env) (y : Str × NameKind) : (relab env y).1 = y.1 := by unfold relab; split <;> rfl
theorem relab_snd (env : Env) (y : Str × NameKind) : (relab env y).2 = y.2 ∨ (y.2 = .free ∧ (relab env y).2 = .cell) := by
  unfold relab
  split
  · rename_i h
    simp only [Bool.and_eq_true, beq_iff_eq] at h
    exact .inr ⟨h.1.1, rfl⟩
  · exact .inl rfl
theorem relab_lookup (env : Env) (x : Str) : ∀ names : List (Str × NameKind), ∀ k, (names.map (relab env)).lookup x = some k → ∃ k0, (x, k0) ∈ names ∧ names.lookup x = some k0 ∧ (k = k0 ∨ (k0 = .free ∧ k = .cell))
  | [], k, h => by simp at h
  | y :: r, k, h => by
    rw [List.map_cons] at h
    have f1 := relab_fst env y
    have f2 := relab_snd env y
    obtain ⟨n, k1⟩ := y
    generalize hz : relab env (n, k1) = z at *
    obtain ⟨zn, zk⟩ := z
    simp only at f1 f2
    subst f1
    rw [List.lookup_cons] at h
    rw [List.lookup_cons]
    cases hx : x == zn with
    | true =>
      rw [hx] at h
      have q : x = zn := beq_iff_eq.mp hx
      subst q
      have e : zk = k := Option.some.inj h
      subst e
      exact ⟨k1, List.mem_cons_self, rfl, f2⟩
    | false =>
      rw [hx] at h
      obtain ⟨k0, m, l, q⟩ := relab_lookup env x r k h
      exact ⟨k0, List.mem_cons_of_mem _ m, l, q⟩
theorem relab_lookup' (env : Env) (x : Str) : ∀ names : List (Str × NameKind), names.lookup x = some .free → (names.map (relab env)).lookup x = some .free ∨ (names.map (relab env)).lookup x = some .cell
  | [], h => by simp at h
  | y :: r, h => by
    rw [List.map_cons]
    have f1 := relab_fst env y
    have f2 := relab_snd env y
    obtain ⟨n, k1⟩ := y
    generalize hz : relab env (n, k1) = z at *
    obtain ⟨zn, zk⟩ := z
    simp only at f1 f2
    subst f1
    rw [List.lookup_cons] at h
    rw [List.lookup_cons]
    cases hx : x == zn with
    | true =>
      rw [hx] at h
      have e : k1 = .free := Option.some.inj h
      subst e
      rcases f2 with f2 | ⟨_, f2⟩
      · left; show some zk = _; rw [f2]
      · right; show some zk = _; rw [f2]
    | false =>
      rw [hx] at h
      exact relab_lookup' env x r h

/-- what must be seen of a comprehension's scope: sc the def's, N0 its names, js the slots of the captured ones -/
structure CompOk (sc scope : Scope) (N0 : List Str) (js : List Nat) : Prop where
  kind : scope.kind = .function
  nocell : ∀ y ∈ scope.names, y.2 ≠ .cell
  locs : ∀ y ∈ scope.names, y.2 = .local → scope.names.lookup y.1 = some .local
  frees : ∀ y ∈ scope.names, y.2 = .free → sc.names.lookup y.1 = some .cell ∨ sc.names.lookup y.1 = some .free
  caps : ∀ j ∈ js, scope.names.lookup (N0.getD j "") = some .free ∧ j < N0.length

/-- the context of the block -/
abbrev cxComp (X : Cx) (N' : List Str) (scope : Scope) (cl : List (Str × Addr)) (C : Addr) (fp : List Addr) (s : Shared) (H : Hp) (pn : List (Addr × Obj)) : Cx :=
  { X with N := N', s₀ := s, H₀ := H, env := compEnvC scope cl C X.env, outer := X.stack, stack := X.stack, ex := fp, fn := fun _ => false, pn := pn, xe := fun _ _ => False }
/-- its slots at the entry: the targets, then the captured names -/
def csl (nt : Nat) (js : List Nat) (σ : St) : St := List.replicate nt none ++ js.map fun j => (σ[j]?).join
abbrev capN (N0 : List Str) (tgs : List Str) (js : List Nat) : List Str := tgs ++ js.map fun j => N0.getD j ""

def PTs (X : Cx) (ifs : List Expr) (t : TT) : Prop :=
  ∀ (pins : List (Addr × Obj)) (s : Shared) (σ : St) (H : Hp) (Q : Bool → Hp → Prop), Inv X pins σ H s → t σ H Q →
    wpAny (model X.prog X.w) X.A (forIn ifs true fun c r => if r = true then do let ok ← isTrue c X.env (eval c X.env); pure (ForInStep.yield ok) else pure (ForInStep.yield r)) (TP X pins σ Q) X.xe s
def tYes : TT := fun _ H Q => Q true H
theorem pts_nil {X : Cx} : PTs X [] tYes := fun pins s σ H Q I h => wpAny_tests_nil ⟨H, I, h⟩
theorem pts_one {X : Cx} {c : Expr} {t : TT} (h : PT X c t) : PTs X [c] t := fun pins s σ H Q I q => wpAny_tests_one (h pins s σ H Q I q)

/-- the reading. W: the invariant by the turn and a measure -/
def tComp (nt : Nat) (js : List Nat) (wi : TI) (g : TG) (tt : TT) (te : TE) : TE := fun σ H Q => wi σ H fun J H1 => ∀ p, H1 p = none →
  ∃ W : Nat → Nat → St → Hp → Prop, (∃ m, W 0 m (csl nt js σ) (upd H1 p (.lst []))) ∧ ∀ i m σ' H', W i m σ' H' →
    (J.stop i H' ∧ Q (.ref p) H') ∨ (J.go i H' ∧ ∃ N : St → Hp → Prop, (∀ σ2 H2, N σ2 H2 → ∃ m', m' < m ∧ W (i + 1) m' σ2 H2) ∧
      ∀ x H2, J.yld i H' x H2 → g x σ' H2 fun σ2 H3 => tt σ2 H3 fun b H4 => if b = true then te σ2 H4 fun v H5 => ∃ acc, H5 p = some (.lst acc) ∧ acc.length < sizeLine ∧ N σ2 (upd H5 p (.lst (acc ++ [v]))) else N σ2 H4)

section
variable {prog : Program} {w : World} {A : Around} {R : Result → Shared → Prop} {s : Shared}
theorem comp_turns {elt tg iter : Expr} {ifs : List Expr} {scope : Scope} {pos : Pos} {it acc : Value} {env : Env} (J : Nat → Shared → Prop)
    (turn : ∀ n s, J n s → wpAny (model prog w) A (pyNext it) (fun r s₁ => (r = none ∧ R (.ok .next) s₁) ∨ ∃ v, r = some v ∧
      wpAny (model prog w) A (letOwnedTupleGo tg it v) (fun _ s₀ => wpAny (model prog w) A (assign tg env v) (fun _ s₂ =>
        wpAny (model prog w) A (forIn ifs true fun c r => if r = true then do let ok ← isTrue c env (eval c env); pure (ForInStep.yield ok) else pure (ForInStep.yield r)) (fun ok s₃ =>
          if ok = true then wpAny (model prog w) A (eval elt env) (fun x s₄ => wpAny (model prog w) A (call (.builtin "list.append") [acc, x]) (fun _ s₅ => ∃ m, m < n ∧ J m s₅) (fun _ _ => False) s₄) (fun _ _ => False) s₃
          else ∃ m, m < n ∧ J m s₃) (fun _ _ => False) s₂) (fun _ _ => False) s₀) (fun _ _ => False) s₁) (fun _ _ => False) s)
    (n : Nat) (h : J n s) : codeAny (model prog w) A (.compLoop (.ListComp elt [⟨tg, iter, ifs, 0⟩] scope pos) 0 it acc env) R s := by
  refine codeAny_loop rfl J (fun n s hI => ?_) n h
  show wpAny _ A ((compTurn (.ListComp elt [⟨tg, iter, ifs, 0⟩] scope pos) 0 it acc env).onRaise (fun x => do noteFrame x env; theTreesLotGoes x)) _ _ s
  refine wpAny_noted ?_
  rw [compTurn_list]
  refine wpAny_bind (wpAny_standAt (wpAny_bind (wpAny_mono (turn n s hI) (fun r s₁ h₁ => ?_) fun _ _ f => f.elim)))
  rcases h₁ with ⟨rfl, h₁⟩ | ⟨v, rfl, h₁⟩
  · exact wpAny_pure h₁
  · refine wpAny_bind (wpAny_mono h₁ (fun _ s₀ h₀ => ?_) fun _ _ f => f.elim)
    refine wpAny_bind (wpAny_mono h₀ (fun _ s₂ h₂ => ?_) fun _ _ f => f.elim)
    refine wpAny_bind (wpAny_mono h₂ (fun ok s₃ h₃ => ?_) fun _ _ f => f.elim)
    cases ok with
    | false => exact wpAny_pure ⟨rfl, h₃⟩
    | true =>
      refine wpAny_bind (wpAny_bind (wpAny_mono h₃ (fun x s₄ h₄ => ?_) fun _ _ f => f.elim))
      exact wpAny_bind (wpAny_mono h₄ (fun _ s₅ h₅ => wpAny_pure (wpAny_pure ⟨rfl, h₅⟩)) fun _ _ f => f.elim)
end

section
variable {X : Cx} {sc scope : Scope} {tgs : List Str} {js : List Nat} {elt tg iter : Expr} {ifs : List Expr} {pos : Pos} {wi : TI} {g : TG} {tt : TT} {te : TE}

theorem lcomp_core (hc : X.calm = true) (hsc : X.env.scope = sc) (ok : CompOk sc scope X.N js)
    (hg : ∀ cl C fp s H pn, PG (cxComp X (capN X.N tgs js) scope cl C fp s H pn) tg g)
    (ht : ∀ cl C fp s H pn, PTs (cxComp X (capN X.N tgs js) scope cl C fp s H pn) ifs tt)
    (he : ∀ cl C fp s H pn, PE (cxComp X (capN X.N tgs js) scope cl C fp s H pn) elt te)
    {pins : List (Addr × Obj)} {σ : St} {H2 : Hp} {s2 : Shared} {it : Addr} {fp : List Addr} {tn : Nat → Heap → Prop} {J : It} {E : Value → Shared → Prop} {RR : Value → Addr → Result → Shared → Prop} {Q : VK}
    (I2 : Inv X pins σ H2 s2) (T : Turn X.prog X.w X.K tg J fp it tn) (st2 : tn 0 s2.heap) (f2 : ∀ b ∈ fp, FpOk X pins H2 b)
    (rd : ∀ p, H2 p = none → ∃ W : Nat → Nat → St → Hp → Prop, (∃ m, W 0 m (csl tgs.length js σ) (upd H2 p (.lst []))) ∧ ∀ i m σ' H', W i m σ' H' →
      (J.stop i H' ∧ Q (.ref p) H') ∨ (J.go i H' ∧ ∃ N : St → Hp → Prop, (∀ σ2 H2, N σ2 H2 → ∃ m', m' < m ∧ W (i + 1) m' σ2 H2) ∧
        ∀ x H2, J.yld i H' x H2 → g x σ' H2 fun σ2 H3 => tt σ2 H3 fun b H4 => if b = true then te σ2 H4 fun v H5 => ∃ acc, H5 p = some (.lst acc) ∧ acc.length < sizeLine ∧ N σ2 (upd H5 p (.lst (acc ++ [v]))) else N σ2 H4))
    (fin : ∀ p C H' s', Inv X pins σ H' s' → (∃ m, s'.heap.Ns C m) → s2.heap.objs.size < C → H' C = none → Q (.ref p) H' → RR (.ref p) C (.ok .next) s') :
    wpAny (model X.prog X.w) X.A (newList []) (fun acc s₃ => wpAny (model X.prog X.w) X.A (newFunctionEnv scope X.env.globals (closL X.env.cells scope.names []) [] X.env.qual none .none (some X.env)) (fun cenv s₄ =>
      codeAny (model X.prog X.w) X.A (.compStart (.ListComp elt [⟨tg, iter, ifs, 0⟩] scope pos) 0 (.ref it) acc { cenv with scope := relabel scope X.env }) (RR acc cenv.locals) s₄) E s₃) E s2 := by
  subst hsc
  refine wpAny_newObj_type (wpAny_newFunctionEnv ok.nocell (by intro y hy; simp at hy) (fun h₁ hns₁ hsb₁ => ?_) ok.kind)
  have I3 : Inv X pins σ (upd H2 s2.heap.objs.size (.lst [])) { s2 with heap := s2.heap.push { cls := .type "list", data := .seq ([] : List Value).toArray } } :=
    I2.lnew (its := []) (ys := []) (t' := s2.toks) .nil (Nat.zero_le _)
  obtain ⟨W, ⟨m0, w0⟩, turn⟩ := rd _ I2.fresh
  generalize hp : s2.heap.objs.size = p at *
  generalize hs3 : ({ s2 with heap := s2.heap.push { cls := .type "list", data := .seq ([] : List Value).toArray } } : Shared) = s3 at I3
  have e3 : s3.heap = s2.heap.push { cls := .type "list", data := .seq ([] : List Value).toArray } := by rw [← hs3]
  have sz3 : s3.heap.objs.size = p + 1 := by rw [e3, Heap.size_push, hp]
  generalize hH3 : upd H2 p (.lst []) = H3 at *
  -- the block's frame
  have hns : h₁.Ns s3.heap.objs.size (fun x => ([] : List (Str × Value)).reverse.lookup x) := by rw [e3]; exact hns₁
  have hsb : Heap.SameBut s3.heap.objs.size (s3.heap.push { cls := .type "dict", data := .dict #[] }) h₁ := by rw [e3]; exact hsb₁
  have old : ∀ b o, s3.heap.get? b = some o → h₁.get? b = some o := fun b o e =>
    (hsb.2 b (Nat.ne_of_lt (Heap.lt_size e))).trans (Heap.get?_push_of_some _ e)
  have frees : ∀ y ∈ scope.names, y.2 = .free → ∃ c, X.env.cells.lookup y.1 = some c := fun y hy hk => I2.ok.has y.1 (ok.frees y hy hk)
  have cellX : ∀ x c, (closL X.env.cells scope.names []).lookup x = some c → X.env.cells.lookup x = some c := closL_sub scope.names [] (fun x c e => by simp at e)
  generalize hcl : closL X.env.cells scope.names [] = cl at *
  have okX : (cxComp X (capN X.N tgs js) scope cl s3.heap.objs.size fp s3 H3 (X.pn ++ pins)).Ok :=
    { mod := I3.ok.mod, kind := ok.kind, glob := I3.ok.glob, blt := I3.ok.blt, above := Nat.le_refl _,
      inj := fun x y c e1 e2 => I3.ok.inj x y c (cellX x c e1) (cellX y c e2),
      has := fun x hk => by
        have hk' : (scope.names.map (relab X.env)).lookup x = some .cell ∨ (scope.names.map (relab X.env)).lookup x = some .free := by
          rw [← relabel_names]; exact hk
        rw [← hcl]
        refine closL_has scope.names [] x frees (.inr ?_)
        rcases hk' with q | q
        · obtain ⟨k0, m, _, e⟩ := relab_lookup X.env x _ _ q
          rcases e with e | ⟨e, _⟩
          · subst e; exact absurd rfl (ok.nocell _ m)
          · subst e; exact m
        · obtain ⟨k0, m, _, e⟩ := relab_lookup X.env x _ _ q
          rcases e with e | ⟨e, z⟩
          · subst e; exact m
          · exact absurd z (fun h => (nomatch h)),
      cab := fun x c e => absurd e Bool.false_ne_true, hd := I3.ok.hd, frames := I3.ok.frames, stk := .inl rfl,
      exf := fun b hb => ⟨Nat.ne_of_lt (by
          obtain ⟨o, ho, _⟩ := T.obj 0 _ st2 b hb
          show b < s3.heap.objs.size
          rw [sz3, ← hp]
          exact Nat.lt_succ_of_lt (Heap.lt_size ho)), fun x c e => (f2 b hb).2.2.2.2.1 x c (cellX x c e)⟩,
      bs := I3.bs, bsz := Nat.le_trans I3.ok.bsz I3.sz,
      noex := fun b o e hb => by
        rcases (f2 b hb).2.2.2.1 with z | z
        · exact I3.ok.noex b o e z
        · exact absurd (Nat.lt_of_lt_of_le (Heap.lt_size e) (Nat.le_trans I3.ok.bsz z)) (Nat.lt_irrefl _),
      exfs := fun b hb hx => by
        rcases List.mem_cons.mp (I3.stkSub b hx) with z | z
        · exact (f2 b hb).2.1 z
        · exact (f2 b hb).2.2.1 z,
      funs := I3.stack, frf := I3.stkFree }
  have I4 : Inv (cxComp X (capN X.N tgs js) scope cl s3.heap.objs.size fp s3 H3 (X.pn ++ pins)) [] (csl tgs.length js σ) H3 { s3 with heap := h₁ } :=
    { ok := okX, os := rfl, bare := I3.bare, base := Un.kept old,
      loc := ⟨_, hns, fun i x v e1 e2 e3 => by
        have e1 : (tgs ++ js.map fun j => X.N.getD j "")[i]? = some x := e1
        have e2 : (List.replicate tgs.length none ++ js.map fun j => (σ[j]?).join)[i]? = some (some v) := e2
        by_cases hi : i < tgs.length
        · rw [List.getElem?_append_left (by rw [List.length_replicate]; exact hi), List.getElem?_replicate, if_pos hi] at e2
          cases e2
        · rw [List.getElem?_append_right (by omega), List.getElem?_map] at e1
          rw [List.getElem?_append_right (by rw [List.length_replicate]; omega), List.length_replicate, List.getElem?_map] at e2
          cases hj : js[i - tgs.length]? with
          | none => rw [hj] at e1; cases e1
          | some j =>
            rw [hj] at e1 e2
            have e1 : X.N.getD j "" = x := Option.some.inj e1
            have e2 : (σ[j]?).join = some v := Option.some.inj e2
            have hjm : j ∈ js := List.mem_of_getElem? hj
            obtain ⟨hfr, hjl⟩ := ok.caps j hjm
            rw [e1] at hfr
            have hNj : X.N[j]? = some x := by
              rw [List.getElem?_eq_getElem hjl]
              rw [List.getD_eq_getElem?_getD, List.getElem?_eq_getElem hjl] at e1
              exact congrArg some e1
            have hσ : σ[j]? = some (some v) := by
              cases q : σ[j]? with
              | none => rw [q] at e2; cases e2
              | some o =>
                rw [q] at e2
                have e2 : o = some v := e2
                rw [e2]
            have hmem : (x, NameKind.free) ∈ scope.names := by
              obtain ⟨l1, l2, h3, _⟩ := List.lookup_eq_some_iff.mp hfr
              rw [h3]; simp
            have hkX := ok.frees _ hmem rfl
            have hvis : Vis X.env.scope x := hkX.elim (fun z => .inr (.inl z)) fun z => .inr (.inr z)
            obtain ⟨m, hn, hl⟩ := I3.loc
            obtain ⟨u, r, lk⟩ := hl j x v hNj hσ hvis
            refine ⟨u, r, .inr ⟨?_, ?_⟩⟩
            · have q := relab_lookup' X.env x scope.names hfr
              rw [← relabel_names] at q
              exact q.symm
            · rcases lk with ⟨k, _⟩ | ⟨_, c, ec, z⟩
              · exfalso
                have k : X.env.scope.names.lookup x = some .local := k
                rcases hkX with q | q <;> (rw [k] at q; cases q)
              · obtain ⟨c', hc'⟩ : ∃ c', cl.lookup x = some c' := by
                  rw [← hcl]
                  exact closL_has scope.names [] x frees (.inr hmem)
                have q := cellX x c' hc'
                rw [ec] at q
                cases q
                obtain ⟨o, ho, hd⟩ := z
                exact ⟨c, hc', o, old _ _ ho, hd⟩⟩,
      cell := fun x c e => by
        obtain ⟨v, o, ho, hd⟩ := I3.cell x c (cellX x c e)
        exact ⟨v, o, old _ _ ho, hd⟩,
      free := I3.fresh,
      freeC := fun x c e => I3.freeC x c (cellX x c e),
      pin := fun q hq => by
        have hq : q ∈ X.pn ++ pins := by simpa using hq
        obtain ⟨e, n, ne, nf, d⟩ := I3.pin q hq
        refine ⟨old _ _ e, n, Nat.ne_of_lt (Heap.lt_size e), fun z => ?_, d⟩
        rcases List.mem_cons.mp (I3.stkSub _ z) with z | z
        · exact ne z
        · exact nf z,
      hok := I3.hok.kept old,
      len := by
        show (List.replicate tgs.length none ++ js.map fun j => (σ[j]?).join).length = (tgs ++ js.map fun j => X.N.getD j "").length
        simp }
  have stat : ∀ {H' : Hp}, (∀ b ∈ fp, H' b = none) → ∀ b ∈ fp, FpOk (cxComp X (capN X.N tgs js) scope cl s3.heap.objs.size fp s3 H3 (X.pn ++ pins)) [] H' b := fun hn b hb =>
    ⟨hn b hb, (okX.exf b hb).1, okX.exfs b hb, .inl hb, (okX.exf b hb).2, fun q hq => by
      have hq : q ∈ X.pn ++ pins := by simpa using hq
      exact (f2 b hb).2.2.2.2.2 q hq⟩
  have fr3 : ∀ b ∈ fp, H3 b = none := fun b hb => by
    obtain ⟨o, ho, _⟩ := T.obj 0 _ st2 b hb
    rw [← hH3, upd_ne (Nat.ne_of_lt (hp ▸ Heap.lt_size ho))]
    exact (f2 b hb).1
  have st4 : tn 0 h₁ := T.keep 0 _ _ st2 fun b hb o e => old b o (by rw [e3]; exact Heap.get?_push_of_some _ e)
  have loop : codeAny (model X.prog X.w) X.A (.compLoop (.ListComp elt [⟨tg, iter, ifs, 0⟩] scope pos) 0 (.ref it) (.ref p) (compEnvC scope cl s3.heap.objs.size X.env)) (RR (.ref p) s3.heap.objs.size) { s3 with heap := h₁ } := by
    refine comp_turns (fun n s' => ∃ i σ' H', Inv (cxComp X (capN X.N tgs js) scope cl s3.heap.objs.size fp s3 H3 (X.pn ++ pins)) [] σ' H' s' ∧ tn i s'.heap ∧ (∀ b ∈ fp, H' b = none) ∧ W i n σ' H') ?_ m0 ⟨0, _, H3, I4, st4, fr3, w0⟩
    rintro n s4 ⟨i, σ4, H4, J4, st4, fr4, w4⟩
    rcases turn i n σ4 H4 w4 with ⟨stop, qn⟩ | ⟨go, N, hN, step⟩
    · refine thn (T.done (cxComp X (capN X.N tgs js) scope cl s3.heap.objs.size fp s3 H3 (X.pn ++ pins)) rfl rfl rfl hc i [] s4 σ4 H4 _ J4 (stat fr4) st4 stop) fun r s5 ⟨hr, J5⟩ => .inl ⟨hr, ?_⟩
      have hX : Inv X pins σ H4 s5 := I3.call' J5.os J5.base J5.hok J5.bare fun b hb => ⟨(f2 b hb).2.2.2.1, (f2 b hb).2.1, (f2 b hb).2.2.2.2.1, (f2 b hb).2.2.2.2.2⟩
      obtain ⟨m, hm, _⟩ := J5.loc
      exact fin p _ H4 s5 hX ⟨m, hm⟩ (by rw [sz3]; exact Nat.lt_succ_self _) J5.free qn
    · refine thn (T.item (cxComp X (capN X.N tgs js) scope cl s3.heap.objs.size fp s3 H3 (X.pn ++ pins)) rfl rfl rfl hc i [] s4 σ4 H4 _ J4 (stat fr4) st4 go) fun r s5 ⟨u, hr, h5⟩ => .inr ⟨u, hr, ?_⟩
      refine thn h5 fun _ s6 ⟨x, H6, J6, r6, y6, st6, fr6⟩ => ?_
      have J6' := J6.pinned (stat fr6) (T.obj _ _ st6)
      refine thn (hg _ _ _ _ _ _ _ s6 σ4 H6 x u _ J6' r6 (step x H6 y6)) fun _ s7 ⟨σ7, H7, J7, q7⟩ => ?_
      refine thn (ht _ _ _ _ _ _ _ s7 σ7 H7 _ J7 q7) fun ok8 s8 ⟨H8, J8, q8⟩ => ?_
      have again : ∀ {s9 : Shared} {H9 : Hp}, Inv (cxComp X (capN X.N tgs js) scope cl s3.heap.objs.size fp s3 H3 (X.pn ++ pins)) ([] ++ pinsAt fp s6.heap) σ7 H9 s9 → N σ7 H9 →
          ∃ m, m < n ∧ ∃ i σ' H', Inv (cxComp X (capN X.N tgs js) scope cl s3.heap.objs.size fp s3 H3 (X.pn ++ pins)) [] σ' H' s9 ∧ tn i s9.heap ∧ (∀ b ∈ fp, H' b = none) ∧ W i m σ' H' := fun {s9 H9} J9 n9 => by
        obtain ⟨m', hm, w9⟩ := hN σ7 H9 n9
        refine ⟨m', hm, i + 1, σ7, H9, J9.unpinned, T.keep _ _ _ st6 fun b hb o e => (J9.pin (b, o) (List.mem_append_right _ (List.mem_append_right _ (mem_pinsAt hb e)))).1, fun b hb => ?_, w9⟩
        obtain ⟨o, e, d⟩ := T.obj _ _ st6 b hb
        exact (J9.pin (b, o) (List.mem_append_right _ (List.mem_append_right _ (mem_pinsAt hb e)))).2.1
      cases ok8 with
      | false => exact again J8 q8
      | true =>
        refine thn (he _ _ _ _ _ _ _ s8 σ7 H8 _ J8 q8) fun y s9 ⟨v, H9, J9, r9, acc, ha, hl, q9⟩ => ?_
        refine thn (mt_append _ s9 σ7 H9 (.ref p) [v] (.ref p) [y] (fun _ H => N σ7 H) J9 rfl (.cons r9 .nil) ⟨p, acc, v, rfl, rfl, ha, hl, q9⟩) fun _ s10 ⟨_, H10, J10, _, q10⟩ => ?_
        exact again J10 q10
  exact codeAny_compStart_list loop (T.self _ 0 _ _ _ st4 loop)

/-- [elt for tg in iter if c] -/
theorem pe_lcomp (sc : Scope) (tgs : List Str) (js : List Nat) (hc : X.calm = true) (hsc : X.env.scope = sc) (ok : CompOk sc scope X.N js) (hi : PI X tg iter wi)
    (hg : ∀ cl C fp s H pn, PG (cxComp X (capN X.N tgs js) scope cl C fp s H pn) tg g)
    (ht : ∀ cl C fp s H pn, PTs (cxComp X (capN X.N tgs js) scope cl C fp s H pn) ifs tt)
    (he : ∀ cl C fp s H pn, PE (cxComp X (capN X.N tgs js) scope cl C fp s H pn) elt te)
    (hs : ∀ x, foldedSetIterable iter X.env x = pure x := by intro _; rfl) :
    PE X (.ListComp elt [⟨tg, iter, ifs, 0⟩] scope pos) (tComp tgs.length js wi g tt te) := by
  intro pins s σ H Q I h
  rw [eval_ListComp]
  have frees : ∀ y ∈ scope.names, y.2 = .free → ∃ c, X.env.cells.lookup y.1 = some c := fun y hy hk => I.ok.has y.1 (by
    have q := ok.frees y hy hk
    rw [← hsc] at q
    exact q)
  refine wpAny_comprehension_free (use := none) rfl hs (closureFor_cells frees) ok.kind ok.locs (thn (hi pins s σ H _ I h) fun v s1 h1 => thn h1 fun itv s2 h2 => ?_)
  obtain ⟨it, fp, tn, J, H2, e, I2, T, st2, f2, rd⟩ := h2
  subst e
  refine lcomp_core hc hsc ok hg ht he I2 T st2 f2 rd (Q := Q) fun p C H' s' I' hm hC hn q => ?_
  obtain ⟨m, hm⟩ := hm
  refine ⟨m, hm, fun h' hs' => ⟨.ref p, H', ?_, rfl, q⟩⟩
  exact I'.turned (t' := s'.toks) (it := C) (fun b o hb e => (hs'.2 b hb).trans e) hn (Nat.ne_of_gt (Nat.lt_trans I2.lt hC)) (.inr (Nat.le_trans I2.sz (Nat.le_of_lt hC))) (fun x c e => by
    obtain ⟨v, o, ho, _⟩ := I2.cell x c e
    exact Nat.ne_of_lt (Nat.lt_trans (Heap.lt_size ho) hC)) fun q hq => Nat.ne_of_lt (Nat.lt_trans (Heap.lt_size (I2.pin q hq).1) hC)

/-- name = [elt for tg in iter if c] -/
theorem ps_setC (sc : Scope) (tgs : List Str) (js : List Nat) {i : Nat} {y : Str} {py spos : Pos} (hN : X.N.Nodup) (hi' : X.N[i]? = some y) (hy : Loc X.env.scope y) (hc : X.calm = true) (hsc : X.env.scope = sc) (ok : CompOk sc scope X.N js) (hi : PI X tg iter wi)
    (hg : ∀ cl C fp s H pn, PG (cxComp X (capN X.N tgs js) scope cl C fp s H pn) tg g)
    (ht : ∀ cl C fp s H pn, PTs (cxComp X (capN X.N tgs js) scope cl C fp s H pn) ifs tt)
    (he : ∀ cl C fp s H pn, PE (cxComp X (capN X.N tgs js) scope cl C fp s H pn) elt te)
    (hsw : swapsWith (.ListComp elt [⟨tg, iter, ifs, 0⟩] scope pos) (some (.Name y py)) spos.line X.env = pure true := by rfl)
    (hs : ∀ x, foldedSetIterable iter X.env x = pure x := by intro _; rfl)
    (hf : X.fn y = true ∨ X.env.scope.names.lookup y = some .local := by first | exact .inl rfl | exact .inr rfl | assumption) :
    PS X (.Assign [.Name y py] (.ListComp elt [⟨tg, iter, ifs, 0⟩] scope pos) spos) (tAsg (tComp tgs.length js wi g tt te) (gName i)) := by
  intro pins s σ H D I h
  have frees : ∀ y ∈ scope.names, y.2 = .free → ∃ c, X.env.cells.lookup y.1 = some c := fun y hy hk => I.ok.has y.1 (by
    have q := ok.frees y hy hk
    rw [← hsc] at q
    exact q)
  rw [exec_Assign_Name_used _ _ _ _ hsw]
  refine wpAny_bind (wpAny_standAt (wpAny_bind ?_))
  show wpAny _ X.A (do let _ ← comprehension (.ListComp elt [⟨tg, iter, ifs, 0⟩] scope pos) scope X.env _ (newList []) false (eval iter X.env) (some (assign (.Name y py) X.env))) _ _ s
  refine wpAny_bind (wpAny_mono (wpAny_comprehension_free (use := some (assign (.Name y py) X.env)) (Q := fun _ s' => SP X pins D .next s') rfl hs (closureFor_cells frees) ok.kind ok.locs
    (thn (hi pins s σ H _ I h) fun v s1 h1 => thn h1 fun itv s2 h2 => ?_)) (fun _ s' hq => wpAny_pure (wpAny_pure hq)) fun _ _ e => e)
  obtain ⟨it, fp, tn, J, H2, e, I2, T, st2, f2, rd⟩ := h2
  subst e
  refine lcomp_core hc hsc ok hg ht he I2 T st2 f2 rd (Q := fun x H1 => gName i x σ H1 D.nx) fun p C H' s' I' hm hC hn q => ?_
  obtain ⟨m, hm⟩ := hm
  have hL : C ≠ X.env.locals := Nat.ne_of_gt (Nat.lt_trans I2.lt hC)
  have hCc : ∀ x c, X.env.cells.lookup x = some c → c ≠ C := fun x c e => by
    obtain ⟨v, o, ho, _⟩ := I2.cell x c e
    exact Nat.ne_of_lt (Nat.lt_trans (Heap.lt_size ho) hC)
  show wpAny _ X.A (assign (.Name y py) X.env (.ref p)) _ _ _
  refine wpAny_assign_Name (store_ok2 I' hN hi' hy (v := .ref p) rfl (fun s'' I'' hch => ?_) hf)
  obtain ⟨a, hsb, ha⟩ := hch
  have hCa : C ≠ a := by
    rcases ha with z | z
    · rw [z]; exact hL
    · exact fun e => hCc y a z e.symm
  refine ⟨m, hm.sameBut hsb hCa, fun h' hs' => ⟨σ.set i (some (.ref p)), H', ?_, q⟩⟩
  exact I''.turned (t' := s''.toks) (it := C) (fun b o hb e => (hs'.2 b hb).trans e) hn hL (.inr (Nat.le_trans I2.sz (Nat.le_of_lt hC))) hCc fun q hq => Nat.ne_of_lt (Nat.lt_trans (Heap.lt_size (I2.pin q hq).1) hC)
end
end L2

end
section
namespace L2
open PySem PySem.Spec PyProof.Rows

/-! ## a def, with defaults or without -/
structure FunV (K : PySem.W.Frag) (x qual : Str) (st : Stmt) (dV : Value) (f : Addr) (fd : FuncData) : Prop where
  ex : ∃ (oc : Value) (od : Option Addr) (kV doc pm : Value) (an : Option Addr) (cdv ct : Value) (osl : Array (Option Value)),
    fd = PySem.W.fnOf x qual (defArgs st) (defBody st) (defScope st) dV kV doc pm an cdv ct ∧ K.lookup f = some ⟨oc, od, .func fd, osl⟩ ∧ PySem.W.codeIn K cdv qual = true
  kp : PySem.W.keepIn K (.ref f) = true

theorem funV_mk {K : PySem.W.Frag} {x qual : Str} {st : Stmt} {f : Addr} {oc : Value} {od an : Option Addr} {osl : Array (Option Value)} {dV kV doc pm cdv ct : Value} (l : K.lookup f = some ⟨oc, od, .func (PySem.W.fnOf x qual (defArgs st) (defBody st) (defScope st) dV kV doc pm an cdv ct), osl⟩)
    (c : PySem.W.codeIn K cdv qual = true) (k : PySem.W.keepIn K (.ref f) = true) : FunV K x qual st dV f (PySem.W.fnOf x qual (defArgs st) (defBody st) (defScope st) dV kV doc pm an cdv ct) := ⟨⟨oc, od, kV, doc, pm, an, cdv, ct, osl, rfl, l, c⟩, k⟩

section
variable {P : Program} {w : World} {K : PySem.W.Frag} {mg : Str → Option Value} {base : Heap}
/-- a def by its body: no exception leaves it -/
theorem FunV.ok {x qual : Str} {st : Stmt} {dV : Value} {f : Addr} {fd : FuncData} {N ps : List Str} {k : Nat} {sp : Sp} (F : FunV K x qual st dV f fd) (S : FnScope N ps (defScope st)) (len : ∀ vs H Q E, sp vs H Q E → vs.length = ps.length)
    (hbody : ∀ (cdv : Value) (A : Around) (outer : List Env) (s : Shared) (H : Hp) (vs : List V) (Q : VK) (E : XK), Room k (A.deeper (envOfC qual (defScope st) s.heap.objs.size f cdv)) → sp vs H Q E →
      ∃ t, PSs (cxOf CX0 P w K mg base N qual (defScope st) f cdv A outer s H E).nox (defBody st) t ∧ t { nx := fun _ H' => Q .non H', rt := Q } (start N vs) H) : FnOk P w K mg base CX0 (k + 1) f fd ps sp := by
  obtain ⟨oc, od, kV, doc, pm, an, cdv, ct, osl, rfl, lk, hcd⟩ := F.ex
  refine fn_of lk hcd S len fun A outer s H vs Q E hr hsp => ?_
  obtain ⟨t, h, q⟩ := hbody cdv A outer s H vs Q E hr hsp
  exact ⟨t, h.nox, q⟩
theorem FunV.binds {x qual : Str} {st : Stmt} {dV : Value} {f : Addr} {fd : FuncData} {ps : List Str} (F : FunV K x qual st dV f fd)
    (h : ∀ (kV doc pm : Value) (an : Option Addr) (cdv ct : Value) (us : List Value), us.length = ps.length → bindArgs (PySem.W.fnOf x qual (defArgs st) (defBody st) (defScope st) dV kV doc pm an cdv ct) ⟨us, []⟩ = pure (ps.zip us)) : Binds K fd ps [] := by
  obtain ⟨oc, od, kV, doc, pm, an, cdv, ct, osl, rfl, lk, hcd⟩ := F.ex
  exact .all (h kV doc pm an cdv ct)

/-- a def of the module under its name, with its promise; dvs: the defaults that fill up -/
structure Has (P : Program) (w : World) (K : PySem.W.Frag) (mg : Str → Option Value) (base : Heap) (k : Nat) (x : Str) (ps : List Str) (dvs : List V) (sp : Sp) : Prop where
  ex : ∃ (f : Addr) (fd : FuncData) (ds : List Value), FnOk P w K mg base CX0 k f fd ps sp ∧ mg x = some (.ref f) ∧ PySem.W.keepIn K (.ref f) = true ∧ Binds K fd ps ds ∧ Vals dvs ds
theorem Has.mono {k k' : Nat} {x : Str} {ps : List Str} {dvs : List V} {sp : Sp} (G : Has P w K mg base k x ps dvs sp) (h : k ≤ k') : Has P w K mg base k' x ps dvs sp := by
  obtain ⟨f, fd, ds, F, r⟩ := G.ex
  exact ⟨f, fd, ds, F.mono h, r⟩
end
theorem pe_fn {X : Cx} {k : Nat} {x : Str} {ps : List Str} {dvs : List V} {sp : Sp} {p pos : Pos} {e : Expr} {es : List Expr} {t : TA} (G : Has X.prog X.w X.K X.mg X.base k x ps dvs sp) (hr : Room k X.A) (ha : PA X (e :: es) t) (hg : Gl X x := by rfl)
    (hdb : (x == ("__debug__" : Str)) = false := by decide) (he : starEach (e :: es) X.env = (false, eval e X.env) :: starEach es X.env := by rfl) (hpl : (backTo pos (starEach es X.env)).any (·.1) = false := by rfl) :
    PE X (.Call (.Name x p) (e :: es) [] pos) (tCall sp dvs E0 t) := by
  obtain ⟨f, fd, ds, F, hm, hk, hb, hd⟩ := G.ex
  exact pe_call F hr hg hm hk hb hd pass0 ha hdb he hpl
theorem pe_fn0 {X : Cx} {k : Nat} {x : Str} {ps : List Str} {dvs : List V} {sp : Sp} {p pos : Pos} (G : Has X.prog X.w X.K X.mg X.base k x ps dvs sp) (hr : Room k X.A) (hg : Gl X x := by rfl)
    (hdb : (x == ("__debug__" : Str)) = false := by decide) : PE X (.Call (.Name x p) [] [] pos) (tCall sp dvs E0 tNil) := by
  obtain ⟨f, fd, ds, F, hm, hk, hb, hd⟩ := G.ex
  exact pe_call0 F hr hg hm hk hb hd pass0 hdb

/-! ## data -/
mutual
/-- v is the data d in H -/
def Rep (H : Hp) : PyData → V → Prop
  | .none, v => v = .non
  | .bool b, v => v = .bl b
  | .int i, v => v = .int i
  | .str x, v => v = .str x
  | .list ds, v => ∃ a vs, v = .ref a ∧ H a = some (.lst vs) ∧ RepAll H ds vs
  | .tuple ds, v => ∃ a vs, v = .ref a ∧ H a = some (.tup vs) ∧ RepAll H ds vs
  | .dict _, _ => False
def RepAll (H : Hp) : List PyData → List V → Prop
  | [], vs => vs = []
  | d :: ds, vs => ∃ v r, vs = v :: r ∧ Rep H d v ∧ RepAll H ds r
end
mutual
/-- no list within -/
def imm : PyData → Bool
  | .none => true
  | .bool _ => true
  | .int _ => true
  | .str _ => true
  | .list _ => false
  | .tuple ds => immAll ds
  | .dict _ => false
def immAll : List PyData → Bool
  | [] => true
  | d :: ds => imm d && immAll ds
end
/-- tuples stay -/
def Tups (H H' : Hp) : Prop := ∀ b xs, H b = some (.tup xs) → H' b = some (.tup xs)
theorem Tups.refl (H : Hp) : Tups H H := fun _ _ h => h
theorem Tups.trans {H H1 H2 : Hp} (a : Tups H H1) (b : Tups H1 H2) : Tups H H2 := fun c xs h => b c xs (a c xs h)
theorem Same.tups {H H' : Hp} (h : Same H H') : Tups H H' := fun b xs e => h b _ e
theorem Tups.upd {H : Hp} {p : Addr} {o : HO} (h : ∀ xs, H p ≠ some (.tup xs)) : Tups H (upd H p o) := fun b xs e => by
  have hb : b ≠ p := fun z => by subst z; exact h xs e
  rw [upd_ne hb]; exact e
theorem Tups.upd_lst {H : Hp} {p : Addr} {o : HO} {xs : List V} (h : H p = some (.lst xs)) : Tups H (L2.upd H p o) := Tups.upd fun ys e => by rw [h] at e; cases e
theorem Tups.upd_new {H : Hp} {p : Addr} {o : HO} (h : H p = none) : Tups H (L2.upd H p o) := Tups.upd fun ys e => by rw [h] at e; cases e
theorem Same.new {H : Hp} {p : Addr} (h : H p = none) (o : HO) : Same H (upd H p o) := fun b u q => by rw [upd_ne (ne_of_none q h)]; exact q
mutual
theorem Rep.same {H H' : Hp} (hs : Same H H') : ∀ {d : PyData} {v : V}, Rep H d v → Rep H' d v
  | .none, _, h => h
  | .bool _, _, h => h
  | .int _, _, h => h
  | .str _, _, h => h
  | .list ds, v, h => by
    obtain ⟨a, vs, e, ha, r⟩ := h
    exact ⟨a, vs, e, hs _ _ ha, RepAll.same hs r⟩
  | .tuple ds, v, h => by
    obtain ⟨a, vs, e, ha, r⟩ := h
    exact ⟨a, vs, e, hs _ _ ha, RepAll.same hs r⟩
  | .dict _, _, h => h
theorem RepAll.same {H H' : Hp} (hs : Same H H') : ∀ {ds : List PyData} {vs : List V}, RepAll H ds vs → RepAll H' ds vs
  | [], _, h => h
  | d :: ds, vs, h => by
    obtain ⟨v, r, e, h1, h2⟩ := h
    exact ⟨v, r, e, Rep.same hs h1, RepAll.same hs h2⟩
end
mutual
theorem Rep.tups {H H' : Hp} (hs : Tups H H') : ∀ {d : PyData} {v : V}, imm d = true → Rep H d v → Rep H' d v
  | .none, _, _, h => h
  | .bool _, _, _, h => h
  | .int _, _, _, h => h
  | .str _, _, _, h => h
  | .list ds, v, i, h => by simp [imm] at i
  | .tuple ds, v, i, h => by
    obtain ⟨a, vs, e, ha, r⟩ := h
    exact ⟨a, vs, e, hs _ _ ha, RepAll.tups hs (by simpa [imm] using i) r⟩
  | .dict _, _, _, h => h
theorem RepAll.tups {H H' : Hp} (hs : Tups H H') : ∀ {ds : List PyData} {vs : List V}, immAll ds = true → RepAll H ds vs → RepAll H' ds vs
  | [], _, _, h => h
  | d :: ds, vs, i, h => by
    obtain ⟨v, r, e, h1, h2⟩ := h
    have i' : imm d = true ∧ immAll ds = true := by simpa [immAll] using i
    exact ⟨v, r, e, Rep.tups hs i'.1 h1, RepAll.tups hs i'.2 h2⟩
end
theorem RepAll.length {H : Hp} : ∀ {ds : List PyData} {vs : List V}, RepAll H ds vs → vs.length = ds.length
  | [], _, h => by rw [show _ = [] from h]; rfl
  | d :: ds, vs, h => by
    obtain ⟨v, r, rfl, _, h2⟩ := h
    simp [RepAll.length h2]
theorem RepAll.append {H : Hp} : ∀ {ds es : List PyData} {vs us : List V}, RepAll H ds vs → RepAll H es us → RepAll H (ds ++ es) (vs ++ us)
  | [], _, _, _, h, h' => by rw [show _ = [] from h]; exact h'
  | d :: ds, es, vs, us, h, h' => by
    obtain ⟨v, r, rfl, h1, h2⟩ := h
    exact ⟨v, r ++ us, rfl, h1, RepAll.append h2 h'⟩
theorem RepAll.get {H : Hp} : ∀ {ds : List PyData} {vs : List V} {i : Nat} {v : V}, RepAll H ds vs → vs[i]? = some v → ∃ d, ds[i]? = some d ∧ Rep H d v
  | [], _, _, _, h, e => by rw [show _ = [] from h] at e; simp at e
  | d :: ds, vs, 0, v, h, e => by
    obtain ⟨v', r, rfl, h1, h2⟩ := h
    simp at e
    subst e
    exact ⟨d, rfl, h1⟩
  | d :: ds, vs, i + 1, v, h, e => by
    obtain ⟨v', r, rfl, h1, h2⟩ := h
    obtain ⟨d', e1, e2⟩ := RepAll.get (i := i) (v := v) h2 (by simpa using e)
    exact ⟨d', by simpa using e1, e2⟩
theorem RepAll.ints (H : Hp) : ∀ ns : List Int, RepAll H (ns.map PyData.int) (ns.map V.int)
  | [] => rfl
  | n :: ns => ⟨_, _, rfl, rfl, RepAll.ints H ns⟩
/-- a tuple of ints -/
abbrev dtup (ns : List Int) : PyData := .tuple (ns.map PyData.int)
theorem imm_ints : ∀ ns : List Int, immAll (ns.map PyData.int) = true
  | [] => rfl
  | n :: ns => by simp [immAll, imm, imm_ints ns]
theorem imm_dtup (ns : List Int) : imm (dtup ns) = true := by simp [dtup, imm, imm_ints]
theorem imm_dtups : ∀ ps : List (List Int), immAll (ps.map dtup) = true
  | [] => rfl
  | p :: ps => by simp [immAll, imm_dtup, imm_dtups ps]

mutual
theorem Rep.reads {X : Cx} {pins : List (Addr × Obj)} {σ : St} {H : Hp} {s : Shared} (I : Inv X pins σ H s) : ∀ (d : PyData) (v : V) (u : Value), Rep H d v → RelV v u → ∃ as, Reads s.heap u d as
  | .none, v, u, h, r => by
    cases (show v = .non from h)
    cases (show u = Value.none from r)
    exact ⟨_, .none⟩
  | .bool b, v, u, h, r => by
    cases (show v = .bl b from h)
    cases (show u = Value.bool b from r)
    exact ⟨_, .bool b⟩
  | .int i, v, u, h, r => by
    cases (show v = .int i from h)
    obtain ⟨t, rfl⟩ := (show ∃ t, u = Value.int i t from r)
    exact ⟨_, .int i t⟩
  | .str x, v, u, h, r => by
    cases (show v = .str x from h)
    obtain ⟨t, rfl⟩ := (show ∃ t, u = Value.str x t from r)
    exact ⟨_, .str x t⟩
  | .list ds, v, u, h, r => by
    obtain ⟨a, vs, rfl, ha, hr⟩ := h
    cases (show u = Value.ref a from r)
    obtain ⟨its, n, rv, e, _⟩ := I.lst ha
    obtain ⟨as, q⟩ := RepAll.reads I ds vs its hr rv
    exact ⟨_, .list e rfl rfl q⟩
  | .tuple ds, v, u, h, r => by
    obtain ⟨a, vs, rfl, ha, hr⟩ := h
    cases (show u = Value.ref a from r)
    obtain ⟨its, rv, ⟨o, e1, e2, n, e3⟩, _⟩ := I.tuple (SqT.of (K := X.K) ha)
    obtain ⟨as, q⟩ := RepAll.reads I ds vs its hr rv
    exact ⟨_, .tuple e1 e2 e3 q⟩
  | .dict _, _, _, h, _ => False.elim h
theorem RepAll.reads {X : Cx} {pins : List (Addr × Obj)} {σ : St} {H : Hp} {s : Shared} (I : Inv X pins σ H s) : ∀ (ds : List PyData) (vs : List V) (us : List Value), RepAll H ds vs → Vals vs us → ∃ as, ReadsAll s.heap us ds as
  | [], vs, us, h, r => by
    cases (show vs = [] from h)
    cases r
    exact ⟨_, .nil⟩
  | d :: ds, vs, us, h, r => by
    obtain ⟨v, vr, rfl, h1, h2⟩ := h
    cases r with
    | cons r1 r2 =>
      obtain ⟨as, q1⟩ := Rep.reads I d v _ h1 r1
      obtain ⟨bs, q2⟩ := RepAll.reads I ds vr _ h2 r2
      exact ⟨_, .cons q1 q2⟩
end

/-! ## == and != of data -/
theorem eqv_int (i j : Int) : PyData.eqv (.int i) (.int j) = (i == j) := by simp [PyData.eqv]
theorem eqvAll_ints : ∀ ns ms : List Int, PyData.eqvAll (ns.map PyData.int) (ms.map PyData.int) = decide (ns = ms)
  | [], [] => by simp [PyData.eqvAll]
  | [], _ :: _ => by simp [PyData.eqvAll]
  | _ :: _, [] => by simp [PyData.eqvAll]
  | n :: ns, m :: ms => by
    simp only [List.map_cons, PyData.eqvAll, eqv_int, eqvAll_ints ns ms]
    by_cases h : n = m
    · subst h; simp
    · simp [h]
section
variable {X : Cx}
def rEqD (g : Bool → Bool) : R2 := fun x y H Q => ∃ da db, Rep H da x ∧ Rep H db y ∧ da.canLay0 = true ∧ db.canLay0 = true ∧ min da.depth db.depth ≤ 60 ∧ Q (.bl (g (PyData.eqv da db))) H
theorem op_eqD (hu : X.A.units + 64 < cLine) : OpR X (compareOp .Eq) (rEqD id) := by
  intro pins s σ H x y v u Q I rx ry h
  obtain ⟨da, db, h1, h2, l1, l2, hd, q⟩ := h
  obtain ⟨as, r1⟩ := Rep.reads I da x v h1 rx
  obtain ⟨bs, r2⟩ := Rep.reads I db y u h2 ry
  exact SeqAt.compareEq_reads r1 r2 l1 l2 (by omega) (fin_bl I q rfl)
theorem op_neD (hu : X.A.units + 64 < cLine) : OpR X (compareOp .NotEq) (rEqD not) := by
  intro pins s σ H x y v u Q I rx ry h
  obtain ⟨da, db, h1, h2, l1, l2, hd, q⟩ := h
  obtain ⟨as, r1⟩ := Rep.reads I da x v h1 rx
  obtain ⟨bs, r2⟩ := Rep.reads I db y u h2 ry
  exact SeqAt.compareNe_reads r1 r2 l1 l2 (by omega) (fin_bl I q rfl)
/-- is True, is False: of a bool -/
theorem op_isB : OpR X (compareOp .Is) (fun x y H Q => ∃ a b, x = .bl a ∧ y = .bl b ∧ Q (.bl (a == b)) H) := by
  intro pins s σ H x y v u Q I rx ry h
  obtain ⟨a, b, rfl, rfl, q⟩ := h
  cases rx
  cases ry
  refine wpAny_is_plain (by cases a <;> cases b <;> rfl) (fin_bl I q ?_)
  cases a <;> cases b <;> rfl

/-! ## isinstance -/
/-- a value's type, by its name -/
def tyName (H : Hp) : V → Option String
  | .non => some "NoneType"
  | .bl _ => some "bool"
  | .int _ => some "int"
  | .str _ => some "str"
  | .ref a => match H a with
    | some (.lst _) => some "list"
    | some (.frz _ (.lst _)) => some "list"
    | some (.tup _) => some "tuple"
    | some (.dK _) => some "dict"
    | some (.dT _) => some "dict"
    | _ => none
  | _ => none
theorem tyName_of {K : PySem.W.Frag} {H : Hp} {x : V} {a : String} (h : tyName H x = some a) : TyOf K H x (.type a) := by
  cases x with
  | non => cases h; exact .non
  | bl b => cases h; exact .bl b
  | int i => cases h; exact .int i
  | str y => cases h; exact .str y
  | byt _ => cases h
  | flt _ => cases h
  | ty _ => cases h
  | ref p =>
    unfold tyName at h
    cases e : H p with
    | none => simp [e] at h
    | some o =>
      cases o with
      | lst xs => simp [e] at h; subst h; exact .lst e
      | tup xs => simp [e] at h; subst h; exact .tup e
      | dK kvs => simp [e] at h; subst h; exact .dK e
      | dT kvs => simp [e] at h; subst h; exact .dT e
      | frz ob q =>
        cases q with
        | lst xs => simp [e] at h; subst h; exact .frz e
        | _ => simp [e] at h
      | _ => simp [e] at h
def subT (a b : String) : Bool := a == b || (a == "bool" && b == "int")
theorem kit_sub (K : PySem.W.Frag) {a b : String} (ha : a ∈ ["NoneType", "bool", "int", "str", "list", "tuple", "dict"]) (hb : b ∈ ["bool", "int", "str", "list", "tuple", "dict"]) : PySem.W.kitOne K (.type a) (.type b) = some (subT a b) := by
  simp only [List.mem_cons, List.not_mem_nil, or_false] at ha hb
  rcases ha with rfl | rfl | rfl | rfl | rfl | rfl | rfl <;> rcases hb with rfl | rfl | rfl | rfl | rfl | rfl <;> rfl
theorem tyName_mem {H : Hp} {x : V} {a : String} (h : tyName H x = some a) : a ∈ ["NoneType", "bool", "int", "str", "list", "tuple", "dict"] := by
  cases x with
  | non => cases h; simp
  | bl b => cases h; simp
  | int i => cases h; simp
  | str y => cases h; simp
  | byt _ => cases h
  | flt _ => cases h
  | ty _ => cases h
  | ref p =>
    unfold tyName at h
    simp only at h
    split at h <;> first | (cases h; simp) | cases h
theorem call_isinst : CallR X (.builtin "isinstance") (fun xs H Q => ∃ x c a, xs = [x, .ty c] ∧ tyName H x = some a ∧ c ∈ ["bool", "int", "str", "list", "tuple", "dict"] ∧ Q (.bl (subT a c)) H) := by
  intro pins s σ H xs us Q I r h
  obtain ⟨x, c, a, rfl, hx, hc, q⟩ := h
  obtain ⟨u, w', rfl, rx, rc⟩ := vals2 r
  cases (show w' = Value.type c from rc)
  exact isinst_ok I rx (tyName_of hx) (kit_sub X.K (tyName_mem hx) hc) fun tk => ⟨.bl (subT a c), H, I.tok tk, rfl, q⟩
end
end L2
namespace L2
open PySem PySem.Spec PyProof.Rows
section
variable {X : Cx} {scope : Scope} {elt tg iter : Expr} {ifs : List Expr} {pos : Pos} {wi : TI} {g : TG} {tt : TT} {te : TE}
end
end L2
namespace L2
open PySem PySem.Spec PyProof.Rows
/-! ## the rules that speak of the written part, it being named -/
section
variable {X : Cx} (K : PySem.W.Frag) (hK : X.K = K)
include hK
end
end L2

end
section
namespace TM
def mx (x : Int) : Int := if 0 < x then x else 0
/-- the product of m - 1, m - 2, .. (k of them), 0 below -/
def prodF (m : Int) : Nat → Int
  | 0 => 1
  | k + 1 => prodF m k * mx (m - 1 - k)


structure Good (m : Nat) (wo : Option Int) (s : Int) (n : Nat) (p : List Int) : Prop where
  len : p.length = n
  head : p.head? = some s
  nd : p.Nodup
  rng : ∀ h ∈ p, 0 ≤ h ∧ h < m ∧ wo ≠ some h
/-- how many follow -/
def left (m : Nat) (wo : Option Int) : Int := match wo with | none => m | some _ => m - 1
end TM

end
section
namespace L2
open PySem PySem.Spec PyProof.Rows
theorem bb_len : bootBuiltins "len" = some (.builtin "len") := by decide +kernel
theorem bb_abs : bootBuiltins "abs" = some (.builtin "abs") := by decide +kernel
theorem bb_max : bootBuiltins "max" = some (.builtin "max") := by decide +kernel
theorem bb_min : bootBuiltins "min" = some (.builtin "min") := by decide +kernel
theorem bb_all : bootBuiltins "all" = some (.builtin "all") := by decide +kernel
theorem bb_isinstance : bootBuiltins "isinstance" = some (.builtin "isinstance") := by decide +kernel
theorem bb_int : bootBuiltins "int" = some (.type "int") := by decide +kernel
theorem bb_bool : bootBuiltins "bool" = some (.type "bool") := by decide +kernel
theorem bb_str : bootBuiltins "str" = some (.type "str") := by decide +kernel
theorem bb_list : bootBuiltins "list" = some (.type "list") := by decide +kernel
theorem bb_tuple : bootBuiltins "tuple" = some (.type "tuple") := by decide +kernel
theorem bb_dict : bootBuiltins "dict" = some (.type "dict") := by decide +kernel

/-! ## promises that many laws want -/
/-- the script's cell: by its place, 0 behind the end -/
def cellZ (ns : List Int) (k : Nat) : Int := match ns[k]? with | some v => v % 10 ^ 64 | none => 0
end L2

end
section
/-! Counting words: plain. -/
namespace R
def rowLe (a b : Int × Int) : Bool := decide (b.2 < a.2 ∨ (a.2 = b.2 ∧ a.1 ≤ b.1))
/-- the rows by their second thing, the greatest first, then by their first -/
def tallyL (rows : List (Int × Int)) : List (Int × Int) := rows.mergeSort rowLe
/-- one more of w, in its place or at the end -/
def bump : List (Int × Int) → Int → List (Int × Int)
  | [], w => [(w, 1)]
  | (k, c) :: r, w => if k = w then (k, c + 1) :: r else (k, c) :: bump r w
def countsFrom (kvs : List (Int × Int)) (ws : List (Option Int)) : List (Int × Int) := ws.foldl (fun a w => match w with | some x => bump a x | none => a) kvs
theorem bump_keys : ∀ (kvs : List (Int × Int)) (w : Int), (bump kvs w).map (·.1) = if w ∈ kvs.map (·.1) then kvs.map (·.1) else kvs.map (·.1) ++ [w]
  | [], w => by simp [bump]
  | (k, c) :: r, w => by
    unfold bump
    by_cases e : k = w
    · subst e; simp
    · have ih := bump_keys r w
      rw [if_neg e]
      simp only [List.map_cons, List.mem_cons, ih]
      by_cases h : w ∈ r.map (·.1)
      · rw [if_pos h, if_pos (.inr h)]
      · rw [if_neg h, if_neg (by rintro (z | z); exact e z.symm; exact h z)]; rfl
theorem bump_nodup {kvs : List (Int × Int)} {w : Int} (h : (kvs.map (·.1)).Nodup) : ((bump kvs w).map (·.1)).Nodup := by
  rw [bump_keys]
  split
  · exact h
  · rename_i n
    rw [List.nodup_append]
    refine ⟨h, by simp, ?_⟩
    intro a ha b hb
    rw [List.mem_singleton] at hb
    subst hb
    intro z
    subst z
    exact n ha
/-- how many of x are told -/
def at0 (kvs : List (Int × Int)) (x : Int) : Int := match kvs.find? (fun r => r.1 == x) with | some r => r.2 | none => 0
theorem at0_bump : ∀ (kvs : List (Int × Int)) (w x : Int), at0 (bump kvs w) x = at0 kvs x + if x = w then 1 else 0
  | [], w, x => by
    unfold bump at0
    by_cases e : w = x
    · subst e; simp
    · have : ¬ x = w := fun z => e z.symm
      simp [e, this]
  | (k, c) :: r, w, x => by
    unfold bump
    have ih := at0_bump r w x
    by_cases e : k = w
    · subst e
      rw [if_pos rfl]
      by_cases z : k = x
      · subst z; simp [at0]
      · have z' : ¬ x = k := fun y => z y.symm
        simp [at0, z, z']
    · rw [if_neg e]
      by_cases z : k = x
      · subst z; simp [at0, e]
      · have h1 : at0 ((k, c) :: bump r w) x = at0 (bump r w) x := by simp [at0, z]
        have h2 : at0 ((k, c) :: r) x = at0 r x := by simp [at0, z]
        rw [h1, h2, ih]
theorem at0_mem {kvs : List (Int × Int)} (nd : (kvs.map (·.1)).Nodup) {x c : Int} (h : (x, c) ∈ kvs) : at0 kvs x = c := by
  induction kvs with
  | nil => cases h
  | cons a r ih =>
    obtain ⟨k, d⟩ := a
    simp only [List.map_cons, List.nodup_cons] at nd
    rcases List.mem_cons.mp h with e | e
    · cases e; simp [at0]
    · have : ¬ k = x := fun z => nd.1 (by rw [z]; exact List.mem_map.mpr ⟨_, e, rfl⟩)
      have h2 : at0 ((k, d) :: r) x = at0 r x := by simp [at0, this]
      rw [h2]; exact ih nd.2 e
theorem countsFrom_nodup : ∀ (ws : List (Option Int)) {kvs : List (Int × Int)}, (kvs.map (·.1)).Nodup → ((countsFrom kvs ws).map (·.1)).Nodup
  | [], _, h => h
  | some w :: ws, kvs, h => countsFrom_nodup ws (bump_nodup (w := w) h)
  | none :: ws, kvs, h => countsFrom_nodup ws h
theorem countsFrom_at : ∀ (ws : List (Option Int)) (kvs : List (Int × Int)) (x : Int), at0 (countsFrom kvs ws) x = at0 kvs x + (ws.count (some x) : Nat)
  | [], kvs, x => by simp [countsFrom]
  | some w :: ws, kvs, x => by
    show at0 (countsFrom (bump kvs w) ws) x = _
    rw [countsFrom_at ws (bump kvs w) x, at0_bump, List.count_cons]
    by_cases e : x = w
    · subst e; simp; omega
    · have : ¬ (w = x) := fun z => e z.symm
      simp [e, this]
  | none :: ws, kvs, x => by
    show at0 (countsFrom kvs ws) x = _
    rw [countsFrom_at ws kvs x, List.count_cons]
    simp
theorem countsFrom_keys : ∀ (ws : List (Option Int)) (kvs : List (Int × Int)) (x : Int), x ∈ (countsFrom kvs ws).map (·.1) ↔ x ∈ kvs.map (·.1) ∨ some x ∈ ws
  | [], kvs, x => by simp [countsFrom]
  | some w :: ws, kvs, x => by
    show x ∈ (countsFrom (bump kvs w) ws).map (·.1) ↔ _
    rw [countsFrom_keys ws (bump kvs w) x, bump_keys]
    by_cases h : w ∈ kvs.map (·.1)
    · rw [if_pos h]
      constructor
      · rintro (z | z)
        · exact .inl z
        · exact .inr (List.mem_cons_of_mem _ z)
      · rintro (z | z)
        · exact .inl z
        · rcases List.mem_cons.mp z with y | y
          · cases y; exact .inl h
          · exact .inr y
    · rw [if_neg h]
      constructor
      · rintro (z | z)
        · rcases List.mem_append.mp z with y | y
          · exact .inl y
          · rw [List.mem_singleton] at y; subst y; exact .inr List.mem_cons_self
        · exact .inr (List.mem_cons_of_mem _ z)
      · rintro (z | z)
        · exact .inl (List.mem_append_left _ z)
        · rcases List.mem_cons.mp z with y | y
          · cases y; exact .inl (List.mem_append_right _ (List.mem_singleton.mpr rfl))
          · exact .inr y
  | none :: ws, kvs, x => by
    show x ∈ (countsFrom kvs ws).map (·.1) ↔ _
    rw [countsFrom_keys ws kvs x]
    simp
/-- the rows of a tally -/
theorem counts_row {ws : List (Option Int)} {x c : Int} : (x, c) ∈ countsFrom [] ws ↔ some x ∈ ws ∧ c = (ws.count (some x) : Nat) := by
  have nd : ((countsFrom [] ws).map (·.1)).Nodup := countsFrom_nodup ws (by simp)
  have at_ := countsFrom_at ws [] x
  have k0 : at0 [] x = 0 := rfl
  rw [k0, Int.zero_add] at at_
  constructor
  · intro h
    have := (countsFrom_keys ws [] x).mp (List.mem_map.mpr ⟨_, h, rfl⟩)
    refine ⟨this.resolve_left (by simp), ?_⟩
    rw [← at_, at0_mem nd h]
  · rintro ⟨h, rfl⟩
    have := (countsFrom_keys ws [] x).mpr (.inr h)
    obtain ⟨⟨y, c⟩, hm, rfl⟩ := List.mem_map.mp this
    have e := at0_mem nd hm
    have : c = (ws.count (some y) : Nat) := by rw [← at_]; exact e.symm
    rw [← this]; exact hm
theorem counts_len (ws : List (Option Int)) : (countsFrom [] ws).length ≤ ws.length := by
  have : ∀ (ws : List (Option Int)) (kvs : List (Int × Int)), (countsFrom kvs ws).length ≤ kvs.length + ws.length := by
    intro ws
    induction ws with
    | nil => intro kvs; simp [countsFrom]
    | cons w ws ih =>
      intro kvs
      cases w with
      | none => have := ih kvs; show (countsFrom kvs ws).length ≤ _; simp; omega
      | some x =>
        have := ih (bump kvs x)
        have hb : (bump kvs x).length ≤ kvs.length + 1 := by
          have := congrArg List.length (bump_keys kvs x)
          simp only [List.length_map] at this
          rw [this]; split <;> simp
        show (countsFrom (bump kvs x) ws).length ≤ _
        simp; omega
  simpa using this ws []
end R

end
section
/-! An interpreter of the written part of Python over plain data: values are trees, mutable objects lie in a list. -/
namespace R
open PySem (Str PyData Operator CmpOp)

inductive D where
  | non | bl (b : Bool) | int (i : Int) | str (x : Str) | tup (ds : List D) | ref (l : Nat)
  /-- a list that is only read: the script -/
  | fix (ds : List D)

/-- a mutable object: a list, a dict, an instance -/
inductive MO where
  | lst (ds : List D) | dic (kvs : List (D × D)) | ins (c : Nat) (fs : List (Str × D))
  /-- a dict whose keys are tuples of whole numbers -/
  | dtp (kvs : List (List Int × D))

/-- frz: what stood at the def's entry; new: what was made since; lk: what a loop walks -/
structure St where
  frz : List MO
  new : List MO
  lk : List Nat

inductive Out (α : Type) where
  | ok (a : α) (S : St)
  | err (d : D) (S : St)
  | bad
def Out.bind {α β : Type} (o : Out α) (f : α → St → Out β) : Out β := match o with
  | .ok a S => f a S
  | .err d S => .err d S
  | .bad => .bad
def lift {α : Type} (S : St) : Option α → Out α
  | some a => .ok a S
  | none => .bad

namespace St
def get (S : St) (l : Nat) : Option MO := if l < S.frz.length then S.frz[l]? else S.new[l - S.frz.length]?
def len (S : St) : Nat := S.frz.length + S.new.length
def push (S : St) (o : MO) : St := { S with new := S.new ++ [o] }
def put (S : St) (l : Nat) (o : MO) : Option St := if l < S.frz.length then none else if S.lk.contains l then none else some { S with new := S.new.set (l - S.frz.length) o }
def enter (S : St) : St := ⟨S.frz ++ S.new, [], []⟩
end St

/-- a new list is laid -/
def lay (S : St) (ds : List D) : Out D := if ds.length ≤ 16777216 then .ok (.ref S.len) (S.push (.lst ds)) else .bad
def wr (S : St) (l : Nat) (ds : List D) (d : D) : Out D := if ds.length ≤ 16777216 then (match S.put l (.lst ds) with | some S' => .ok d S' | none => .bad) else .bad

/-- as data; n: how deep -/
def pd (S : St) : Nat → D → Option PyData
  | _, .non => some .none
  | _, .bl b => some (.bool b)
  | _, .int i => some (.int i)
  | _, .str x => if PySem.PyData.strOk x then some (.str x) else none
  | n + 1, .tup ds => (ds.mapM (pd S n)).map PyData.tuple
  | n + 1, .ref l => match S.get l with
    | some (.lst ds) => (ds.mapM (pd S n)).map PyData.list
    | _ => none
  | _, .fix _ => none
  | 0, _ => none

mutual
/-- refers to nothing from n on -/
def flat (n : Nat) : D → Bool
  | .tup ds => flats n ds
  | .ref l => decide (l < n)
  | .fix ds => flats n ds
  | _ => true
def flats (n : Nat) : List D → Bool
  | [] => true
  | d :: ds => flat n d && flats n ds
end

/-- a list's or a tuple's things -/
def seqOf (S : St) : D → Option (List D)
  | .tup ds => some ds
  | .fix ds => some ds
  | .ref l => match S.get l with
    | some (.lst ds) => some ds
    | _ => none
  | _ => none
def lkOf (S : St) : D → List Nat
  | .ref l => [l]
  | _ => []
def tru (S : St) : D → Option Bool
  | .non => some false
  | .bl b => some b
  | .int i => some (i != 0)
  | .tup ds => some (!ds.isEmpty)
  | .ref l => match S.get l with
    | some (.lst ds) => some (!ds.isEmpty)
    | _ => none
  | _ => none
def tyOf (S : St) : D → Option String
  | .non => some "NoneType"
  | .bl _ => some "bool"
  | .int _ => some "int"
  | .str _ => some "str"
  | .tup _ => some "tuple"
  | .ref l => match S.get l with
    | some (.lst _) => some "list"
    | some (.dic _) => some "dict"
    | some (.dtp _) => some "dict"
    | _ => none
  | .fix _ => none
def ixN (n : Nat) (i : Int) : Option Nat := if 0 ≤ i then (if i < n then some i.toNat else none) else if -(n : Int) ≤ i then some (i + n).toNat else none
def atI {α : Type} (xs : List α) (i : Int) : Option α := (ixN xs.length i).bind fun j => xs[j]?
def sIx (n d : Nat) : Option Int → Nat
  | none => d
  | some i => if i < 0 then (i + n).toNat else min i.toNat n

def intOf : D → Option Int
  | .int i => some i
  | _ => none

def mulOk (i j : Int) : Bool := decide (-(2 ^ 64) < i ∧ i < 2 ^ 64) || decide (-(2 ^ 64) < j ∧ j < 2 ^ 64)
def binI (S : St) (op : Operator) (i j : Int) : Out D := match op with
  | .Add => .ok (.int (i + j)) S
  | .Sub => .ok (.int (i - j)) S
  | .Mult => if mulOk i j then .ok (.int (i * j)) S else .bad
  | .FloorDiv => if 0 < j ∧ j < 1073741824 then .ok (.int (i / j)) S else .bad
  | .Mod => if 0 < j then .ok (.int (i % j)) S else .bad
  | .Pow => if 0 ≤ j ∧ j ≤ 1000000 ∧ -18446744073709551616 < i ∧ i < 18446744073709551616 then .ok (.int (i ^ j.toNat)) S else .bad
  | _ => .bad
def binD (S : St) (op : Operator) (x y : D) : Out D := match x, y with
  | .int i, .int j => binI S op i j
  | .tup xs, .tup ys => (match op with | .Add => if xs.length + ys.length ≤ 16777216 then .ok (.tup (xs ++ ys)) S else .bad | _ => .bad)
  | .ref a, .ref b => (match op, S.get a, S.get b with | .Add, some (.lst xs), some (.lst ys) => lay S (xs ++ ys) | _, _, _ => .bad)
  | _, _ => .bad

/-- equality as data -/
def eqD (S : St) (x y : D) : Option Bool := (pd S 60 x).bind fun a => (pd S 60 y).map fun b => PyData.eqv a b
/-- x among ys -/
def inD (S : St) (x : D) (ys : List D) : Option Bool := (ys.mapM fun z => eqD S z x).map fun bs => bs.any id

def lexLt : List Int → List Int → Bool
  | [], [] => false
  | [], _ :: _ => true
  | _ :: _, [] => false
  | a :: as, b :: bs => if a = b then lexLt as bs else decide (a < b)
def intsOf (ds : List D) : Option (List Int) := ds.mapM intOf

def cmpI (op : CmpOp) (i j : Int) : Option Bool := match op with
  | .Eq => some (decide (i = j))
  | .NotEq => some (!decide (i = j))
  | .Lt => some (decide (i < j))
  | .LtE => some (decide (i ≤ j))
  | .Gt => some (decide (j < i))
  | .GtE => some (decide (j ≤ i))
  | _ => none
def isNon : D → Bool | .non => true | _ => false
def wordOf : D → Option (Option Int)
  | .non => some none
  | .int i => some (some i)
  | _ => none
/-- a dict by tuples -/
def dKvs (S : St) : D → Option (List (List Int × D))
  | .ref l => (match S.get l with | some (.dtp kvs) => some kvs | _ => none)
  | _ => none
def wordsK (kvs : List (List Int × D)) : Option (List (List Int × Option Int)) := kvs.mapM fun kv => (wordOf kv.2).map fun w => (kv.1, w)
/-- two dicts of words that have the same pairs in the same order -/
def eqK (a b : List (List Int × D)) : Option Bool := (wordsK a).bind fun x => (wordsK b).bind fun y => if x = y then some true else none
def eqAny (S : St) (x y : D) : Option Bool := match dKvs S x, dKvs S y with
  | some a, some b => eqK a b
  | _, _ => eqD S x y
def keyOf : D → Option (List Int)
  | .tup ds => intsOf ds
  | _ => none
def valP (kvs : List (List Int × D)) (k : List Int) : Option D := (kvs.find? fun kv => decide (kv.1 = k)).map (·.2)
def inAny (S : St) (x y : D) : Option Bool := match dKvs S y with
  | some kvs => (keyOf x).map fun k => (valP kvs k).isSome
  | none => (seqOf S y).bind fun ys => inD S x ys
def cmpO (S : St) (op : CmpOp) (x y : D) : Option Bool := match op with
  | .Eq => eqAny S x y
  | .NotEq => (eqAny S x y).map (!·)
  | .Is => (match y with | .non => some (isNon x) | .bl b => (match x with | .bl a => some (a == b) | _ => none) | _ => none)
  | .IsNot => (match y with | .non => some (!isNon x) | _ => none)
  | .In => inAny S x y
  | .NotIn => (inAny S x y).map (!·)
  | .Lt => (match x, y with | .tup xs, .tup ys => (intsOf xs).bind fun a => (intsOf ys).map fun b => lexLt a b | _, _ => none)
  | _ => none
def cmpD (S : St) (op : CmpOp) (x y : D) : Option Bool := match x, y with
  | .int i, .int j => cmpI op i j
  | _, _ => cmpO S op x y

/-- the built-ins and methods that take values -/
inductive Bi where
  | len | abs | max2 | min2 | isin (t : String)
def wordsOf (ds : List D) : Option (List (Option Int)) := ds.mapM wordOf
/-- methods of lists -/
inductive Mt where
  | append | popAt | count

def bi (S : St) : Bi → List D → Out D
  | .len, [x] => (match x with
    | .tup ds => .ok (.int ds.length) S
    | .fix ds => .ok (.int ds.length) S
    | .ref l => (match S.get l with | some (.lst ds) => .ok (.int ds.length) S | some (.dic kvs) => .ok (.int kvs.length) S | _ => .bad)
    | _ => .bad)
  | .abs, [.int i] => .ok (.int (if i < 0 then -i else i)) S
  | .max2, [.int i, .int j] => .ok (.int (if j > i then j else i)) S
  | .min2, [.int i, .int j] => .ok (.int (if j < i then j else i)) S
  | .isin t, [x] => (match tyOf S x with | some a => .ok (.bl (a == t || (a == "bool" && t == "int"))) S | none => .bad)
  | _, _ => .bad
/-- is it a list of ours? -/
def isL (S : St) : D → Bool
  | .ref l => (match S.get l with | some (.lst _) => true | _ => false)
  | _ => false
def mt (S : St) : Mt → D → List D → Out D
  | .append, .ref l, [y] => (match S.get l with | some (.lst ds) => wr S l (ds ++ [y]) .non | _ => .bad)
  | .popAt, .ref l, [.int i] => (match S.get l with
    | some (.lst ds) => if 0 ≤ i then (match ds[i.toNat]? with | some y => wr S l (ds.eraseIdx i.toNat) y | none => .bad) else .bad
    | _ => .bad)
  | .count, .ref l, [.int i] => (match S.get l with
    | some (.lst ds) => (match wordsOf ds with | some os => .ok (.int (os.count (some i) : Nat)) S | none => .bad)
    | _ => .bad)
  | _, _, _ => .bad

/-! dicts by tuples -/
/-- in its place, or at the end -/
def putP : List (List Int × D) → List Int → D → List (List Int × D)
  | [], k, v => [(k, v)]
  | (j, d) :: r, k, v => if j = k then (j, v) :: r else (j, d) :: putP r k v
def isDt (S : St) : D → Bool
  | .ref l => (match S.get l with | some (.dtp _) => true | _ => false)
  | _ => false
def dGet (S : St) (x y : D) : Option (Option D) := match x with
  | .ref l => (match S.get l with | some (.dtp kvs) => (keyOf y).map fun k => valP kvs k | _ => none)
  | _ => none
def dPut (S : St) (x y v : D) : Option St := match x with
  | .ref l => (match S.get l with
    | some (.dtp kvs) => (keyOf y).bind fun k => if kvs.length < 16777216 then S.put l (.dtp (putP kvs k v)) else none
    | _ => none)
  | _ => none

/-- by the hash of the tuple of whole numbers -/
def hashP (k : List Int) : Int := PySem.reduceHash (PySem.Builtin.Tuple.tupleHashOf (k.map PySem.hashInt))
/-- no two keys have one hash -/
def hashOk (kvs : List (List Int × D)) : Bool := decide ((kvs.map fun kv => hashP kv.1).Nodup)
def dropP (kvs : List (List Int × D)) (k : List Int) : List (List Int × D) := kvs.filter fun kv => !decide (kv.1 = k)
def dDel (S : St) (x y : D) : Option (D × St) := match x with
  | .ref l => (match S.get l with
    | some (.dtp kvs) => (keyOf y).bind fun k => (valP kvs k).bind fun v => (S.put l (.dtp (dropP kvs k))).map fun S' => (v, S')
    | _ => none)
  | _ => none

mutual
inductive CE where
  | loc (i : Nat) | con (d : D)
  /-- a value as a test -/
  | tst (a : CE)
  | bin (op : Operator) (a b : CE) | neg (a : CE) | nt (a : CE)
  | cmp (op : CmpOp) (a b : CE)
  | and (a b : CE) | or (a b : CE) | ite (c a b : CE)
  | tup (es : CEs) | lst (es : CEs) | dnew | dnewT | dget1 (a b : CE) | dcopy (a : CE) | dix (a b : CE) | dpop (a b : CE)
  | ix (a b : CE)
  /-- a[lo:hi]; ml, mh: it is written -/
 
  | call (f j : Nat) (es : CEs) | bi (b : Bi) (es : CEs) | mt (m : Mt) (o : CE) (es : CEs)
  /-- a list, a tuple made of what is walked; all(..); x.extend(..); len(set(..)) -/
  | mkL (l : CL) | mkT (l : CL) | all (l : CL)
inductive CEs where
  | nil | cons (e : CE) (r : CEs)
/-- what is walked -/
inductive CL where
  | val (e : CE) | rng1 (a : CE)
  | comp (nt : Nat) (js : List Nat) (g : List Nat) (it : CL) (c : CE) (e : CE)
end
inductive CS where
  | nil | asg (i : Nat) (e : CE) (r : CS) | setIx (a b e : CE) (r : CS) | whl (c : CE) (b : CS) (r : CS)
  | ifS (c : CE) (t u : CS) (r : CS) | forS (g : List Nat) (l : CL) (b : CS) (r : CS) | ret (e : CE) (r : CS) | expr (e : CE) (r : CS)

abbrev Ev := List (Option D)
/-- a target: one name, or several (a tuple) -/
def asgAll : List Nat → List D → Ev → Ev
  | i :: is, d :: ds, δ => asgAll is ds (δ.set i (some d))
  | _, _, δ => δ
def asgG (g : List Nat) (x : D) (δ : Ev) : Option Ev := match g with
  | [i] => some (δ.set i (some x))
  | is => (match x with | .tup ds => if ds.length = is.length then some (asgAll is ds δ) else none | _ => none)

/-- what a call hands back: the value and the state of the callee -/
abbrev CF := Nat → List D → St → Out D

/-- a def that only reads is left: what it made is dropped, but for a list that it hands back -/
def leave (S : St) (d : D) (T : St) : Out D :=
  if flat S.len d then .ok d S else
  let keep : Out D := .ok d ⟨S.frz, S.new ++ T.new, S.lk⟩
  match d with
    | .ref l => (match T.get l with
      | some (.lst ds) => if flats S.len ds then .ok (.ref S.len) (S.push (.lst ds)) else keep
      | some (.dic kvs) => if flats S.len (kvs.map (·.1)) && flats S.len (kvs.map (·.2)) then .ok (.ref S.len) (S.push (.dic kvs)) else keep
      | some (.dtp kvs) => if flats S.len (kvs.map (·.2)) then .ok (.ref S.len) (S.push (.dtp kvs)) else keep
      | _ => keep)
    | _ => keep
def leaveL (S : St) (d : D) (T : St) : Out (List D) := match d with
    | .ref l => if l < S.len then .bad else (match T.get l with | some (.lst ds) => if flats S.len ds then .ok ds S else .bad | _ => .bad)
    | _ => .bad

/-- a call, as a value; as a list that is walked at once -/
@[irreducible] def app (cf : CF) (f : Nat) (ds : List D) (S : St) : Out D := (cf f ds S.enter).bind fun d T => leave S d T
@[irreducible] def appL (cf : CF) (f : Nat) (ds : List D) (S : St) : Out (List D) := (cf f ds S.enter).bind fun d T => leaveL S d T
/-- a call that may write: all stays -/
@[irreducible] def appW (cf : CF) (f : Nat) (ds : List D) (S : St) : Out D := cf f ds S

def csl (nt : Nat) (js : List Nat) (δ : Ev) : Ev := List.replicate nt none ++ js.map fun j => (δ[j]?).join

/-- the turns of a comprehension: the test, the thing -/
def turnsC (g : List Nat) (c : Ev → St → Out Bool) (e : Ev → St → Out D) : List D → Ev → St → Out (List D)
  | [], _, S => .ok [] S
  | x :: xs, δ, S => match asgG g x δ with
    | none => .bad
    | some δ' => (c δ' S).bind fun b S1 => if b then (e δ' S1).bind fun d S2 => (turnsC g c e xs δ' S2).bind fun ds S3 => .ok (d :: ds) S3 else turnsC g c e xs δ' S1

def locked {α : Type} (ls : List Nat) (S : St) (f : St → Out α) : Out α :=
  (f { S with lk := ls ++ S.lk }).bind fun a S' => .ok a { S' with lk := S.lk }

def boolOf : D → Option Bool
  | .bl b => some b
  | _ => none
def allD (ds : List D) : Option Bool := (ds.mapM boolOf).map fun bs => bs.all id

section
variable (cf : CF)
mutual
def evE : CE → Ev → St → Out D
  | .loc i, δ, S => lift S (δ[i]?).join
  | .con d, _, S => .ok d S
  | .tst _, _, _ => .bad
  | .bin op a b, δ, S => (evE a δ S).bind fun x S1 => (evE b δ S1).bind fun y S2 => binD S2 op x y
  | .neg a, δ, S => (evE a δ S).bind fun x S1 => match x with | .int i => .ok (.int (-i)) S1 | _ => .bad
  | .nt a, δ, S => (evE a δ S).bind fun x S1 => match x with | .bl b => .ok (.bl (!b)) S1 | _ => .bad
  | .cmp op a b, δ, S => (evE a δ S).bind fun x S1 => (evE b δ S1).bind fun y S2 => (lift S2 (cmpD S2 op x y)).bind fun k S3 => .ok (.bl k) S3
  | .and a b, δ, S => (evE a δ S).bind fun x S1 => match x with | .bl k => if k then evE b δ S1 else .ok (.bl false) S1 | _ => .bad
  | .or a b, δ, S => (evE a δ S).bind fun x S1 => match x with | .bl k => if k then .ok (.bl true) S1 else evE b δ S1 | _ => .bad
  | .ite c a b, δ, S => (evT c δ S).bind fun k S1 => if k then evE a δ S1 else evE b δ S1
  | .tup es, δ, S => (evEs es δ S).bind fun ds S1 => if ds.length ≤ 16777216 then .ok (.tup ds) S1 else .bad
  | .lst es, δ, S => (evEs es δ S).bind fun ds S1 => lay S1 ds
  | .dnew, _, S => .ok (.ref S.len) (S.push (.dic []))
  | .dnewT, _, S => .ok (.ref S.len) (S.push (.dtp []))
  | .dget1 a b, δ, S => (evE a δ S).bind fun x S1 => if isDt S1 x then (evE b δ S1).bind fun y S2 => (lift S2 (dGet S2 x y)).bind fun o S3 => .ok (o.getD .non) S3 else .bad
  | .dcopy a, δ, S => (evE a δ S).bind fun x S1 => match dKvs S1 x with | some kvs => if hashOk kvs then .ok (.ref S1.len) (S1.push (.dtp kvs)) else .bad | none => .bad
  | .dix a b, δ, S => (evE a δ S).bind fun x S1 => (evE b δ S1).bind fun y S2 => (lift S2 ((dGet S2 x y).bind id))
  | .dpop a b, δ, S => (evE a δ S).bind fun x S1 => if isDt S1 x then (evE b δ S1).bind fun y S2 => (lift S2 (dDel S2 x y)).bind fun o _ => .ok o.1 o.2 else .bad
  | .ix a b, δ, S => (evE a δ S).bind fun x S1 => (evE b δ S1).bind fun y S2 => match seqOf S2 x, y with | some ds, .int i => lift S2 (atI ds i) | _, _ => .bad
  | .call f j es, δ, S => (evEs es δ S).bind fun ds S1 => app cf f (ds ++ List.replicate j .non) S1
  | .bi b es, δ, S => (evEs es δ S).bind fun ds S1 => R.bi S1 b ds
  | .mt m o es, δ, S => (evE o δ S).bind fun x S1 => if isL S1 x then (evEs es δ S1).bind fun ds S2 => R.mt S2 m x ds else .bad
  | .mkL l, δ, S => (evL l δ S).bind fun r S1 => lay S1 r.1
  | .mkT l, δ, S => (evL l δ S).bind fun r S1 => if r.1.length ≤ 16777216 then .ok (.tup r.1) S1 else .bad
  | .all l, δ, S => (evL l δ S).bind fun r S1 => (lift S1 (allD r.1)).bind fun b S2 => .ok (.bl b) S2
def evEs : CEs → Ev → St → Out (List D)
  | .nil, _, S => .ok [] S
  | .cons e r, δ, S => (evE e δ S).bind fun d S1 => (evEs r δ S1).bind fun ds S2 => .ok (d :: ds) S2
def evT : CE → Ev → St → Out Bool
  | .cmp op a b, δ, S => (evE a δ S).bind fun x S1 => (evE b δ S1).bind fun y S2 => lift S2 (cmpD S2 op x y)
  | .nt a, δ, S => (evT a δ S).bind fun k S1 => .ok (!k) S1
  | .and a b, δ, S => (evT a δ S).bind fun k S1 => if k then evT b δ S1 else .ok false S1
  | .or a b, δ, S => (evT a δ S).bind fun k S1 => if k then .ok true S1 else evT b δ S1
  | .tst e, δ, S => (evE e δ S).bind fun x S1 => lift S1 (tru S1 x)
  | _, _, _ => .bad
/-- what is walked, and which objects must stay meanwhile -/
def evL : CL → Ev → St → Out (List D × List Nat)
  | .val e, δ, S => (evE e δ S).bind fun x S1 => (lift S1 (seqOf S1 x)).bind fun ds S2 => .ok (ds, lkOf S2 x) S2
  | .rng1 a, δ, S => (evE a δ S).bind fun x S1 => match x with | .int j => if -(2 ^ 62) ≤ j ∧ j < 2 ^ 62 then .ok ((List.range j.toNat).map fun (k : Nat) => .int k, []) S1 else .bad | _ => .bad
  | .comp n js g it c e, δ, S => (evL it δ S).bind fun r S1 => (locked r.2 S1 fun S2 => turnsC g (evT c) (evE e) r.1 (csl n js δ) S2).bind fun ds S3 => if ds.length ≤ 16777216 then .ok (ds, []) S3 else .bad
end
inductive Fl where
  | nx (δ : Ev) | rt (d : D)
def turnsF (g : List Nat) (b : Ev → St → Out Fl) : List D → Ev → St → Out Fl
  | [], δ, S => .ok (.nx δ) S
  | x :: xs, δ, S => match asgG g x δ with
    | none => .bad
    | some δ' => (b δ' S).bind fun f S1 => match f with
      | .nx δ2 => turnsF g b xs δ2 S1
      | .rt d => .ok (.rt d) S1
def turnsW (c : Ev → St → Out Bool) (b : Ev → St → Out Fl) : Nat → Ev → St → Out Fl
  | 0, _, _ => .bad
  | n + 1, δ, S => (c δ S).bind fun k S1 => if k then (b δ S1).bind fun f S2 => (match f with
      | .nx δ2 => turnsW c b n δ2 S2
      | .rt d => .ok (.rt d) S2) else .ok (.nx δ) S1
def exS : CS → Ev → St → Out Fl
  | .nil, δ, S => .ok (.nx δ) S
  | .asg i e r, δ, S => (evE cf e δ S).bind fun x S1 => exS r (δ.set i (some x)) S1
  | .setIx a b e r, δ, S => (evE cf e δ S).bind fun v S1 => (evE cf a δ S1).bind fun x S2 => (evE cf b δ S2).bind fun y S3 => match dPut S3 x y v with | some S4 => exS r δ S4 | none => .bad
  | .whl c b r, δ, S => (turnsW (evT cf c) (exS b) 100000 δ S).bind fun f S2 => match f with
      | .nx δ' => exS r δ' S2
      | .rt d => .ok (.rt d) S2
  | .ifS c t u r, δ, S => (evT cf c δ S).bind fun k S1 => (if k then exS t δ S1 else exS u δ S1).bind fun f S2 => match f with
      | .nx δ' => exS r δ' S2
      | .rt d => .ok (.rt d) S2
  | .forS g l b r, δ, S => (evL cf l δ S).bind fun q S1 => (locked q.2 S1 fun S2 => turnsF g (exS b) q.1 δ S2).bind fun f S3 => match f with
      | .nx δ' => exS r δ' S3
      | .rt d => .ok (.rt d) S3
  | .ret e _, δ, S => (evE cf e δ S).bind fun x S1 => .ok (.rt x) S1
  | .expr e r, δ, S => (evE cf e δ S).bind fun _ S1 => exS r δ S1
end

/-- defs that are not walked but taken as a whole: tally -/
inductive Prim where
  | tally
def rowD (r : Int × Int) : D := .tup [.int r.1, .int r.2]
def talD (os : List (Option Int)) : List D := (tallyL (countsFrom [] os)).map rowD
def prm (S : St) : Prim → List D → Out D
  | .tally, [.ref l] => (match S.get l with
    | some (.lst ws) => (match wordsOf ws with
      | some os => if (countsFrom [] os).length < 64 ∧ os.length ≤ 16777216 then .ok (.ref S.len) (S.push (.lst (talD os))) else .bad
      | none => .bad)
    | _ => .bad)
  | _, _ => .bad
/-- a def: its number of parameters and of names, its body -/
structure Fn where
  np : Nat
  nn : Nat
  body : CS
  prim : Option Prim
def startE (F : Fn) (ds : List D) : Ev := ds.map some ++ List.replicate (F.nn - F.np) none
def callF (P : List Fn) : Nat → CF
  | 0, _, _, _ => .bad
  | n + 1, f, ds, S => match P[f]? with
    | some F => if ds.length = F.np then (match F.prim with
        | some p => if 3 ≤ n then prm S p ds else .bad
        | none => (exS (callF P n) F.body (startE F ds) S).bind fun r T => match r with
          | .nx _ => .ok .non T
          | .rt d => .ok d T)
      else .bad
    | none => .bad
end R

end
section
namespace R
open PySem (Str PyData Operator CmpOp)
@[simp] theorem bind_ok {α β : Type} (a : α) (S : St) (f : α → St → Out β) : (Out.ok a S).bind f = f a S := rfl
@[simp] theorem bind_bad {α β : Type} (f : α → St → Out β) : (Out.bad : Out α).bind f = .bad := rfl
@[simp] theorem bind_err {α β : Type} (d : D) (S : St) (f : α → St → Out β) : (Out.err d S : Out α).bind f = .err d S := rfl
@[simp] theorem lift_some {α : Type} (S : St) (a : α) : lift S (some a) = .ok a S := rfl
theorem get_enter (S : St) : S.enter.get = S.get := by
  funext l
  simp only [St.get, St.enter, List.length_append, List.getElem?_append]
  by_cases h : l < S.frz.length
  · simp [h, Nat.lt_of_lt_of_le h (Nat.le_add_right _ _)]
  · simp only [h, if_false]
    split
    · rfl
    · simp only [List.getElem?_nil]
      exact (List.getElem?_eq_none (by omega)).symm
@[simp] theorem enter_frz (S : St) : S.enter.frz = S.frz ++ S.new := rfl
@[simp] theorem enter_new (S : St) : S.enter.new = [] := rfl
@[simp] theorem enter_lk (S : St) : S.enter.lk = [] := rfl
@[simp] theorem enter_len (S : St) : S.enter.len = S.len := by simp [St.len]
theorem len_def (S : St) : (S.frz ++ S.new).length = S.len := by simp [St.len]
/-- what stood stands -/
theorem get_lt {S : St} {l : Nat} {o : MO} (h : S.get l = some o) : l < S.len := by
  unfold St.get at h
  unfold St.len
  split at h
  · omega
  · have := (List.getElem?_eq_some_iff.mp h).1
    omega
theorem get_old {S : St} {l : Nat} {o : MO} (h : S.get l = some o) (nw : List MO) (lk : List Nat) : (St.mk (S.frz ++ S.new) nw lk).get l = some o := by
  have hl := get_lt h
  rw [← get_enter] at h
  unfold St.get at h ⊢
  have e : l < (S.frz ++ S.new).length := by rw [len_def]; exact hl
  simp only [enter_frz, e, if_true] at h ⊢
  exact h
theorem get_new (F nw : List MO) (lk : List Nat) (i : Nat) : (St.mk F nw lk).get (F.length + i) = nw[i]? := by
  have : ¬ F.length + i < F.length := by omega
  simp [St.get, this]
theorem get_new0 (F nw : List MO) (lk : List Nat) : (St.mk F nw lk).get F.length = nw[0]? := get_new F nw lk 0
@[simp] theorem flat_non (n : Nat) : flat n .non = true := by simp [flat]
@[simp] theorem flat_bl (n : Nat) (b : Bool) : flat n (.bl b) = true := by simp [flat]
@[simp] theorem flat_int (n : Nat) (i : Int) : flat n (.int i) = true := by simp [flat]
@[simp] theorem flat_str (n : Nat) (x : Str) : flat n (.str x) = true := by simp [flat]
@[simp] theorem flat_tup (n : Nat) (ds : List D) : flat n (.tup ds) = flats n ds := by simp [flat]
@[simp] theorem flat_fix (n : Nat) (ds : List D) : flat n (.fix ds) = flats n ds := by simp [flat]
@[simp] theorem flats_nil (n : Nat) : flats n [] = true := by simp [flats]
@[simp] theorem flats_cons (n : Nat) (d : D) (ds : List D) : flats n (d :: ds) = (flat n d && flats n ds) := by simp [flats]
@[simp] theorem flats_append (n : Nat) : ∀ ds es : List D, flats n (ds ++ es) = (flats n ds && flats n es)
  | [], es => by simp
  | d :: ds, es => by simp [flats_append n ds es, Bool.and_assoc]
theorem flats_iff (n : Nat) : ∀ ds : List D, flats n ds = true ↔ ∀ d ∈ ds, flat n d = true
  | [] => by simp
  | d :: ds => by simp [flats_iff n ds]
@[simp] theorem flats_ints (n : Nat) (ns : List Int) : flats n (ns.map D.int) = true := by rw [flats_iff]; simp
@[simp] theorem leave_flat (S : St) (d : D) (T : St) (h : flat S.len d = true) : leave S d T = .ok d S := by simp [leave, h]

/-! ### what is wanted of an outcome -/
def W {α : Type} (o : Out α) (Q : α → St → Prop) : Prop := match o with
  | .ok a S => Q a S
  | _ => False
@[simp] theorem W_ok {α : Type} (a : α) (S : St) (Q : α → St → Prop) : W (.ok a S) Q = Q a S := rfl
@[simp] theorem W_bad {α : Type} (Q : α → St → Prop) : W (.bad : Out α) Q = False := rfl
@[simp] theorem W_err {α : Type} (d : D) (S : St) (Q : α → St → Prop) : W (.err d S : Out α) Q = False := rfl
@[simp] theorem W_bind {α β : Type} (o : Out α) (f : α → St → Out β) (Q : β → St → Prop) : W (o.bind f) Q = W o fun a S => W (f a S) Q := by
  cases o <;> rfl
theorem W.mono {α : Type} {o : Out α} {Q Q' : α → St → Prop} (h : W o Q) (hq : ∀ a S, Q a S → Q' a S) : W o Q' := by
  cases o with
  | ok a S => exact hq a S h
  | err d S => exact h
  | bad => exact h
theorem W.eq {α : Type} {o : Out α} {d : α} {S : St} (h : W o fun a T => a = d ∧ T = S) : o = .ok d S := by
  cases o with
  | ok a T => obtain ⟨rfl, rfl⟩ := h; rfl
  | err d S => exact False.elim h
  | bad => exact False.elim h
theorem W.of {α : Type} {o : Out α} {d : α} {S : St} {Q : α → St → Prop} (h : o = .ok d S) (q : Q d S) : W o Q := by rw [h]; exact q
theorem W.iff {α : Type} {o : Out α} {Q : α → St → Prop} : W o Q ↔ ∃ a S, o = .ok a S ∧ Q a S := by
  cases o with
  | ok a S => exact ⟨fun h => ⟨a, S, rfl, h⟩, fun ⟨_, _, e, h⟩ => by cases e; exact h⟩
  | err d S => exact ⟨fun h => h.elim, fun ⟨_, _, e, _⟩ => nomatch e⟩
  | bad => exact ⟨fun h => h.elim, fun ⟨_, _, e, _⟩ => nomatch e⟩

def fin (S : St) (r : Fl) (T : St) : Out D := match r with
  | .nx _ => leave S .non T
  | .rt d => leave S d T
@[simp] theorem fin_rt (S T : St) (d : D) : fin S (.rt d) T = leave S d T := rfl
@[simp] theorem fin_nx (S T : St) (δ : Ev) : fin S (.nx δ) T = .ok .non S := by simp [fin]
theorem app_eq {P : List Fn} {F : Fn} {f n : Nat} {ds : List D} {S : St} (h : P[f]? = some F) (hl : ds.length = F.np) (hp : F.prim = none := by rfl) :
    app (callF P (n + 1)) f ds S = (exS (callF P n) F.body (startE F ds) S.enter).bind fun r T => fin S r T := by
  simp only [app, callF, h, hl, hp, if_true]
  generalize exS (callF P n) F.body (startE F ds) S.enter = o
  cases o with
  | ok r T => cases r <;> rfl
  | err d S => rfl
  | bad => rfl
def finL (S : St) (r : Fl) (T : St) : Out (List D) := match r with
  | .nx _ => .bad
  | .rt d => leaveL S d T
@[simp] theorem finL_rt (S T : St) (d : D) : finL S (.rt d) T = leaveL S d T := rfl
/-! ### loops -/
/-- a loop by what holds between two turns; R: what holds where a turn returns -/
theorem turnsF_inv {g : List Nat} {b : Ev → St → Out Fl} (I : Nat → Ev → St → Prop) (Rt : D → St → Prop) : ∀ (xs : List D) (k : Nat) (δ : Ev) (S : St), I k δ S →
    (∀ i x δ S, xs[i]? = some x → I (k + i) δ S → ∃ δ', asgG g x δ = some δ' ∧ W (b δ' S) fun f S' => match f with | .nx δ2 => I (k + i + 1) δ2 S' | .rt d => Rt d S') →
    W (turnsF g b xs δ S) fun f S' => match f with | .nx δ' => I (k + xs.length) δ' S' | .rt d => Rt d S'
  | [], k, δ, S, h, _ => by simpa [turnsF] using h
  | x :: xs, k, δ, S, h, step => by
    obtain ⟨δ', e, w⟩ := step 0 x δ S rfl h
    simp only [turnsF, e, W_bind]
    refine w.mono fun f S1 hf => ?_
    cases f with
    | rt d => exact hf
    | nx δ2 =>
      have ih := turnsF_inv I Rt xs (k + 1) δ2 S1 hf (fun i y δ S hy hi => by
        have := step (i + 1) y δ S (by simpa using hy) (by rw [show k + (i + 1) = k + 1 + i by omega]; exact hi)
        rw [show k + (i + 1) + 1 = k + 1 + i + 1 by omega] at this
        exact this)
      rw [show k + 1 + xs.length = k + (x :: xs).length by simp; omega] at ih
      exact ih
/-- while, by what holds at the test and a number that falls -/
theorem turnsW_inv {c : Ev → St → Out Bool} {b : Ev → St → Out Fl} (I : Nat → Ev → St → Prop) (N : Ev → St → Prop) (Rt : D → St → Prop) (step : ∀ m δ S, I m δ S → W (c δ S) fun k S1 => if k then W (b δ S1) (fun f S2 => match f with | .nx δ2 => ∃ m', m' < m ∧ I m' δ2 S2 | .rt d => Rt d S2) else N δ S1) :
    ∀ (n m : Nat) (δ : Ev) (S : St), m < n → I m δ S → W (turnsW c b n δ S) fun f S' => match f with | .nx δ' => N δ' S' | .rt d => Rt d S'
  | 0, m, δ, S, hm, _ => by omega
  | n + 1, m, δ, S, hm, h => by
    simp only [turnsW, W_bind]
    refine (step m δ S h).mono fun k S1 h1 => ?_
    cases k with
    | false => exact h1
    | true =>
      simp only [if_true] at h1 ⊢
      rw [W_bind]
      refine h1.mono fun f S2 h2 => ?_
      cases f with
      | rt d => exact h2
      | nx δ2 =>
        obtain ⟨m', hm', h3⟩ := h2
        exact turnsW_inv I N Rt step n m' δ2 S2 (by omega) h3
/-- a comprehension that changes nothing: of one name -/
theorem turnsC_pure {c : Ev → St → Out Bool} {e : Ev → St → Out D} {S : St} {rest : Ev} (p : D → Bool) (f : D → D) : ∀ (xs : List D) (o : Option D),
    (∀ x ∈ xs, c (some x :: rest) S = .ok (p x) S) → (∀ x ∈ xs, p x = true → e (some x :: rest) S = .ok (f x) S) → turnsC [0] c e xs (o :: rest) S = .ok ((xs.filter p).map f) S
  | [], o, _, _ => rfl
  | x :: xs, o, hc, he => by
    have ih := turnsC_pure p f xs (some x) (fun y hy => hc y (List.mem_cons_of_mem _ hy)) (fun y hy => he y (List.mem_cons_of_mem _ hy))
    simp only [turnsC, asgG, List.set_cons_zero, hc x List.mem_cons_self, bind_ok]
    cases hp : p x with
    | false => simp [ih, hp]
    | true => simp [ih, hp, he x List.mem_cons_self hp]
theorem turnsC_map {c : Ev → St → Out Bool} {e : Ev → St → Out D} {S : St} {rest : Ev} (f : D → D) (xs : List D) (o : Option D)
    (hc : ∀ x ∈ xs, c (some x :: rest) S = .ok true S) (he : ∀ x ∈ xs, e (some x :: rest) S = .ok (f x) S) : turnsC [0] c e xs (o :: rest) S = .ok (xs.map f) S := by
  have := turnsC_pure (c := c) (e := e) (S := S) (rest := rest) (fun _ => true) f xs o hc (fun x hx _ => he x hx)
  rw [List.filter_eq_self.mpr (fun _ _ => rfl)] at this
  exact this
@[simp] theorem locked_nil {α : Type} (S : St) (f : St → Out α) : locked [] S f = (f S).bind fun a S' => .ok a { S' with lk := S.lk } := rfl
end R

end
section
/-! The same interpreter, told by what is wanted behind it; it stops where something must be known. -/
namespace R
open PySem (Str PyData Operator CmpOp)

def wIf (c : Bool) (P Q : Prop) : Prop := match c with | true => P | false => Q
@[irreducible] def wOpt {α : Type} (o : Option α) (k : α → Prop) : Prop := match o with | some a => k a | none => False
@[irreducible] def wNeed (p k : Prop) : Prop := p ∧ k
@[irreducible] def wOut {α : Type} (o : Out α) (Q : α → St → Prop) : Prop := W o Q
theorem wIf_t {c : Bool} {P Q : Prop} (h : c = true) (k : P) : wIf c P Q := by subst h; exact k
theorem wIf_f {c : Bool} {P Q : Prop} (h : c = false) (k : Q) : wIf c P Q := by subst h; exact k
theorem wIf_i {c : Bool} {P Q : Prop} (h1 : c = true → P) (h2 : c = false → Q) : wIf c P Q := by
  cases c with
  | true => exact wIf_t rfl (h1 rfl)
  | false => exact wIf_f rfl (h2 rfl)
theorem wIf_p {p : Prop} [Decidable p] {P Q : Prop} (h1 : p → P) (h2 : ¬ p → Q) : wIf (decide p) P Q := wIf_i (fun h => h1 (of_decide_eq_true h)) (fun h => h2 (of_decide_eq_false h))
theorem wOpt_of {α : Type} {o : Option α} {k : α → Prop} {a : α} (h : o = some a) (q : k a) : wOpt o k := by unfold wOpt; rw [h]; exact q
theorem wNeed_of {p k : Prop} (h : p) (q : k) : wNeed p k := by unfold wNeed; exact ⟨h, q⟩
theorem wOut_of {α : Type} {o : Out α} {Q : α → St → Prop} {a : α} {S : St} (h : o = .ok a S) (q : Q a S) : wOut o Q := by unfold wOut; rw [h]; exact q
theorem wOut_W {α : Type} {o : Out α} {Q : α → St → Prop} (h : W o Q) : wOut o Q := by unfold wOut; exact h

/-- an object is read, is written -/
abbrev wGet (S : St) (l : Nat) (k : MO → Prop) : Prop := wOpt (S.get l) k
abbrev wPut (S : St) (l : Nat) (o : MO) (k : St → Prop) : Prop := wOpt (S.put l o) k
theorem wGet_old {S : St} {l : Nat} {o : MO} {nw : List MO} {lk : List Nat} {k : MO → Prop} (h : S.get l = some o) (q : k o) : wGet (St.mk (S.frz ++ S.new) nw lk) l k := wOpt_of (get_old h nw lk) q
theorem wGet_new {F nw : List MO} {lk : List Nat} {i : Nat} {o : MO} {k : MO → Prop} (h : nw[i]? = some o) (q : k o) : wGet (St.mk F nw lk) (F.length + i) k := wOpt_of ((get_new F nw lk i).trans h) q
theorem put_new {F nw : List MO} {lk : List Nat} {i : Nat} {o : MO} (h : lk.contains (F.length + i) = false) : (St.mk F nw lk).put (F.length + i) o = some ⟨F, nw.set i o, lk⟩ := by
  have h1 : ¬ F.length + i < F.length := by omega
  simp only [St.put, h1, if_false, h, Bool.false_eq_true, Nat.add_sub_cancel_left]
theorem wPut_new {F nw : List MO} {lk : List Nat} {i : Nat} {o : MO} {k : St → Prop} (h : lk.contains (F.length + i) = false) (q : k ⟨F, nw.set i o, lk⟩) : wPut (St.mk F nw lk) (F.length + i) o k := wOpt_of (put_new h) q

def wLay (S : St) (ds : List D) (Q : D → St → Prop) : Prop := wNeed (ds.length ≤ 16777216) (Q (.ref S.len) (S.push (.lst ds)))
theorem wLay_W {S : St} {ds : List D} {Q : D → St → Prop} (h : wLay S ds Q) : W (lay S ds) Q := by
  unfold wLay wNeed at h
  unfold lay
  rw [if_pos h.1]; exact h.2
def wWr (S : St) (l : Nat) (ds : List D) (d : D) (Q : D → St → Prop) : Prop := wNeed (ds.length ≤ 16777216) (wPut S l (.lst ds) fun S' => Q d S')
theorem wWr_W {S : St} {l : Nat} {ds : List D} {d : D} {Q : D → St → Prop} (h : wWr S l ds d Q) : W (wr S l ds d) Q := by
  unfold wWr wNeed wPut wOpt at h
  unfold wr
  rw [if_pos h.1]
  have h2 := h.2
  cases e : S.put l (.lst ds) with
  | none => rw [e] at h2; exact h2.elim
  | some S' => rw [e] at h2; exact h2
def wBinI (S : St) (op : Operator) (i j : Int) (Q : D → St → Prop) : Prop := match op with
  | .Add => Q (.int (i + j)) S
  | .Sub => Q (.int (i - j)) S
  | .Mult => wNeed (mulOk i j = true) (Q (.int (i * j)) S)
  | .FloorDiv => wNeed (0 < j ∧ j < 1073741824) (Q (.int (i / j)) S)
  | .Mod => wNeed (0 < j) (Q (.int (i % j)) S)
  | .Pow => wNeed (0 ≤ j ∧ j ≤ 1000000 ∧ -18446744073709551616 < i ∧ i < 18446744073709551616) (Q (.int (i ^ j.toNat)) S)
  | _ => False
def wBin (S : St) (op : Operator) (x y : D) (Q : D → St → Prop) : Prop := match x, y with
  | .int i, .int j => wBinI S op i j Q
  | .tup xs, .tup ys => (match op with | .Add => wNeed (xs.length + ys.length ≤ 16777216) (Q (.tup (xs ++ ys)) S) | _ => False)
  | .ref a, .ref b => (match op with | .Add => wGet S a fun o => wGet S b fun u => (match o, u with | .lst xs, .lst ys => wLay S (xs ++ ys) Q | _, _ => False) | _ => False)
  | _, _ => False
theorem wBin_W {S : St} {op : Operator} {x y : D} {Q : D → St → Prop} (h : wBin S op x y Q) : W (binD S op x y) Q := by
  unfold wBin at h
  unfold binD
  split at h
  · unfold wBinI wNeed at h
    unfold binI
    split at h <;> (try dsimp only) <;> first | exact h | (rw [if_pos h.1]; exact h.2) | exact False.elim h
  · split at h
    · unfold wNeed at h
      (try simp only)
      rw [if_pos h.1]; exact h.2
    · exact h.elim
  · split at h
    · unfold wGet wOpt at h
      (try simp only)
      cases ea : S.get _ with
      | none => simp only [ea] at h
      | some o =>
        simp only [ea] at h
        cases eb : S.get _ with
        | none => simp only [eb] at h
        | some u =>
          simp only [eb] at h
          cases o <;> cases u <;> first | exact wLay_W h | exact h.elim
    · exact h.elim
  · exact h.elim
def wCmp (S : St) (op : CmpOp) (x y : D) (Q : Bool → Prop) : Prop := match x, y with
  | .int i, .int j => (match cmpI op i j with | some k => Q k | none => False)
  | _, _ => (match op with
    | .Is => (match cmpO S .Is x y with | some k => Q k | none => False)
    | .IsNot => (match cmpO S .IsNot x y with | some k => Q k | none => False)
    | _ => wOpt (cmpO S op x y) Q)
theorem cmpD_ne {S : St} {op : CmpOp} {x y : D} (h : ∀ i j, x = .int i → y = .int j → False) : cmpD S op x y = cmpO S op x y := by
  unfold cmpD
  split
  · rename_i i j; exact (h i j rfl rfl).elim
  · rfl
theorem wCmp_ex {S : St} {op : CmpOp} {x y : D} {Q : Bool → Prop} (h : wCmp S op x y Q) : ∃ k, cmpD S op x y = some k ∧ Q k := by
  have fin : ∀ o : Option Bool, (match o with | some k => Q k | none => False) → ∃ k, o = some k ∧ Q k := fun o q => by
    cases o with
    | none => exact q.elim
    | some k => exact ⟨k, rfl, q⟩
  unfold wCmp at h
  split at h
  · exact fin _ h
  · rename_i hn
    rw [cmpD_ne hn]
    split at h
    · exact fin _ h
    · exact fin _ h
    · unfold wOpt at h
      cases e : cmpO S op x y with
      | none => rw [e] at h; exact h.elim
      | some k => rw [e] at h; exact ⟨k, rfl, h⟩
theorem wCmp_W {S : St} {op : CmpOp} {x y : D} {Q : Bool → St → Prop} (h : wCmp S op x y fun k => Q k S) : W (lift S (cmpD S op x y)) Q := by
  obtain ⟨k, e, q⟩ := wCmp_ex h
  rw [e]; exact q
def wBi (S : St) (b : Bi) (ds : List D) (Q : D → St → Prop) : Prop := match b, ds with
  | .len, [x] => (match x with
    | .tup ds => Q (.int ds.length) S
    | .fix ds => Q (.int ds.length) S
    | .ref l => wGet S l fun o => (match o with | .lst ds => Q (.int ds.length) S | .dic kvs => Q (.int kvs.length) S | _ => False)
    | _ => False)
  | .abs, [.int i] => Q (.int (if i < 0 then -i else i)) S
  | .max2, [.int i, .int j] => Q (.int (if j > i then j else i)) S
  | .min2, [.int i, .int j] => Q (.int (if j < i then j else i)) S
  | .isin t, [x] => wOpt (tyOf S x) fun a => Q (.bl (a == t || (a == "bool" && t == "int"))) S
  | _, _ => False
theorem wBi_W {S : St} {b : Bi} {ds : List D} {Q : D → St → Prop} (h : wBi S b ds Q) : W (bi S b ds) Q := by
  unfold wBi at h
  split at h
  · split at h
    · exact h
    · exact h
    · rename_i l
      unfold wGet wOpt at h
      simp only [bi]
      cases e : S.get l with
      | none => rw [e] at h; exact h.elim
      | some o => rw [e] at h; cases o <;> first | exact h | exact h.elim
    · exact h.elim
  · exact h
  · exact h
  · exact h
  · rename_i t x
    unfold wOpt at h
    simp only [bi]
    cases e : tyOf S x with
    | none => rw [e] at h; exact h.elim
    | some a => rw [e] at h; exact h
  · exact h.elim
def wIsL (S : St) (x : D) (P : Prop) : Prop := match x with
  | .ref l => wGet S l fun o => (match o with | .lst _ => P | _ => False)
  | _ => False
theorem wIsL_of {S : St} {x : D} {P : Prop} (h : wIsL S x P) : isL S x = true ∧ P := by
  unfold wIsL at h
  split at h
  · rename_i l
    unfold wGet wOpt at h
    unfold isL
    cases e : S.get l with
    | none => rw [e] at h; exact h.elim
    | some o =>
      rw [e] at h
      cases o with
      | lst ds => exact ⟨by simp [e], h⟩
      | _ => exact False.elim h
  · exact h.elim
def wMt (S : St) (m : Mt) (x : D) (ds : List D) (Q : D → St → Prop) : Prop := match m, x, ds with
  | .append, .ref l, [y] => wGet S l fun o => (match o with | .lst ds => wWr S l (ds ++ [y]) .non Q | _ => False)
  | .popAt, .ref l, [.int i] => wGet S l fun o => (match o with
    | .lst ds => wNeed (0 ≤ i) (wOpt ds[i.toNat]? fun y => wWr S l (ds.eraseIdx i.toNat) y Q)
    | _ => False)
  | .count, .ref l, [.int i] => wGet S l fun o => (match o with
    | .lst ds => wOpt (wordsOf ds) fun os => Q (.int (os.count (some i) : Nat)) S
    | _ => False)
  | _, _, _ => False
theorem wMt_W {S : St} {m : Mt} {x : D} {ds : List D} {Q : D → St → Prop} (h : wMt S m x ds Q) : W (mt S m x ds) Q := by
  unfold wMt at h
  split at h
  · rename_i l y
    unfold wGet wOpt at h
    simp only [mt]
    cases e : S.get l with
    | none => rw [e] at h; exact h.elim
    | some o => rw [e] at h; cases o <;> first | exact wWr_W h | exact h.elim
  · rename_i l i
    unfold wGet wOpt wNeed at h
    simp only [mt]
    cases e : S.get l with
    | none => rw [e] at h; exact h.elim
    | some o =>
      rw [e] at h
      cases o with
      | lst ds =>
        simp only at h ⊢
        rw [if_pos h.1]
        have h2 := h.2
        cases e2 : ds[i.toNat]? with
        | none => rw [e2] at h2; exact h2.elim
        | some y => rw [e2] at h2; exact wWr_W h2
      | _ => exact h.elim
  · rename_i l i
    unfold wGet wOpt at h
    simp only [mt]
    cases e : S.get l with
    | none => rw [e] at h; exact h.elim
    | some o =>
      rw [e] at h
      cases o with
      | lst ds =>
        simp only at h ⊢
        cases e2 : wordsOf ds with
        | none => rw [e2] at h; exact h.elim
        | some y => rw [e2] at h; exact h
      | _ => exact h.elim
  · exact h.elim
def wSeq (S : St) (x : D) (k : List D → Prop) : Prop := match x with
  | .tup ds => k ds
  | .fix ds => k ds
  | .ref l => wGet S l fun o => (match o with | .lst ds => k ds | _ => False)
  | _ => False
theorem wSeq_of {S : St} {x : D} {k : List D → Prop} (h : wSeq S x k) : ∃ ds, seqOf S x = some ds ∧ k ds := by
  unfold wSeq at h
  unfold seqOf
  split at h
  · exact ⟨_, rfl, h⟩
  · exact ⟨_, rfl, h⟩
  · rename_i l
    unfold wGet wOpt at h
    cases e : S.get l with
    | none => rw [e] at h; exact h.elim
    | some o =>
      rw [e] at h
      cases o with
      | lst ds => exact ⟨ds, by simp [e], h⟩
      | dic _ => exact False.elim h
      | ins _ _ => exact False.elim h
      | dtp _ => exact False.elim h
  · exact h.elim
def wTru (S : St) (x : D) (Q : Bool → Prop) : Prop := match x with
  | .bl b => Q b
  | .non => Q false
  | .int i => Q (i != 0)
  | .tup ds => Q (!ds.isEmpty)
  | .ref l => wGet S l fun o => (match o with | .lst ds => Q (!ds.isEmpty) | _ => False)
  | _ => False
theorem wTru_W {S : St} {x : D} {Q : Bool → St → Prop} (h : wTru S x fun k => Q k S) : W (lift S (tru S x)) Q := by
  unfold wTru at h
  unfold tru
  split at h
  · exact h
  · exact h
  · exact h
  · exact h
  · rename_i l
    unfold wGet wOpt at h
    simp only
    cases e : S.get l with
    | none => rw [e] at h; exact h.elim
    | some o => rw [e] at h; cases o <;> first | exact h | exact h.elim
  · exact h.elim
@[irreducible] def wLock {α : Type} (ls : List Nat) (S : St) (f : St → Out α) (Q : α → St → Prop) : Prop := W (locked ls S f) Q
theorem wLock_W {α : Type} {ls : List Nat} {S : St} {f : St → Out α} {Q : α → St → Prop} (h : wLock ls S f Q) : W (locked ls S f) Q := by unfold wLock at h; exact h
theorem wLock_of {α : Type} {ls : List Nat} {S : St} {f : St → Out α} {Q : α → St → Prop} (h : W (f { S with lk := ls ++ S.lk }) fun a T => Q a { T with lk := S.lk }) : wLock ls S f Q := by
  unfold wLock locked
  rw [W_bind]; exact h
section
variable (cf : CF)
mutual
def wE : CE → Ev → St → (D → St → Prop) → Prop
  | .loc i, δ, S, Q => (match (δ[i]?).join with | some d => Q d S | none => False)
  | .con d, _, S, Q => Q d S
  | .tst _, _, _, _ => False
  | .bin op a b, δ, S, Q => wE a δ S fun x S1 => wE b δ S1 fun y S2 => wBin S2 op x y Q
  | .neg a, δ, S, Q => wE a δ S fun x S1 => (match x with | .int i => Q (.int (-i)) S1 | _ => False)
  | .nt a, δ, S, Q => wE a δ S fun x S1 => (match x with | .bl b => Q (.bl (!b)) S1 | _ => False)
  | .cmp op a b, δ, S, Q => wE a δ S fun x S1 => wE b δ S1 fun y S2 => wCmp S2 op x y fun k => Q (.bl k) S2
  | .and a b, δ, S, Q => wE a δ S fun x S1 => (match x with | .bl k => wIf k (wE b δ S1 Q) (Q (.bl false) S1) | _ => False)
  | .or a b, δ, S, Q => wE a δ S fun x S1 => (match x with | .bl k => wIf k (Q (.bl true) S1) (wE b δ S1 Q) | _ => False)
  | .ite c a b, δ, S, Q => wT c δ S fun k S1 => wIf k (wE a δ S1 Q) (wE b δ S1 Q)
  | .tup es, δ, S, Q => wEs es δ S fun ds S1 => wNeed (ds.length ≤ 16777216) (Q (.tup ds) S1)
  | .lst es, δ, S, Q => wEs es δ S fun ds S1 => wLay S1 ds Q
  | .dnew, _, S, Q => Q (.ref S.len) (S.push (.dic []))
  | .dnewT, _, S, Q => Q (.ref S.len) (S.push (.dtp []))
  | .dget1 a b, δ, S, Q => wE a δ S fun x S1 => wNeed (isDt S1 x = true) (wE b δ S1 fun y S2 => wOpt (dGet S2 x y) fun o => Q (o.getD .non) S2)
  | .dcopy a, δ, S, Q => wE a δ S fun x S1 => wOpt (dKvs S1 x) fun kvs => wNeed (hashOk kvs = true) (Q (.ref S1.len) (S1.push (.dtp kvs)))
  | .dix a b, δ, S, Q => wE a δ S fun x S1 => wE b δ S1 fun y S2 => wOpt ((dGet S2 x y).bind id) fun v => Q v S2
  | .dpop a b, δ, S, Q => wE a δ S fun x S1 => wNeed (isDt S1 x = true) (wE b δ S1 fun y S2 => wOpt (dDel S2 x y) fun o => Q o.1 o.2)
  | .ix a b, δ, S, Q => wE a δ S fun x S1 => wE b δ S1 fun y S2 => wSeq S2 x fun ds => (match y with | .int i => wOpt (atI ds i) fun d => Q d S2 | _ => False)
  | .call f j es, δ, S, Q => wEs es δ S fun ds S1 => wOut (app cf f (ds ++ List.replicate j .non) S1) Q
  | .bi b es, δ, S, Q => wEs es δ S fun ds S1 => wBi S1 b ds Q
  | .mt m o es, δ, S, Q => wE o δ S fun x S1 => wIsL S1 x (wEs es δ S1 fun ds S2 => wMt S2 m x ds Q)
  | .mkL l, δ, S, Q => wL l δ S fun r S1 => wLay S1 r.1 Q
  | .mkT l, δ, S, Q => wL l δ S fun r S1 => wNeed (r.1.length ≤ 16777216) (Q (.tup r.1) S1)
  | .all l, δ, S, Q => wL l δ S fun r S1 => wOpt (allD r.1) fun b => Q (.bl b) S1
def wEs : CEs → Ev → St → (List D → St → Prop) → Prop
  | .nil, _, S, Q => Q [] S
  | .cons e r, δ, S, Q => wE e δ S fun d S1 => wEs r δ S1 fun ds S2 => Q (d :: ds) S2
def wT : CE → Ev → St → (Bool → St → Prop) → Prop
  | .cmp op a b, δ, S, Q => wE a δ S fun x S1 => wE b δ S1 fun y S2 => wCmp S2 op x y fun k => Q k S2
  | .nt a, δ, S, Q => wT a δ S fun k S1 => Q (!k) S1
  | .and a b, δ, S, Q => wT a δ S fun k S1 => wIf k (wT b δ S1 Q) (Q false S1)
  | .or a b, δ, S, Q => wT a δ S fun k S1 => wIf k (Q true S1) (wT b δ S1 Q)
  | .tst e, δ, S, Q => wE e δ S fun x S1 => wTru S1 x fun k => Q k S1
  | _, _, _, _ => False
def wL : CL → Ev → St → (List D × List Nat → St → Prop) → Prop
  | .val e, δ, S, Q => wE e δ S fun x S1 => wSeq S1 x fun ds => Q (ds, lkOf S1 x) S1
  | .rng1 a, δ, S, Q => wE a δ S fun x S1 => (match x with | .int j => wNeed (-(2 ^ 62) ≤ j ∧ j < 2 ^ 62) (Q ((List.range j.toNat).map fun (k : Nat) => .int k, []) S1) | _ => False)
  | .comp n js g it c e, δ, S, Q => wL it δ S fun r S1 => wLock r.2 S1 (fun S2 => turnsC g (evT cf c) (evE cf e) r.1 (csl n js δ) S2) fun ds S3 => wNeed (ds.length ≤ 16777216) (Q (ds, []) S3)
end
def wS : CS → Ev → St → (Fl → St → Prop) → Prop
  | .nil, δ, S, Q => Q (.nx δ) S
  | .asg i e r, δ, S, Q => wE cf e δ S fun x S1 => wS r (δ.set i (some x)) S1 Q
  | .setIx a b e r, δ, S, Q => wE cf e δ S fun v S1 => wE cf a δ S1 fun x S2 => wE cf b δ S2 fun y S3 => wOpt (dPut S3 x y v) fun S4 => wS r δ S4 Q
  | .whl c b r, δ, S, Q => wOut (turnsW (evT cf c) (exS cf b) 100000 δ S) fun f S3 => (match f with | .nx δ' => wS r δ' S3 Q | .rt d => Q (.rt d) S3)
  | .ifS c t u r, δ, S, Q => wT cf c δ S fun k S1 => wIf k (wS t δ S1 fun f S2 => (match f with | .nx δ' => wS r δ' S2 Q | .rt d => Q (.rt d) S2)) (wS u δ S1 fun f S2 => (match f with | .nx δ' => wS r δ' S2 Q | .rt d => Q (.rt d) S2))
  | .forS g l b r, δ, S, Q => wL cf l δ S fun q S1 => wLock q.2 S1 (fun S2 => turnsF g (exS cf b) q.1 δ S2) fun f S3 => (match f with | .nx δ' => wS r δ' S3 Q | .rt d => Q (.rt d) S3)
  | .ret e _, δ, S, Q => wE cf e δ S fun x S1 => Q (.rt x) S1
  | .expr e r, δ, S, Q => wE cf e δ S fun _ S1 => wS r δ S1 Q
end

section
variable {cf : CF}
mutual
theorem wE_W : ∀ (e : CE) {δ : Ev} {S : St} {Q : D → St → Prop}, wE cf e δ S Q → W (evE cf e δ S) Q
  | .loc i, δ, S, Q, h => by
    simp only [wE] at h
    simp only [evE]
    cases e : (δ[i]?).join with
    | none => rw [e] at h; exact h.elim
    | some d => rw [e] at h; exact h
  | .con d, δ, S, Q, h => by simp only [wE] at h; simp only [evE]; exact h
  | .tst _, δ, S, Q, h => by simp only [wE] at h
  | .bin op a b, δ, S, Q, h => by
    simp only [wE] at h
    simp only [evE, W_bind]
    exact (wE_W a h).mono fun x S1 h1 => (wE_W b h1).mono fun y S2 h2 => wBin_W h2
  | .neg a, δ, S, Q, h => by
    simp only [wE] at h
    simp only [evE, W_bind]
    refine (wE_W a h).mono fun x S1 h1 => ?_
    cases x <;> first | exact h1 | exact h1.elim
  | .nt a, δ, S, Q, h => by
    simp only [wE] at h
    simp only [evE, W_bind]
    refine (wE_W a h).mono fun x S1 h1 => ?_
    cases x <;> first | exact h1 | exact h1.elim
  | .cmp op a b, δ, S, Q, h => by
    simp only [wE] at h
    simp only [evE, W_bind, W_ok]
    exact (wE_W a h).mono fun x S1 h1 => (wE_W b h1).mono fun y S2 h2 => wCmp_W (Q := fun k S => Q (.bl k) S) h2
  | .and a b, δ, S, Q, h => by
    simp only [wE] at h
    simp only [evE, W_bind]
    refine (wE_W a h).mono fun x S1 h1 => ?_
    cases x with
    | bl k =>
      unfold wIf at h1
      cases k with
      | false => exact h1
      | true => exact wE_W b h1
    | _ => exact h1.elim
  | .or a b, δ, S, Q, h => by
    simp only [wE] at h
    simp only [evE, W_bind]
    refine (wE_W a h).mono fun x S1 h1 => ?_
    cases x with
    | bl k =>
      unfold wIf at h1
      cases k with
      | true => exact h1
      | false => exact wE_W b h1
    | _ => exact h1.elim
  | .ite c a b, δ, S, Q, h => by
    simp only [wE] at h
    simp only [evE, W_bind]
    refine (wT_W c h).mono fun k S1 h1 => ?_
    unfold wIf at h1
    cases k with
    | true => exact wE_W a h1
    | false => exact wE_W b h1
  | .tup es, δ, S, Q, h => by
    simp only [wE] at h
    simp only [evE, W_bind]
    refine (wEs_W es h).mono fun ds S1 h1 => ?_
    unfold wNeed at h1
    rw [if_pos h1.1]; exact h1.2
  | .lst es, δ, S, Q, h => by
    simp only [wE] at h
    simp only [evE, W_bind]
    exact (wEs_W es h).mono fun ds S1 h1 => wLay_W h1
  | .dnew, δ, S, Q, h => by simp only [wE] at h; simp only [evE]; exact h
  | .dnewT, δ, S, Q, h => by simp only [wE] at h; simp only [evE]; exact h
  | .dget1 a b, δ, S, Q, h => by
    simp only [wE] at h
    simp only [evE, W_bind]
    refine (wE_W a h).mono fun x S1 h1 => ?_
    unfold wNeed at h1
    rw [if_pos h1.1, W_bind]
    refine (wE_W b h1.2).mono fun y S2 h2 => ?_
    unfold wOpt at h2
    cases e : dGet S2 x y with
    | none => rw [e] at h2; exact h2.elim
    | some o => rw [e] at h2; exact h2
  | .dcopy a, δ, S, Q, h => by
    simp only [wE] at h
    simp only [evE, W_bind]
    refine (wE_W a h).mono fun x S1 h1 => ?_
    unfold wOpt wNeed at h1
    cases e : dKvs S1 x with
    | none => rw [e] at h1; exact h1.elim
    | some kvs => rw [e] at h1; dsimp only at h1 ⊢; rw [if_pos h1.1]; exact h1.2
  | .dix a b, δ, S, Q, h => by
    simp only [wE] at h
    simp only [evE, W_bind]
    refine (wE_W a h).mono fun x S1 h1 => (wE_W b h1).mono fun y S2 h2 => ?_
    unfold wOpt at h2
    cases e : (dGet S2 x y).bind id with
    | none => rw [e] at h2; exact h2.elim
    | some o => rw [e] at h2; exact h2
  | .dpop a b, δ, S, Q, h => by
    simp only [wE] at h
    simp only [evE, W_bind]
    refine (wE_W a h).mono fun x S1 h1 => ?_
    unfold wNeed at h1
    rw [if_pos h1.1, W_bind]
    refine (wE_W b h1.2).mono fun y S2 h2 => ?_
    unfold wOpt at h2
    cases e : dDel S2 x y with
    | none => rw [e] at h2; exact h2.elim
    | some o => rw [e] at h2; exact h2
  | .ix a b, δ, S, Q, h => by
    simp only [wE] at h
    simp only [evE, W_bind]
    refine (wE_W a h).mono fun x S1 h1 => (wE_W b h1).mono fun y S2 h2 => ?_
    obtain ⟨ds, e, h3⟩ := wSeq_of h2
    rw [e]
    cases y with
    | int i =>
      unfold wOpt at h3
      simp only at h3 ⊢
      cases e2 : atI ds i with
      | none => rw [e2] at h3; exact h3.elim
      | some d => rw [e2] at h3; exact h3
    | _ => exact h3.elim
  | .call f j es, δ, S, Q, h => by
    simp only [wE] at h
    simp only [evE, W_bind]
    refine (wEs_W es h).mono fun ds S1 h1 => ?_
    unfold wOut at h1; exact h1
  | .bi b es, δ, S, Q, h => by
    simp only [wE] at h
    simp only [evE, W_bind]
    exact (wEs_W es h).mono fun ds S1 h1 => wBi_W h1
  | .mt m o es, δ, S, Q, h => by
    simp only [wE] at h
    simp only [evE, W_bind]
    refine (wE_W o h).mono fun x S1 h1 => ?_
    obtain ⟨c, h2⟩ := wIsL_of h1
    rw [if_pos c, W_bind]
    exact (wEs_W es h2).mono fun ds S2 h3 => wMt_W h3
  | .mkL l, δ, S, Q, h => by
    simp only [wE] at h
    simp only [evE, W_bind]
    exact (wL_W l h).mono fun ds S1 h1 => wLay_W h1
  | .mkT l, δ, S, Q, h => by
    simp only [wE] at h
    simp only [evE, W_bind]
    refine (wL_W l h).mono fun r S1 h1 => ?_
    unfold wNeed at h1
    rw [if_pos h1.1]; exact h1.2
  | .all l, δ, S, Q, h => by
    simp only [wE] at h
    simp only [evE, W_bind]
    refine (wL_W l h).mono fun r S1 h1 => ?_
    unfold wOpt at h1
    cases e : allD r.1 with
    | none => rw [e] at h1; exact h1.elim
    | some d => rw [e] at h1; exact h1
theorem wEs_W : ∀ (es : CEs) {δ : Ev} {S : St} {Q : List D → St → Prop}, wEs cf es δ S Q → W (evEs cf es δ S) Q
  | .nil, δ, S, Q, h => by simp only [wEs] at h; simp only [evEs]; exact h
  | .cons e r, δ, S, Q, h => by
    simp only [wEs] at h
    simp only [evEs, W_bind]
    exact (wE_W e h).mono fun d S1 h1 => (wEs_W r h1).mono fun ds S2 h2 => h2
theorem wT_W : ∀ (e : CE) {δ : Ev} {S : St} {Q : Bool → St → Prop}, wT cf e δ S Q → W (evT cf e δ S) Q
  | .cmp op a b, δ, S, Q, h => by
    simp only [wT] at h
    simp only [evT, W_bind]
    exact (wE_W a h).mono fun x S1 h1 => (wE_W b h1).mono fun y S2 h2 => wCmp_W h2
  | .nt a, δ, S, Q, h => by
    simp only [wT] at h
    simp only [evT, W_bind]
    exact (wT_W a h).mono fun k S1 h1 => h1
  | .and a b, δ, S, Q, h => by
    simp only [wT] at h
    simp only [evT, W_bind]
    refine (wT_W a h).mono fun k S1 h1 => ?_
    unfold wIf at h1
    cases k with
    | false => exact h1
    | true => exact wT_W b h1
  | .or a b, δ, S, Q, h => by
    simp only [wT] at h
    simp only [evT, W_bind]
    refine (wT_W a h).mono fun k S1 h1 => ?_
    unfold wIf at h1
    cases k with
    | true => exact h1
    | false => exact wT_W b h1
  | .tst e, δ, S, Q, h => by
    simp only [wT] at h
    simp only [evT, W_bind]
    exact (wE_W e h).mono fun x S1 h1 => wTru_W h1
  | .loc i, δ, S, Q, h => by simp only [wT] at h
  | .con d, δ, S, Q, h => by simp only [wT] at h
  | .bin op a b, δ, S, Q, h => by simp only [wT] at h
  | .neg a, δ, S, Q, h => by simp only [wT] at h
  | .ite c a b, δ, S, Q, h => by simp only [wT] at h
  | .tup es, δ, S, Q, h => by simp only [wT] at h
  | .lst es, δ, S, Q, h => by simp only [wT] at h
  | .dnew, δ, S, Q, h => by simp only [wT] at h
  | .dnewT, δ, S, Q, h => by simp only [wT] at h
  | .dget1 a b, δ, S, Q, h => by simp only [wT] at h
  | .dcopy a, δ, S, Q, h => by simp only [wT] at h
  | .dix a b, δ, S, Q, h => by simp only [wT] at h
  | .dpop a b, δ, S, Q, h => by simp only [wT] at h
  | .ix a b, δ, S, Q, h => by simp only [wT] at h
  | .call f j es, δ, S, Q, h => by simp only [wT] at h
  | .bi b es, δ, S, Q, h => by simp only [wT] at h
  | .mt m o es, δ, S, Q, h => by simp only [wT] at h
  | .mkL l, δ, S, Q, h => by simp only [wT] at h
  | .mkT l, δ, S, Q, h => by simp only [wT] at h
  | .all l, δ, S, Q, h => by simp only [wT] at h
theorem wL_W : ∀ (l : CL) {δ : Ev} {S : St} {Q : List D × List Nat → St → Prop}, wL cf l δ S Q → W (evL cf l δ S) Q
  | .val e, δ, S, Q, h => by
    simp only [wL] at h
    simp only [evL, W_bind]
    refine (wE_W e h).mono fun x S1 h1 => ?_
    obtain ⟨ds, e, h2⟩ := wSeq_of h1
    rw [e]; exact h2
  | .rng1 a, δ, S, Q, h => by
    simp only [wL] at h
    simp only [evL, W_bind]
    refine (wE_W a h).mono fun x S1 h1 => ?_
    cases x with
    | int j =>
      unfold wNeed at h1
      simp only
      rw [if_pos h1.1]; exact h1.2
    | _ => exact h1.elim
  | .comp n js g it c e, δ, S, Q, h => by
    simp only [wL] at h
    simp only [evL, W_bind]
    refine (wL_W it h).mono fun r S1 h1 => (wLock_W h1).mono fun ds S3 h3 => ?_
    unfold wNeed at h3
    rw [if_pos h3.1]; exact h3.2
end
theorem wS_W : ∀ (s : CS) {δ : Ev} {S : St} {Q : Fl → St → Prop}, wS cf s δ S Q → W (exS cf s δ S) Q
  | .nil, δ, S, Q, h => by simp only [wS] at h; simp only [exS]; exact h
  | .asg i e r, δ, S, Q, h => by
    simp only [wS] at h
    simp only [exS, W_bind]
    exact (wE_W e h).mono fun x S1 h1 => wS_W r h1
  | .setIx a b e r, δ, S, Q, h => by
    simp only [wS] at h
    simp only [exS, W_bind]
    refine (wE_W e h).mono fun v S1 h1 => (wE_W a h1).mono fun x S2 h2 => (wE_W b h2).mono fun y S3 h3 => ?_
    unfold wOpt at h3
    cases e : dPut S3 x y v with
    | none => rw [e] at h3; exact h3.elim
    | some S4 => rw [e] at h3; exact wS_W r h3
  | .whl c b r, δ, S, Q, h => by
    simp only [wS] at h
    simp only [exS, W_bind]
    unfold wOut at h
    refine h.mono fun f S3 h3 => ?_
    cases f with
    | nx δ' => exact wS_W r h3
    | rt d => exact h3
  | .ifS c t u r, δ, S, Q, h => by
    simp only [wS] at h
    simp only [exS, W_bind]
    refine (wT_W c h).mono fun k S1 h1 => ?_
    unfold wIf at h1
    have nx : ∀ (f : Fl) (S2 : St), (match f with | .nx δ' => wS cf r δ' S2 Q | .rt d => Q (.rt d) S2) → W (match f with | .nx δ' => exS cf r δ' S2 | .rt d => .ok (.rt d) S2) Q := fun f S2 q => by
      cases f with
      | nx δ' => exact wS_W r q
      | rt d => exact q
    cases k with
    | true => exact (wS_W t h1).mono nx
    | false => exact (wS_W u h1).mono nx
  | .forS g l b r, δ, S, Q, h => by
    simp only [wS] at h
    simp only [exS, W_bind]
    refine (wL_W l h).mono fun q S1 h1 => (wLock_W h1).mono fun f S2 q => ?_
    cases f with
    | nx δ' => exact wS_W r q
    | rt d => exact q
  | .ret e r, δ, S, Q, h => by
    simp only [wS] at h
    simp only [exS, W_bind]
    exact (wE_W e h).mono fun x S1 h1 => h1
  | .expr e r, δ, S, Q, h => by
    simp only [wS] at h
    simp only [exS, W_bind]
    exact (wE_W e h).mono fun x S1 h1 => wS_W r h1
@[irreducible] def wFin (S : St) (r : Fl) (T : St) (Q : D → St → Prop) : Prop := W (fin S r T) Q
/-- a def is walked -/
theorem app_W {P : List Fn} {F : Fn} {f n : Nat} {ds : List D} {S : St} {Q : D → St → Prop} (h : P[f]? = some F) (hl : ds.length = F.np) (w : wS (callF P n) F.body (startE F ds) S.enter fun r T => wFin S r T Q) (hp : F.prim = none := by rfl) :
    W (app (callF P (n + 1)) f ds S) Q := by
  rw [app_eq h hl hp, W_bind]
  refine (wS_W _ w).mono fun r T q => ?_
  unfold wFin at q; exact q
theorem app_ok {P : List Fn} {F : Fn} {f n : Nat} {ds : List D} {S S' : St} {d : D} (h : P[f]? = some F) (hl : ds.length = F.np) (w : wS (callF P n) F.body (startE F ds) S.enter fun r T => wFin S r T fun a T' => a = d ∧ T' = S') (hp : F.prim = none := by rfl) :
    app (callF P (n + 1)) f ds S = .ok d S' := W.eq (app_W h hl w hp)
theorem wFin_flat {S T : St} {d : D} {Q : D → St → Prop} (h : flat S.len d = true) (q : Q d S) : wFin S (.rt d) T Q := by
  unfold wFin; rw [fin_rt, leave_flat S d T h]; exact q
theorem wFin_list {S T : St} {l : Nat} {ds : List D} {Q : D → St → Prop} (hl : S.len ≤ l) (hg : T.get l = some (.lst ds)) (h : flats S.len ds = true) (q : Q (.ref S.len) (S.push (.lst ds))) : wFin S (.rt (.ref l)) T Q := by
  have h0 : flat S.len (.ref l) = false := by simp [flat]; omega
  unfold wFin
  rw [fin_rt]
  unfold leave
  simp only [h0, hg, h, if_true, Bool.false_eq_true, if_false]
  exact q
/-- a list made here is handed back -/
theorem wFin_new {S : St} {nw : List MO} {lk : List Nat} {i : Nat} {ds : List D} {Q : D → St → Prop} (hg : nw[i]? = some (.lst ds)) (h : flats S.len ds = true) (q : Q (.ref S.len) (S.push (.lst ds))) :
    wFin S (.rt (.ref ((S.frz ++ S.new).length + i))) (St.mk (S.frz ++ S.new) nw lk) Q :=
  wFin_list (by rw [len_def]; omega) ((get_new _ nw lk i).trans hg) h q
end
end R

end
section
/-! What a run leaves as it was: what stood at the entry, the locks, what is locked; objects keep their kind. -/
namespace R
open PySem (Str PyData Operator CmpOp)
structure Frm (S S' : St) : Prop where
  frz : S'.frz = S.frz
  lk : S'.lk = S.lk
  len : S.new.length ≤ S'.new.length
  same : ∀ l ∈ S.lk, l < S.len → S'.get l = S.get l
theorem Frm.refl (S : St) : Frm S S := ⟨rfl, rfl, Nat.le_refl _, fun _ _ _ => rfl⟩
theorem Frm.lens {S S' : St} (h : Frm S S') : S.len ≤ S'.len := by unfold St.len; rw [h.frz]; have := h.len; omega
theorem Frm.trans {S S1 S2 : St} (a : Frm S S1) (b : Frm S1 S2) : Frm S S2 :=
  ⟨b.frz.trans a.frz, b.lk.trans a.lk, Nat.le_trans a.len b.len, fun l hl h => (b.same l (by rw [a.lk]; exact hl) (Nat.lt_of_lt_of_le h a.lens)).trans (a.same l hl h)⟩
theorem Frm.push (S : St) (o : MO) : Frm S (S.push o) := by
  refine ⟨rfl, rfl, by simp [St.push], fun l _ h => ?_⟩
  unfold St.len at h
  unfold St.get St.push
  simp only
  split
  · rfl
  · rw [List.getElem?_append_left (by omega)]
theorem Frm.put {S S' : St} {l : Nat} {o : MO} (h : S.put l o = some S') : Frm S S' := by
  unfold St.put at h
  split at h
  · cases h
  · split at h
    · cases h
    · rename_i h1 h2
      injection h with h
      subst h
      refine ⟨rfl, rfl, by simp, fun m hm hl => ?_⟩
      have hne : m ≠ l := fun e => by subst e; exact h2 (by simpa using hm)
      unfold St.get
      simp only
      split
      · rfl
      · rw [List.getElem?_set_ne (by omega)]
abbrev WF {α : Type} (S : St) (o : Out α) (Q : α → St → Prop) : Prop := W o fun a S' => Q a S' ∧ Frm S S'
theorem WF.ok {α : Type} {S : St} {a : α} {Q : α → St → Prop} (h : Q a S) : WF S (.ok a S) Q := ⟨h, Frm.refl S⟩
theorem WF.bind {α β : Type} {S : St} {o : Out α} {f : α → St → Out β} {Q : β → St → Prop} (h : WF S o fun a S1 => W (f a S1) Q) (hf : ∀ a S1, W (f a S1) Q → WF S1 (f a S1) Q) : WF S (o.bind f) Q := by
  rw [WF, W_bind]
  exact h.mono fun a S1 ⟨q, f1⟩ => (hf a S1 q).mono fun b S2 ⟨q2, f2⟩ => ⟨q2, f1.trans f2⟩
theorem lay_F {S : St} {ds : List D} {Q : D → St → Prop} (h : W (lay S ds) Q) : WF S (lay S ds) Q := by
  unfold lay at h ⊢
  split
  · rename_i c; rw [if_pos c] at h; exact ⟨h, Frm.push _ _⟩
  · rename_i c; rw [if_neg c] at h; exact h.elim
theorem wr_F {S : St} {l : Nat} {ds : List D} {d : D} {Q : D → St → Prop} (h : W (wr S l ds d) Q) : WF S (wr S l ds d) Q := by
  unfold wr at h ⊢
  split
  · rename_i c
    rw [if_pos c] at h
    cases e : S.put l (.lst ds) with
    | none => rw [e] at h; exact h.elim
    | some S' => rw [e] at h; exact ⟨h, Frm.put e⟩
  · rename_i c; rw [if_neg c] at h; exact h.elim
theorem lift_F {α : Type} {S : St} {o : Option α} {Q : α → St → Prop} (h : W (lift S o) Q) : WF S (lift S o) Q := by
  cases o with
  | none => exact h.elim
  | some a => exact ⟨h, Frm.refl S⟩
theorem binD_F {S : St} {op : Operator} {x y : D} {Q : D → St → Prop} (h : W (binD S op x y) Q) : WF S (binD S op x y) Q := by
  unfold binD at h ⊢
  split
  · unfold binI at h ⊢
    dsimp only at h
    cases op <;> dsimp only at h ⊢ <;> first
      | exact ⟨h, Frm.refl S⟩
      | exact h.elim
      | (split at h
         · rename_i c; rw [if_pos c]; exact ⟨h, Frm.refl S⟩
         · exact h.elim)
  · dsimp only at h
    cases op <;> dsimp only at h ⊢ <;> first
      | exact False.elim h
      | (split at h
         · rename_i c; rw [if_pos c]; exact ⟨h, Frm.refl S⟩
         · exact False.elim h)
  · dsimp only at h
    split at h
    · exact lay_F h
    · exact False.elim h
  · rename_i h1 h2 h3
    split at h
    · exact (h1 _ _ rfl rfl).elim
    · exact (h2 _ _ rfl rfl).elim
    · exact (h3 _ _ rfl rfl).elim
    · exact False.elim h
theorem bi_F {S : St} {b : Bi} {ds : List D} {Q : D → St → Prop} (h : W (bi S b ds) Q) : WF S (bi S b ds) Q := by
  unfold bi at h ⊢
  split
  · rename_i x
    dsimp only at h
    cases x with
    | tup ds => exact ⟨h, Frm.refl S⟩
    | fix ds => exact ⟨h, Frm.refl S⟩
    | ref l =>
      dsimp only at h ⊢
      cases e : S.get l with
      | none => rw [e] at h; exact False.elim h
      | some o => rw [e] at h; cases o <;> first | exact ⟨h, Frm.refl S⟩ | exact False.elim h
    | _ => exact False.elim h
  · exact ⟨h, Frm.refl S⟩
  · exact ⟨h, Frm.refl S⟩
  · exact ⟨h, Frm.refl S⟩
  · dsimp only at h
    split at h
    · exact ⟨h, Frm.refl S⟩
    · exact False.elim h
  · exact False.elim (by simpa using h)
theorem mt_F {S : St} {m : Mt} {x : D} {ds : List D} {Q : D → St → Prop} (h : W (mt S m x ds) Q) : WF S (mt S m x ds) Q := by
  unfold mt at h ⊢
  split
  · dsimp only at h
    split at h
    · exact wr_F h
    · exact False.elim h
  · dsimp only at h
    split at h
    · split at h
      · rename_i c
        rw [if_pos c]
        split at h
        · exact wr_F h
        · exact False.elim h
      · exact False.elim h
    · exact False.elim h
  · dsimp only at h
    split at h
    · split at h
      · exact ⟨h, Frm.refl _⟩
      · exact False.elim h
    · exact False.elim h
  · exact False.elim (by simpa using h)
theorem Frm.keep (S T : St) : Frm S ⟨S.frz, S.new ++ T.new, S.lk⟩ := by
  refine ⟨rfl, rfl, by simp, fun l _ h => ?_⟩
  unfold St.len at h
  unfold St.get
  simp only
  split
  · rfl
  · rw [List.getElem?_append_left (by omega)]
theorem W_lift2 {α β : Type} {S : St} {o : Option α} {f : α → St → Out β} {Q : β → St → Prop} (h : W (lift S o) fun a T => W (f a T) Q) : ∃ a, o = some a ∧ W (f a S) Q := by
  cases o with
  | none => exact h.elim
  | some a => exact ⟨a, rfl, h⟩
theorem dDel_F {S : St} {x y : D} {o : D × St} (h : dDel S x y = some o) : Frm S o.2 := by
  unfold dDel at h
  split at h
  · rename_i l
    split at h
    · rename_i kvs _
      cases hk : keyOf y with
      | none => rw [hk] at h; cases h
      | some k =>
        rw [hk] at h
        dsimp only [Option.bind_some] at h
        cases hv : valP kvs k with
        | none => rw [hv] at h; cases h
        | some v =>
          rw [hv] at h
          dsimp only [Option.bind_some] at h
          cases hp : S.put l (.dtp (dropP kvs k)) with
          | none => rw [hp] at h; cases h
          | some S' => rw [hp] at h; cases h; exact Frm.put hp
    · cases h
  · cases h
theorem dPut_F {S S' : St} {x y v : D} (h : dPut S x y v = some S') : Frm S S' := by
  unfold dPut at h
  split at h
  · split at h
    · cases e : keyOf y with
      | none => rw [e] at h; cases h
      | some k =>
        rw [e] at h
        dsimp only [Option.bind_some] at h
        split at h
        · exact Frm.put h
        · cases h
    · cases h
  · cases h
theorem leave_F {S T : St} {d : D} {Q : D → St → Prop} (h : W (leave S d T) Q) : WF S (leave S d T) Q := by
  unfold leave at h ⊢
  split
  · rename_i c; rw [if_pos c] at h; exact ⟨h, Frm.refl S⟩
  · rename_i c
    rw [if_neg c] at h
    dsimp only at h ⊢
    split at h
    · split at h
      · split at h
        · rename_i c; rw [if_pos c]; exact ⟨h, Frm.push _ _⟩
        · rename_i c; rw [if_neg c]; exact ⟨h, Frm.keep _ _⟩
      · split at h
        · rename_i c; rw [if_pos c]; exact ⟨h, Frm.push _ _⟩
        · rename_i c; rw [if_neg c]; exact ⟨h, Frm.keep _ _⟩
      · split at h
        · rename_i c; rw [if_pos c]; exact ⟨h, Frm.push _ _⟩
        · rename_i c; rw [if_neg c]; exact ⟨h, Frm.keep _ _⟩
      · exact ⟨h, Frm.keep _ _⟩
    · exact ⟨h, Frm.keep _ _⟩
theorem app_F {cf : CF} {f : Nat} {ds : List D} {S : St} {Q : D → St → Prop} (h : W (app cf f ds S) Q) : WF S (app cf f ds S) Q := by
  unfold app at h ⊢
  cases e : cf f ds S.enter with
  | ok d T => rw [e] at h; exact leave_F h
  | err d T => rw [e] at h; exact h.elim
  | bad => rw [e] at h; exact h.elim
theorem Frm.unlock {S T : St} {ls : List Nat} (h : Frm { S with lk := ls ++ S.lk } T) : Frm S { T with lk := S.lk } :=
  ⟨h.frz, rfl, h.len, fun l hl hn => h.same l (List.mem_append_right _ hl) hn⟩
theorem locked_F {α : Type} {ls : List Nat} {S : St} {f : St → Out α} {Q : α → St → Prop} (h : W (locked ls S f) Q) (hf : ∀ Q', W (f { S with lk := ls ++ S.lk }) Q' → WF { S with lk := ls ++ S.lk } (f { S with lk := ls ++ S.lk }) Q') : WF S (locked ls S f) Q := by
  unfold locked at h ⊢
  rw [W_bind] at h
  rw [WF, W_bind]
  exact (hf _ h).mono fun a T ⟨q, fr⟩ => ⟨q, fr.unlock⟩
theorem turnsC_F {g : List Nat} {c : Ev → St → Out Bool} {e : Ev → St → Out D} (hc : ∀ δ S Q, W (c δ S) Q → WF S (c δ S) Q) (he : ∀ δ S Q, W (e δ S) Q → WF S (e δ S) Q) :
    ∀ (xs : List D) (δ : Ev) (S : St) (Q : List D → St → Prop), W (turnsC g c e xs δ S) Q → WF S (turnsC g c e xs δ S) Q
  | [], δ, S, Q, h => ⟨h, Frm.refl S⟩
  | x :: xs, δ, S, Q, h => by
    simp only [turnsC] at h ⊢
    cases ea : asgG g x δ with
    | none => rw [ea] at h; exact h.elim
    | some δ' =>
      rw [ea] at h
      dsimp only at h ⊢
      rw [W_bind] at h
      refine WF.bind (hc _ _ _ h) fun b S1 h1 => ?_
      cases b with
      | false =>
        simp only [Bool.false_eq_true, if_false] at h1 ⊢
        exact turnsC_F hc he xs δ' S1 Q h1
      | true =>
        simp only [if_true] at h1 ⊢
        rw [W_bind] at h1
        refine WF.bind (he _ _ _ h1) fun d S2 h2 => ?_
        rw [W_bind] at h2
        exact WF.bind (turnsC_F hc he xs δ' S2 _ h2) fun ds S3 h3 => ⟨h3, Frm.refl _⟩
theorem turnsF_F {g : List Nat} {b : Ev → St → Out Fl} (hb : ∀ δ S Q, W (b δ S) Q → WF S (b δ S) Q) :
    ∀ (xs : List D) (δ : Ev) (S : St) (Q : Fl → St → Prop), W (turnsF g b xs δ S) Q → WF S (turnsF g b xs δ S) Q
  | [], δ, S, Q, h => ⟨h, Frm.refl S⟩
  | x :: xs, δ, S, Q, h => by
    simp only [turnsF] at h ⊢
    cases ea : asgG g x δ with
    | none => rw [ea] at h; exact h.elim
    | some δ' =>
      rw [ea] at h
      dsimp only at h ⊢
      rw [W_bind] at h
      refine WF.bind (hb _ _ _ h) fun f S1 h1 => ?_
      cases f with
      | nx δ2 => exact turnsF_F hb xs δ2 S1 Q h1
      | rt d => exact ⟨h1, Frm.refl _⟩
theorem turnsW_F {c : Ev → St → Out Bool} {b : Ev → St → Out Fl} (hc : ∀ δ S Q, W (c δ S) Q → WF S (c δ S) Q) (hb : ∀ δ S Q, W (b δ S) Q → WF S (b δ S) Q) :
    ∀ (n : Nat) (δ : Ev) (S : St) (Q : Fl → St → Prop), W (turnsW c b n δ S) Q → WF S (turnsW c b n δ S) Q
  | 0, δ, S, Q, h => h.elim
  | n + 1, δ, S, Q, h => by
    simp only [turnsW] at h ⊢
    rw [W_bind] at h
    refine WF.bind (hc _ _ _ h) fun k S1 h1 => ?_
    cases k with
    | false => exact ⟨h1, Frm.refl _⟩
    | true =>
      simp only [if_true] at h1 ⊢
      rw [W_bind] at h1
      refine WF.bind (hb _ _ _ h1) fun f S2 h2 => ?_
      cases f with
      | nx δ2 => exact turnsW_F hc hb n δ2 S2 Q h2
      | rt d => exact ⟨h2, Frm.refl _⟩
/-- what a call leaves -/
def CFok (cf : CF) : Prop := ∀ f ds S d T, cf f ds S = .ok d T → Frm S T
section
variable {cf : CF} (hcf : CFok cf)
include hcf
mutual
theorem evE_F : ∀ (e : CE) (δ : Ev) (S : St) (Q : D → St → Prop), W (evE cf e δ S) Q → WF S (evE cf e δ S) Q
  | .loc i, δ, S, Q, h => by simp only [evE] at h ⊢; exact lift_F h
  | .con d, δ, S, Q, h => by simp only [evE] at h ⊢; exact ⟨h, Frm.refl S⟩
  | .tst _, δ, S, Q, h => by simp only [evE] at h; exact h.elim
  | .bin op a b, δ, S, Q, h => by
    simp only [evE] at h ⊢
    rw [W_bind] at h
    refine WF.bind (evE_F a δ S _ h) fun x S1 h1 => ?_
    rw [W_bind] at h1
    exact WF.bind (evE_F b δ S1 _ h1) fun y S2 h2 => binD_F h2
  | .neg a, δ, S, Q, h => by
    simp only [evE] at h ⊢
    rw [W_bind] at h
    refine WF.bind (evE_F a δ S _ h) fun x S1 h1 => ?_
    cases x <;> first | exact ⟨h1, Frm.refl _⟩ | exact h1.elim
  | .nt a, δ, S, Q, h => by
    simp only [evE] at h ⊢
    rw [W_bind] at h
    refine WF.bind (evE_F a δ S _ h) fun x S1 h1 => ?_
    cases x <;> first | exact ⟨h1, Frm.refl _⟩ | exact h1.elim
  | .cmp op a b, δ, S, Q, h => by
    simp only [evE] at h ⊢
    rw [W_bind] at h
    refine WF.bind (evE_F a δ S _ h) fun x S1 h1 => ?_
    rw [W_bind] at h1
    refine WF.bind (evE_F b δ S1 _ h1) fun y S2 h2 => ?_
    rw [W_bind] at h2
    exact WF.bind (lift_F h2) fun k S3 h3 => ⟨h3, Frm.refl _⟩
  | .and a b, δ, S, Q, h => by
    simp only [evE] at h ⊢
    rw [W_bind] at h
    refine WF.bind (evE_F a δ S _ h) fun x S1 h1 => ?_
    cases x with
    | bl k =>
      cases k with
      | false => exact ⟨h1, Frm.refl _⟩
      | true => exact evE_F b δ S1 Q h1
    | _ => exact h1.elim
  | .or a b, δ, S, Q, h => by
    simp only [evE] at h ⊢
    rw [W_bind] at h
    refine WF.bind (evE_F a δ S _ h) fun x S1 h1 => ?_
    cases x with
    | bl k =>
      cases k with
      | true => exact ⟨h1, Frm.refl _⟩
      | false => exact evE_F b δ S1 Q h1
    | _ => exact h1.elim
  | .ite c a b, δ, S, Q, h => by
    simp only [evE] at h ⊢
    rw [W_bind] at h
    refine WF.bind (evT_F c δ S _ h) fun k S1 h1 => ?_
    cases k with
    | true => exact evE_F a δ S1 Q h1
    | false => exact evE_F b δ S1 Q h1
  | .tup es, δ, S, Q, h => by
    simp only [evE] at h ⊢
    rw [W_bind] at h
    refine WF.bind (evEs_F es δ S _ h) fun ds S1 h1 => ?_
    split at h1
    · rename_i c; rw [if_pos c]; exact ⟨h1, Frm.refl _⟩
    · exact h1.elim
  | .lst es, δ, S, Q, h => by
    simp only [evE] at h ⊢
    rw [W_bind] at h
    exact WF.bind (evEs_F es δ S _ h) fun ds S1 h1 => lay_F h1
  | .dnew, δ, S, Q, h => by simp only [evE] at h ⊢; exact ⟨h, Frm.push _ _⟩
  | .dnewT, δ, S, Q, h => by simp only [evE] at h ⊢; exact ⟨h, Frm.push _ _⟩
  | .dget1 a b, δ, S, Q, h => by
    simp only [evE] at h ⊢
    rw [W_bind] at h
    refine WF.bind (evE_F a δ S _ h) fun x S1 h1 => ?_
    split at h1
    · rename_i c
      rw [if_pos c]
      rw [W_bind] at h1
      refine WF.bind (evE_F b δ S1 _ h1) fun y S2 h2 => ?_
      rw [W_bind] at h2
      exact WF.bind (lift_F h2) fun k S3 h3 => ⟨h3, Frm.refl _⟩
    · exact h1.elim
  | .dcopy a, δ, S, Q, h => by
    simp only [evE] at h ⊢
    rw [W_bind] at h
    refine WF.bind (evE_F a δ S _ h) fun x S1 h1 => ?_
    split at h1
    · split at h1
      · rename_i c; rw [if_pos c]; exact ⟨h1, Frm.push _ _⟩
      · exact h1.elim
    · exact h1.elim
  | .dix a b, δ, S, Q, h => by
    simp only [evE] at h ⊢
    rw [W_bind] at h
    refine WF.bind (evE_F a δ S _ h) fun x S1 h1 => ?_
    rw [W_bind] at h1
    exact WF.bind (evE_F b δ S1 _ h1) fun y S2 h2 => lift_F h2
  | .dpop a b, δ, S, Q, h => by
    simp only [evE] at h ⊢
    rw [W_bind] at h
    refine WF.bind (evE_F a δ S _ h) fun x S1 h1 => ?_
    split at h1
    · rename_i c
      rw [if_pos c]
      rw [W_bind] at h1
      refine WF.bind (evE_F b δ S1 _ h1) fun y S2 h2 => ?_
      rw [W_bind] at h2
      obtain ⟨o, e, h3⟩ := W_lift2 h2
      rw [e]
      exact ⟨h3, dDel_F e⟩
    · exact h1.elim
  | .ix a b, δ, S, Q, h => by
    simp only [evE] at h ⊢
    rw [W_bind] at h
    refine WF.bind (evE_F a δ S _ h) fun x S1 h1 => ?_
    rw [W_bind] at h1
    refine WF.bind (evE_F b δ S1 _ h1) fun y S2 h2 => ?_
    split at h2
    · exact lift_F h2
    · exact h2.elim
  | .call f j es, δ, S, Q, h => by
    simp only [evE] at h ⊢
    rw [W_bind] at h
    exact WF.bind (evEs_F es δ S _ h) fun ds S1 h1 => app_F h1
  | .bi b es, δ, S, Q, h => by
    simp only [evE] at h ⊢
    rw [W_bind] at h
    exact WF.bind (evEs_F es δ S _ h) fun ds S1 h1 => bi_F h1
  | .mt m o es, δ, S, Q, h => by
    simp only [evE] at h ⊢
    rw [W_bind] at h
    refine WF.bind (evE_F o δ S _ h) fun x S1 h1 => ?_
    split at h1
    · rename_i c
      rw [if_pos c]
      rw [W_bind] at h1
      exact WF.bind (evEs_F es δ S1 _ h1) fun ds S2 h2 => mt_F h2
    · exact h1.elim
  | .mkL l, δ, S, Q, h => by
    simp only [evE] at h ⊢
    rw [W_bind] at h
    exact WF.bind (evL_F l δ S _ h) fun r S1 h1 => lay_F h1
  | .mkT l, δ, S, Q, h => by
    simp only [evE] at h ⊢
    rw [W_bind] at h
    refine WF.bind (evL_F l δ S _ h) fun r S1 h1 => ?_
    split at h1
    · rename_i c; rw [if_pos c]; exact ⟨h1, Frm.refl _⟩
    · exact h1.elim
  | .all l, δ, S, Q, h => by
    simp only [evE] at h ⊢
    rw [W_bind] at h
    refine WF.bind (evL_F l δ S _ h) fun r S1 h1 => ?_
    rw [W_bind] at h1
    exact WF.bind (lift_F h1) fun k S3 h3 => ⟨h3, Frm.refl _⟩
theorem evEs_F : ∀ (es : CEs) (δ : Ev) (S : St) (Q : List D → St → Prop), W (evEs cf es δ S) Q → WF S (evEs cf es δ S) Q
  | .nil, δ, S, Q, h => by simp only [evEs] at h ⊢; exact ⟨h, Frm.refl S⟩
  | .cons e r, δ, S, Q, h => by
    simp only [evEs] at h ⊢
    rw [W_bind] at h
    refine WF.bind (evE_F e δ S _ h) fun x S1 h1 => ?_
    rw [W_bind] at h1
    exact WF.bind (evEs_F r δ S1 _ h1) fun k S3 h3 => ⟨h3, Frm.refl _⟩
theorem evT_F : ∀ (e : CE) (δ : Ev) (S : St) (Q : Bool → St → Prop), W (evT cf e δ S) Q → WF S (evT cf e δ S) Q
  | .cmp op a b, δ, S, Q, h => by
    simp only [evT] at h ⊢
    rw [W_bind] at h
    refine WF.bind (evE_F a δ S _ h) fun x S1 h1 => ?_
    rw [W_bind] at h1
    exact WF.bind (evE_F b δ S1 _ h1) fun y S2 h2 => lift_F h2
  | .nt a, δ, S, Q, h => by
    simp only [evT] at h ⊢
    rw [W_bind] at h
    exact WF.bind (evT_F a δ S _ h) fun k S3 h3 => ⟨h3, Frm.refl _⟩
  | .and a b, δ, S, Q, h => by
    simp only [evT] at h ⊢
    rw [W_bind] at h
    refine WF.bind (evT_F a δ S _ h) fun k S1 h1 => ?_
    cases k with
    | false => exact ⟨h1, Frm.refl _⟩
    | true => exact evT_F b δ S1 Q h1
  | .or a b, δ, S, Q, h => by
    simp only [evT] at h ⊢
    rw [W_bind] at h
    refine WF.bind (evT_F a δ S _ h) fun k S1 h1 => ?_
    cases k with
    | true => exact ⟨h1, Frm.refl _⟩
    | false => exact evT_F b δ S1 Q h1
  | .tst e, δ, S, Q, h => by
    simp only [evT] at h ⊢
    rw [W_bind] at h
    exact WF.bind (evE_F e δ S _ h) fun k S3 h3 => lift_F h3
  | .loc i, δ, S, Q, h => by simp only [evT] at h; exact h.elim
  | .con d, δ, S, Q, h => by simp only [evT] at h; exact h.elim
  | .bin op a b, δ, S, Q, h => by simp only [evT] at h; exact h.elim
  | .neg a, δ, S, Q, h => by simp only [evT] at h; exact h.elim
  | .ite c a b, δ, S, Q, h => by simp only [evT] at h; exact h.elim
  | .tup es, δ, S, Q, h => by simp only [evT] at h; exact h.elim
  | .lst es, δ, S, Q, h => by simp only [evT] at h; exact h.elim
  | .dnew, δ, S, Q, h => by simp only [evT] at h; exact h.elim
  | .dnewT, δ, S, Q, h => by simp only [evT] at h; exact h.elim
  | .dget1 a b, δ, S, Q, h => by simp only [evT] at h; exact h.elim
  | .dcopy a, δ, S, Q, h => by simp only [evT] at h; exact h.elim
  | .dix a b, δ, S, Q, h => by simp only [evT] at h; exact h.elim
  | .dpop a b, δ, S, Q, h => by simp only [evT] at h; exact h.elim
  | .ix a b, δ, S, Q, h => by simp only [evT] at h; exact h.elim
  | .call f j es, δ, S, Q, h => by simp only [evT] at h; exact h.elim
  | .bi b es, δ, S, Q, h => by simp only [evT] at h; exact h.elim
  | .mt m o es, δ, S, Q, h => by simp only [evT] at h; exact h.elim
  | .mkL l, δ, S, Q, h => by simp only [evT] at h; exact h.elim
  | .mkT l, δ, S, Q, h => by simp only [evT] at h; exact h.elim
  | .all l, δ, S, Q, h => by simp only [evT] at h; exact h.elim
theorem evL_F : ∀ (l : CL) (δ : Ev) (S : St) (Q : List D × List Nat → St → Prop), W (evL cf l δ S) Q → WF S (evL cf l δ S) Q
  | .val e, δ, S, Q, h => by
    simp only [evL] at h ⊢
    rw [W_bind] at h
    refine WF.bind (evE_F e δ S _ h) fun x S1 h1 => ?_
    rw [W_bind] at h1
    exact WF.bind (lift_F h1) fun k S3 h3 => ⟨h3, Frm.refl _⟩
  | .rng1 a, δ, S, Q, h => by
    simp only [evL] at h ⊢
    rw [W_bind] at h
    refine WF.bind (evE_F a δ S _ h) fun x S1 h1 => ?_
    cases x with
    | int j =>
      dsimp only at h1 ⊢
      split at h1
      · rename_i c; rw [if_pos c]; exact ⟨h1, Frm.refl _⟩
      · exact h1.elim
    | _ => exact h1.elim
  | .comp n js g it c e, δ, S, Q, h => by
    simp only [evL] at h ⊢
    rw [W_bind] at h
    refine WF.bind (evL_F it δ S _ h) fun r S1 h1 => ?_
    rw [W_bind] at h1
    exact WF.bind (locked_F h1 fun Q' h2 => turnsC_F (fun δ S Q => evT_F c δ S Q) (fun δ S Q => evE_F e δ S Q) _ _ _ _ h2) fun k S3 h3 => by
      split at h3
      · rename_i c; rw [if_pos c]; exact ⟨h3, Frm.refl _⟩
      · exact h3.elim
end
theorem exS_F : ∀ (s : CS) (δ : Ev) (S : St) (Q : Fl → St → Prop), W (exS cf s δ S) Q → WF S (exS cf s δ S) Q
  | .nil, δ, S, Q, h => by simp only [exS] at h ⊢; exact ⟨h, Frm.refl S⟩
  | .asg i e r, δ, S, Q, h => by
    simp only [exS] at h ⊢
    rw [W_bind] at h
    exact WF.bind (evE_F hcf e δ S _ h) fun x S1 h1 => exS_F r _ S1 Q h1
  | .setIx a b e r, δ, S, Q, h => by
    simp only [exS] at h ⊢
    rw [W_bind] at h
    refine WF.bind (evE_F hcf e δ S _ h) fun v S1 h1 => ?_
    rw [W_bind] at h1
    refine WF.bind (evE_F hcf a δ S1 _ h1) fun x S2 h2 => ?_
    rw [W_bind] at h2
    refine WF.bind (evE_F hcf b δ S2 _ h2) fun y S3 h3 => ?_
    cases ed : dPut S3 x y v with
    | none => rw [ed] at h3; exact h3.elim
    | some S4 =>
      rw [ed] at h3
      have f1 := dPut_F ed
      have f2 := exS_F r δ S4 Q h3
      dsimp only
      unfold WF at f2 ⊢
      exact f2.mono fun a T ⟨q, f⟩ => ⟨q, f1.trans f⟩
  | .whl c b r, δ, S, Q, h => by
    simp only [exS] at h ⊢
    rw [W_bind] at h
    refine WF.bind (turnsW_F (fun δ S Q => evT_F hcf c δ S Q) (fun δ S Q => exS_F b δ S Q) _ _ _ _ h) fun f S3 h3 => ?_
    cases f with
    | nx δ' => exact exS_F r _ S3 Q h3
    | rt d => exact ⟨h3, Frm.refl _⟩
  | .ifS c t u r, δ, S, Q, h => by
    simp only [exS] at h ⊢
    rw [W_bind] at h
    refine WF.bind (evT_F hcf c δ S _ h) fun k S1 h1 => ?_
    rw [W_bind] at h1
    refine WF.bind (Q := Q) (S := S1) ?_ fun f S2 h2 => ?_
    · cases k with
      | true => exact exS_F t δ S1 _ h1
      | false => exact exS_F u δ S1 _ h1
    · cases f with
      | nx δ' => exact exS_F r _ S2 Q h2
      | rt d => exact ⟨h2, Frm.refl _⟩
  | .forS g l b r, δ, S, Q, h => by
    simp only [exS] at h ⊢
    rw [W_bind] at h
    refine WF.bind (evL_F hcf l δ S _ h) fun q S1 h1 => ?_
    rw [W_bind] at h1
    refine WF.bind (locked_F h1 fun Q' h2 => turnsF_F (fun δ S Q => exS_F b δ S Q) _ _ _ _ h2) fun f S3 h3 => ?_
    cases f with
    | nx δ' => exact exS_F r _ S3 Q h3
    | rt d => exact ⟨h3, Frm.refl _⟩
  | .ret e r, δ, S, Q, h => by
    simp only [exS] at h ⊢
    rw [W_bind] at h
    exact WF.bind (evE_F hcf e δ S _ h) fun x S1 h1 => ⟨h1, Frm.refl _⟩
  | .expr e r, δ, S, Q, h => by
    simp only [exS] at h ⊢
    rw [W_bind] at h
    exact WF.bind (evE_F hcf e δ S _ h) fun x S1 h1 => exS_F r _ S1 Q h1
end
end R

end
section
/-! The interpreter is sound: how plain data lies in the heap. -/
namespace R
open PySem L2
/-- a list that is only read -/
def KL (K : PySem.W.Frag) (a : Addr) (xs : List V) : Prop := ∃ (o : Obj) (its : Array Value) (n : Nat), K.lookup a = some o ∧ o.cls = .type "list" ∧ o.dict = none ∧ o.data = .seq its n ∧ its.size ≤ sizeLine ∧ Vals xs its.toList
def FixL (K : PySem.W.Frag) (H : Hp) (a : Addr) (xs : List V) : Prop := (∃ o, H a = some (.frz o (.lst xs))) ∨ KL K a xs
theorem FixL.sq {K : PySem.W.Frag} {H : Hp} {a : Addr} {xs : List V} (h : FixL K H a xs) : SqL K H a xs := h.elim (fun ⟨o, e⟩ => .inl (.inr ⟨o, e⟩)) .inr
/-- the tables of the code that makes functions, and the full name of what it makes -/
class Mks where
  ts : List (Addr × Str)
variable [Mks]
/-- the table of a code object: what stands in it is known -/
def TabIn (H : Hp) (P : Addr) (q : Str) : Prop := ∃ ps : Array Value, H P = some (.tbl ps) ∧ TriplesOk ps.toList ∧
  ∀ (pos : Pos) (v : Value), codeAmong pos ps.toList = some v → ∃ (c : Addr) (oc : Obj) (vs : Array Value) (t : Tok), v = .ref c ∧ H c = some (.frz oc (.own 0)) ∧ oc.data = .fields vs ∧ vs[1]? = some (.str q t)
theorem TabIn.up {H H' : Hp} {P : Addr} {q : Str} (t : TabIn H P q) (e : H' P = H P) (f : ∀ b o u, H b = some (.frz o u) → H' b = some (.frz o u)) : TabIn H' P q := by
  obtain ⟨ps, h1, h2, h3⟩ := t
  refine ⟨ps, by rw [e]; exact h1, h2, fun pos v hv => ?_⟩
  obtain ⟨c, oc, vs, t, a1, a2, a3⟩ := h3 pos v hv
  exact ⟨c, oc, vs, t, a1, f _ _ _ a2, a3⟩
def TB (H : Hp) : Prop := ∀ p ∈ Mks.ts, TabIn H p.1 p.2
/-- tuples and what is known stay, the tables grow -/
structure Kp (H H' : Hp) : Prop where
  tups : Tups H H'
  frzs : ∀ b o u, H b = some (.frz o u) → H' b = some (.frz o u)
  tab : TB H → TB H'
theorem Kp.refl (H : Hp) : Kp H H := ⟨Tups.refl H, fun _ _ _ h => h, fun h => h⟩
theorem Kp.trans {H H1 H2 : Hp} (a : Kp H H1) (b : Kp H1 H2) : Kp H H2 := ⟨a.tups.trans b.tups, fun c o u h => b.frzs c o u (a.frzs c o u h), fun h => b.tab (a.tab h)⟩
theorem Kp.same {H H' : Hp} (a : Tups H H') (b : ∀ b o u, H b = some (.frz o u) → H' b = some (.frz o u)) (c : ∀ P ps, H P = some (.tbl ps) → H' P = some (.tbl ps)) : Kp H H' :=
  ⟨a, b, fun h p hp => by
    obtain ⟨ps, h1, _⟩ := id (h p hp)
    exact (h p hp).up ((c _ _ h1).trans h1.symm) b⟩
theorem FixL.kp {K : PySem.W.Frag} {H H' : Hp} {a : Addr} {xs : List V} (h : FixL K H a xs) (k : Kp H H') : FixL K H' a xs := h.elim (fun ⟨o, e⟩ => .inl ⟨o, k.frzs _ _ _ e⟩) .inr
mutual
/-- v is d; the objects' addresses are ι -/
def RV (K : PySem.W.Frag) (ι : List Addr) (H : Hp) : D → V → Prop
  | .non, v => v = .non
  | .bl b, v => v = .bl b
  | .int i, v => v = .int i
  | .str x, v => v = .str x
  | .tup ds, v => ∃ a xs, v = .ref a ∧ H a = some (.tup xs) ∧ RVs K ι H ds xs
  | .ref l, v => ∃ a, ι[l]? = some a ∧ v = .ref a
  | .fix ds, v => ∃ a xs, v = .ref a ∧ FixL K H a xs ∧ RVs K ι H ds xs
def RVs (K : PySem.W.Frag) (ι : List Addr) (H : Hp) : List D → List V → Prop
  | [], vs => vs = []
  | d :: ds, vs => ∃ v r, vs = v :: r ∧ RV K ι H d v ∧ RVs K ι H ds r
end
/-- a key of a dict by tuples -/
def kI (k : List Int) : List Key := k.map Sum.inl
/-- the pairs of a dict by tuples -/
def RKs (K : PySem.W.Frag) (ι : List Addr) (H : Hp) : List (List Int × D) → List (List Key × V) → Prop
  | [], ws => ws = []
  | (k, d) :: r, ws => ∃ v w, ws = (kI k, v) :: w ∧ RV K ι H d v ∧ RKs K ι H r w
def RO (K : PySem.W.Frag) (ι : List Addr) (H : Hp) (a : Addr) : MO → Prop
  | .lst ds => ∃ xs, H a = some (.lst xs) ∧ RVs K ι H ds xs
  | .dic kvs => kvs = [] ∧ H a = some (.dK [])
  | .ins _ _ => False
  | .dtp kvs => (kvs.map (·.1)).Nodup ∧ ∃ ws, H a = some (.dT ws) ∧ RKs K ι H kvs ws
structure RH (K : PySem.W.Frag) (ι : List Addr) (H : Hp) (S : St) : Prop where
  len : ι.length = S.len
  nd : ι.Nodup
  obj : ∀ l o, S.get l = some o → ∃ a, ι[l]? = some a ∧ RO K ι H a o
  tab : TB H
structure Ext (ι : List Addr) (H : Hp) (ι' : List Addr) (H' : Hp) : Prop where
  pre : ι <+: ι'
  kp : Kp H H'
  rest : ∀ a o, a ∉ ι → H a = some o → (H' a = some o ∨ ((∃ ps, o = .tbl ps) ∧ ∃ ps, H' a = some (.tbl ps))) ∧ a ∉ ι'
theorem Ext.refl (ι : List Addr) (H : Hp) : Ext ι H ι H := ⟨List.prefix_refl _, Kp.refl H, fun a o h e => ⟨.inl e, h⟩⟩
theorem Ext.trans {ι ι1 ι2 : List Addr} {H H1 H2 : Hp} (a : Ext ι H ι1 H1) (b : Ext ι1 H1 ι2 H2) : Ext ι H ι2 H2 :=
  ⟨a.pre.trans b.pre, a.kp.trans b.kp, fun x o h e => by
    obtain ⟨e1, h1⟩ := a.rest x o h e
    rcases e1 with e1 | ⟨t, ps, e1⟩
    · exact b.rest x o h1 e1
    · obtain ⟨e2, h2⟩ := b.rest x _ h1 e1
      refine ⟨.inr ⟨t, ?_⟩, h2⟩
      rcases e2 with e2 | ⟨_, e2⟩
      · exact ⟨ps, e2⟩
      · exact e2⟩
theorem Ext.keep {ι ι1 : List Addr} {H H1 : Hp} (x : Ext ι H ι1 H1) {a : Addr} {o : HO} (h : a ∉ ι) (e : H a = some o) (n : ∀ ps, o ≠ .tbl ps) : H1 a = some o :=
  (x.rest a o h e).1.elim id fun ⟨⟨ps, z⟩, _⟩ => absurd z (n ps)
theorem pre_get {ι ι' : List Addr} (h : ι <+: ι') {l : Nat} {a : Addr} (e : ι[l]? = some a) : ι'[l]? = some a := by
  obtain ⟨t, rfl⟩ := h
  rw [List.getElem?_append_left (List.getElem?_eq_some_iff.mp e).1]
  exact e
mutual
theorem RV.up {K : PySem.W.Frag} {ι ι' : List Addr} {H H' : Hp} (hp : ι <+: ι') (hk : Kp H H') : ∀ {d : D} {v : V}, RV K ι H d v → RV K ι' H' d v
  | .non, _, r => r
  | .bl _, _, r => r
  | .int _, _, r => r
  | .str _, _, r => r
  | .tup ds, _, r => by
    obtain ⟨a, xs, e, ha, q⟩ := r
    exact ⟨a, xs, e, hk.tups _ _ ha, RVs.up hp hk q⟩
  | .ref l, _, r => by
    obtain ⟨a, e, q⟩ := r
    exact ⟨a, pre_get hp e, q⟩
  | .fix ds, _, r => by
    obtain ⟨a, xs, e, ha, q⟩ := r
    exact ⟨a, xs, e, ha.kp hk, RVs.up hp hk q⟩
theorem RVs.up {K : PySem.W.Frag} {ι ι' : List Addr} {H H' : Hp} (hp : ι <+: ι') (hk : Kp H H') : ∀ {ds : List D} {vs : List V}, RVs K ι H ds vs → RVs K ι' H' ds vs
  | [], _, r => r
  | d :: ds, vs, r => by
    obtain ⟨v, w, e, r1, r2⟩ := r
    exact ⟨v, w, e, RV.up hp hk r1, RVs.up hp hk r2⟩
end
theorem RKs.up {K : PySem.W.Frag} {ι ι' : List Addr} {H H' : Hp} (hp : ι <+: ι') (hk : Kp H H') : ∀ {kvs : List (List Int × D)} {ws : List (List Key × V)}, RKs K ι H kvs ws → RKs K ι' H' kvs ws
  | [], _, r => r
  | (k, d) :: kvs, ws, r => by
    obtain ⟨v, w, e, r1, r2⟩ := r
    exact ⟨v, w, e, RV.up hp hk r1, RKs.up hp hk r2⟩
theorem kI_inj {j k : List Int} (h : kI j = kI k) : j = k := by
  unfold kI at h
  exact (List.map_inj_right (fun a b e => Sum.inl.inj e)).mp h
theorem RKs.length {K : PySem.W.Frag} {ι : List Addr} {H : Hp} : ∀ {kvs : List (List Int × D)} {ws : List (List Key × V)}, RKs K ι H kvs ws → ws.length = kvs.length
  | [], _, r => by rw [show _ = [] from r]; rfl
  | (k, d) :: kvs, ws, r => by
    obtain ⟨v, w, rfl, _, r2⟩ := r
    simp [RKs.length r2]
/-- what stands at a key -/
theorem RKs.val {K : PySem.W.Frag} {ι : List Addr} {H : Hp} (k : List Int) : ∀ {kvs : List (List Int × D)} {ws : List (List Key × V)}, RKs K ι H kvs ws → (valP kvs k = none ∧ valV ws (kI k) = none) ∨ ∃ d v, valP kvs k = some d ∧ valV ws (kI k) = some v ∧ RV K ι H d v
  | [], _, r => by rw [show _ = [] from r]; exact .inl ⟨rfl, rfl⟩
  | (j, d) :: kvs, ws, r => by
    obtain ⟨v, w, rfl, r1, r2⟩ := r
    by_cases e : j = k
    · subst e
      exact .inr ⟨d, v, by simp [valP], by simp [valV], r1⟩
    · have e' : ¬ kI j = kI k := fun z => e (kI_inj z)
      have h1 : valP ((j, d) :: kvs) k = valP kvs k := by simp [valP, e]
      have h2 : valV ((kI j, v) :: w) (kI k) = valV w (kI k) := by simp [valV, e']
      rw [h1, h2]
      exact RKs.val k r2
theorem putK_skip {κ : Type} [DecidableEq κ] {x : κ × V} {r : List (κ × V)} {k : κ} {v : V} (h : x.1 ≠ k) : putK (x :: r) k v = x :: putK r k v := by
  unfold putK
  have : decide (x.1 = k) = false := decide_eq_false h
  simp only [List.any_cons, this, Bool.false_or]
  split
  · rw [List.map_cons, if_neg h]
  · rfl
theorem RKs.keys {K : PySem.W.Frag} {ι : List Addr} {H : Hp} : ∀ {kvs : List (List Int × D)} {ws : List (List Key × V)}, RKs K ι H kvs ws → ws.map (·.1) = kvs.map (fun p => kI p.1)
  | [], _, r => by rw [show _ = [] from r]; rfl
  | (k, d) :: kvs, ws, r => by
    obtain ⟨v, w, rfl, _, r2⟩ := r
    simp [RKs.keys r2]
/-- a pair is put -/
theorem RKs.put {K : PySem.W.Frag} {ι : List Addr} {H : Hp} (k : List Int) {d : D} {v : V} (q : RV K ι H d v) : ∀ {kvs : List (List Int × D)} {ws : List (List Key × V)}, (kvs.map (·.1)).Nodup → RKs K ι H kvs ws → RKs K ι H (putP kvs k d) (putK ws (kI k) v)
  | [], _, _, r => by rw [show _ = [] from r]; exact ⟨v, [], rfl, q, rfl⟩
  | (j, e) :: kvs, ws, nd, r => by
    obtain ⟨u, w, rfl, r1, r2⟩ := r
    simp only [List.map_cons, List.nodup_cons] at nd
    by_cases z : j = k
    · subst z
      have h1 : putP ((j, e) :: kvs) j d = (j, d) :: kvs := by simp [putP]
      have h2 : putK ((kI j, u) :: w) (kI j) v = (kI j, v) :: w := by
        unfold putK
        have : (((kI j, u) :: w).any fun kv => decide (kv.1 = kI j)) = true := by simp
        rw [if_pos this, List.map_cons, if_pos rfl, List.map_congr_left (g := id), List.map_id]
        intro kv hkv
        have hm : kv.1 ∈ w.map (·.1) := List.mem_map.mpr ⟨kv, hkv, rfl⟩
        rw [r2.keys] at hm
        obtain ⟨p, hp, ep⟩ := List.mem_map.mp hm
        have : kv.1 ≠ kI j := fun y => nd.1 (by
          rw [← ep] at y
          rw [← kI_inj y]
          exact List.mem_map.mpr ⟨p, hp, rfl⟩)
        simp [this]
      rw [h1, h2]
      exact ⟨v, w, rfl, q, r2⟩
    · have h1 : putP ((j, e) :: kvs) k d = (j, e) :: putP kvs k d := by simp [putP, z]
      have h2 : putK ((kI j, u) :: w) (kI k) v = (kI j, u) :: putK w (kI k) v := putK_skip fun y => z (kI_inj y)
      rw [h1, h2]
      exact ⟨u, _, rfl, r1, RKs.put k q nd.2 r2⟩
theorem putP_keys (k : List Int) (d : D) : ∀ kvs : List (List Int × D), (putP kvs k d).map (·.1) = if k ∈ kvs.map (·.1) then kvs.map (·.1) else kvs.map (·.1) ++ [k]
  | [] => by simp [putP]
  | (j, e) :: r => by
    unfold putP
    by_cases z : j = k
    · subst z; simp
    · have ih := putP_keys k d r
      rw [if_neg z]
      simp only [List.map_cons, List.mem_cons, ih]
      by_cases h : k ∈ r.map (·.1)
      · rw [if_pos h, if_pos (.inr h)]
      · rw [if_neg h, if_neg (by rintro (y | y); exact z y.symm; exact h y)]; rfl
theorem putP_nodup {k : List Int} {d : D} {kvs : List (List Int × D)} (h : (kvs.map (·.1)).Nodup) : ((putP kvs k d).map (·.1)).Nodup := by
  rw [putP_keys]
  split
  · exact h
  · rename_i n
    rw [List.nodup_append]
    refine ⟨h, by simp, fun a ha b hb => ?_⟩
    rw [List.mem_singleton] at hb
    subst hb
    exact fun z => n (z ▸ ha)
theorem RV.ext {K : PySem.W.Frag} {ι ι' : List Addr} {H H' : Hp} (h : Ext ι H ι' H') {d : D} {v : V} (r : RV K ι H d v) : RV K ι' H' d v := r.up h.pre h.kp
theorem RVs.ext {K : PySem.W.Frag} {ι ι' : List Addr} {H H' : Hp} (h : Ext ι H ι' H') {ds : List D} {vs : List V} (r : RVs K ι H ds vs) : RVs K ι' H' ds vs := r.up h.pre h.kp
theorem RVs.length {K : PySem.W.Frag} {ι : List Addr} {H : Hp} : ∀ {ds : List D} {vs : List V}, RVs K ι H ds vs → vs.length = ds.length
  | [], _, r => by rw [show _ = [] from r]; rfl
  | d :: ds, vs, r => by
    obtain ⟨v, w, rfl, _, r2⟩ := r
    simp [RVs.length r2]
theorem RVs.get {K : PySem.W.Frag} {ι : List Addr} {H : Hp} : ∀ {ds : List D} {vs : List V} {i : Nat} {d : D}, RVs K ι H ds vs → ds[i]? = some d → ∃ v, vs[i]? = some v ∧ RV K ι H d v
  | [], _, _, _, _, e => by simp at e
  | d :: ds, vs, 0, d', r, e => by
    obtain ⟨v, w, rfl, r1, _⟩ := r
    simp at e; subst e
    exact ⟨v, rfl, r1⟩
  | d :: ds, vs, i + 1, d', r, e => by
    obtain ⟨v, w, rfl, _, r2⟩ := r
    obtain ⟨u, e1, e2⟩ := RVs.get (i := i) (d := d') r2 (by simpa using e)
    exact ⟨u, by simpa using e1, e2⟩
theorem RVs.get' {ι : List Addr} {H : Hp} {ds : List D} {vs : List V} {i : Nat} {v : V} (r : RVs K ι H ds vs) (e : vs[i]? = some v) : ∃ d, ds[i]? = some d ∧ RV K ι H d v := by
  have hi : i < ds.length := by rw [← r.length]; exact (List.getElem?_eq_some_iff.mp e).1
  obtain ⟨u, e1, e2⟩ := r.get (List.getElem?_eq_getElem hi)
  rw [e] at e1; cases e1
  exact ⟨_, List.getElem?_eq_getElem hi, e2⟩
theorem RVs.append {K : PySem.W.Frag} {ι : List Addr} {H : Hp} : ∀ {ds es : List D} {vs us : List V}, RVs K ι H ds vs → RVs K ι H es us → RVs K ι H (ds ++ es) (vs ++ us)
  | [], _, _, _, r, q => by rw [show _ = [] from r]; exact q
  | d :: ds, es, vs, us, r, q => by
    obtain ⟨v, w, rfl, r1, r2⟩ := r
    exact ⟨v, w ++ us, rfl, r1, RVs.append r2 q⟩
theorem RVs.take {K : PySem.W.Frag} {ι : List Addr} {H : Hp} : ∀ {ds : List D} {vs : List V} (n : Nat), RVs K ι H ds vs → RVs K ι H (ds.take n) (vs.take n)
  | _, _, 0, _ => rfl
  | [], _, n + 1, r => by rw [show _ = [] from r]; rfl
  | d :: ds, vs, n + 1, r => by
    obtain ⟨v, w, rfl, r1, r2⟩ := r
    exact ⟨v, w.take n, rfl, r1, RVs.take n r2⟩
theorem RVs.drop {K : PySem.W.Frag} {ι : List Addr} {H : Hp} : ∀ {ds : List D} {vs : List V} (n : Nat), RVs K ι H ds vs → RVs K ι H (ds.drop n) (vs.drop n)
  | _, _, 0, r => r
  | [], _, n + 1, r => by rw [show _ = [] from r]; rfl
  | d :: ds, vs, n + 1, r => by
    obtain ⟨v, w, rfl, r1, r2⟩ := r
    exact RVs.drop n r2
theorem RVs.set {K : PySem.W.Frag} {ι : List Addr} {H : Hp} {d : D} {v : V} (q : RV K ι H d v) : ∀ {ds : List D} {vs : List V} (n : Nat), RVs K ι H ds vs → RVs K ι H (ds.set n d) (vs.set n v)
  | [], _, n, r => by rw [show _ = [] from r]; rfl
  | _ :: ds, vs, 0, r => by
    obtain ⟨_, w, rfl, r1, r2⟩ := r
    exact ⟨v, w, rfl, q, r2⟩
  | _ :: ds, vs, n + 1, r => by
    obtain ⟨u, w, rfl, r1, r2⟩ := r
    exact ⟨u, w.set n v, rfl, r1, RVs.set q n r2⟩
theorem RVs.erase {K : PySem.W.Frag} {ι : List Addr} {H : Hp} {ds : List D} {vs : List V} (n : Nat) (r : RVs K ι H ds vs) : RVs K ι H (ds.eraseIdx n) (vs.eraseIdx n) := by
  rw [List.eraseIdx_eq_take_drop_succ, List.eraseIdx_eq_take_drop_succ]
  exact (r.take n).append (r.drop (n + 1))
theorem RVs.ints {K : PySem.W.Frag} {ι : List Addr} {H : Hp} : ∀ ns : List Int, RVs K ι H (ns.map D.int) (ns.map V.int)
  | [] => rfl
  | n :: ns => ⟨_, _, rfl, rfl, RVs.ints ns⟩
theorem RVs.ints_eq {K : PySem.W.Frag} {ι : List Addr} {H : Hp} : ∀ {ns : List Int} {vs : List V}, RVs K ι H (ns.map D.int) vs → vs = ns.map V.int
  | [], _, h => h
  | n :: ns, vs, h => by
    obtain ⟨v, r, rfl, h1, h2⟩ := h
    rw [RVs.ints_eq h2, show v = .int n from h1]; rfl
theorem ints_map : ∀ {ds : List D} {ns : List Int}, intsOf ds = some ns → ds = ns.map D.int := by
  intro ds
  unfold intsOf
  induction ds with
  | nil => intro ns h; simp at h; subst h; rfl
  | cons d ds ih =>
    intro ns h
    rw [List.mapM_cons] at h
    cases d with
    | int i =>
      cases e : List.mapM intOf ds with
      | none => rw [e] at h; simp [intOf] at h
      | some ms => rw [e] at h; simp [intOf] at h; subst h; simp [ih e]
    | _ => simp [intOf] at h
mutual
theorem RV.flat {K : PySem.W.Frag} {ι : List Addr} {H : Hp} : ∀ {d : D} {v : V}, RV K ι H d v → R.flat ι.length d = true
  | .non, _, _ => by simp [R.flat]
  | .bl _, _, _ => by simp [R.flat]
  | .int _, _, _ => by simp [R.flat]
  | .str _, _, _ => by simp [R.flat]
  | .tup ds, _, r => by
    obtain ⟨a, xs, e, ha, q⟩ := r
    simp only [R.flat]
    exact RVs.flats q
  | .ref l, _, r => by
    obtain ⟨a, e, q⟩ := r
    simp only [R.flat, decide_eq_true_eq]
    exact (List.getElem?_eq_some_iff.mp e).1
  | .fix ds, _, r => by
    obtain ⟨a, xs, e, ha, q⟩ := r
    simp only [R.flat]
    exact RVs.flats q
theorem RVs.flats {K : PySem.W.Frag} {ι : List Addr} {H : Hp} : ∀ {ds : List D} {vs : List V}, RVs K ι H ds vs → R.flats ι.length ds = true
  | [], _, _ => by simp [R.flats]
  | d :: ds, vs, r => by
    obtain ⟨v, w, e, r1, r2⟩ := r
    simp only [R.flats, Bool.and_eq_true]
    exact ⟨RV.flat r1, RVs.flats r2⟩
end
mutual
/-- fewer objects -/
theorem RV.restrict {K : PySem.W.Frag} {ι ι' : List Addr} {H : Hp} (hp : ι <+: ι') : ∀ {d : D} {v : V}, R.flat ι.length d = true → RV K ι' H d v → RV K ι H d v
  | .non, _, _, r => r
  | .bl _, _, _, r => r
  | .int _, _, _, r => r
  | .str _, _, _, r => r
  | .tup ds, _, f, r => by
    obtain ⟨a, xs, e, ha, q⟩ := r
    simp only [R.flat] at f
    exact ⟨a, xs, e, ha, RVs.restrict hp f q⟩
  | .ref l, _, f, r => by
    obtain ⟨a, e, q⟩ := r
    simp only [R.flat, decide_eq_true_eq] at f
    refine ⟨a, ?_, q⟩
    obtain ⟨t, rfl⟩ := hp
    rw [List.getElem?_append_left f] at e
    exact e
  | .fix ds, _, f, r => by
    obtain ⟨a, xs, e, ha, q⟩ := r
    simp only [R.flat] at f
    exact ⟨a, xs, e, ha, RVs.restrict hp f q⟩
theorem RVs.restrict {K : PySem.W.Frag} {ι ι' : List Addr} {H : Hp} (hp : ι <+: ι') : ∀ {ds : List D} {vs : List V}, R.flats ι.length ds = true → RVs K ι' H ds vs → RVs K ι H ds vs
  | [], _, _, r => r
  | d :: ds, vs, f, r => by
    obtain ⟨v, w, e, r1, r2⟩ := r
    simp only [R.flats, Bool.and_eq_true] at f
    exact ⟨v, w, e, RV.restrict hp f.1 r1, RVs.restrict hp f.2 r2⟩
end
theorem RKs.flats {K : PySem.W.Frag} {ι : List Addr} {H : Hp} : ∀ {kvs : List (List Int × D)} {ws : List (List Key × V)}, RKs K ι H kvs ws → R.flats ι.length (kvs.map (·.2)) = true
  | [], _, _ => by simp [R.flats]
  | (k, d) :: kvs, ws, r => by
    obtain ⟨v, w, e, r1, r2⟩ := r
    simp only [List.map_cons, R.flats, Bool.and_eq_true]
    exact ⟨RV.flat r1, RKs.flats r2⟩
theorem RKs.restrict {K : PySem.W.Frag} {ι ι' : List Addr} {H : Hp} (hp : ι <+: ι') : ∀ {kvs : List (List Int × D)} {ws : List (List Key × V)}, R.flats ι.length (kvs.map (·.2)) = true → RKs K ι' H kvs ws → RKs K ι H kvs ws
  | [], _, _, r => r
  | (k, d) :: kvs, ws, f, r => by
    obtain ⟨v, w, e, r1, r2⟩ := r
    simp only [List.map_cons, R.flats, Bool.and_eq_true] at f
    exact ⟨v, w, e, RV.restrict hp f.1 r1, RKs.restrict hp f.2 r2⟩
/-- what an object's description leans on: its address, the tuples -/
theorem RO.up {K : PySem.W.Frag} {ι ι' : List Addr} {H H' : Hp} {a : Addr} {o : MO} (h : RO K ι H a o) (hp : ι <+: ι') (hk : Kp H H') (e : H' a = H a) : RO K ι' H' a o := by
  cases o with
  | lst ds => obtain ⟨xs, h1, h2⟩ := h; exact ⟨xs, e.trans h1, h2.up hp hk⟩
  | dic kvs => obtain ⟨h1, h2⟩ := h; exact ⟨h1, e.trans h2⟩
  | ins c fs => exact h.elim
  | dtp kvs => obtain ⟨h0, ws, h1, h2⟩ := h; exact ⟨h0, ws, e.trans h1, h2.up hp hk⟩
theorem RO.stay {K : PySem.W.Frag} {ι ι' : List Addr} {H H' : Hp} {a : Addr} {o : MO} (h : RO K ι H a o) (x : Ext ι H ι' H') (e : H' a = H a) : RO K ι' H' a o := h.up x.pre x.kp e
section
variable {K : PySem.W.Frag} {ι ι' : List Addr} {H H' : Hp} {S S' T : St} {l : Nat} {a p : Addr}
theorem RH.none (h : RH K ι H S) : S.get S.len = Option.none := by
  cases e : S.get S.len with
  | none => rfl
  | some o => have := get_lt e; omega
theorem RH.mem (h : RH K ι H S) {o : MO} (e : S.get l = some o) : ∃ a, ι[l]? = some a ∧ RO K ι H a o ∧ a ∈ ι := by
  obtain ⟨a, h1, h2⟩ := h.obj l o e
  exact ⟨a, h1, h2, List.mem_of_getElem? h1⟩
theorem get_some (h : l < S.len) : ∃ o, S.get l = some o := by
  unfold St.len at h
  unfold St.get
  split
  · rename_i c; exact ⟨_, List.getElem?_eq_getElem c⟩
  · exact ⟨_, List.getElem?_eq_getElem (by omega)⟩
/-- the heap changes off the objects -/
theorem RH.off (h : RH K ι H S) (x : Ext ι H ι H') (e : ∀ a ∈ ι, H' a = H a) : RH K ι H' S :=
  ⟨h.len, h.nd, fun l o q => let ⟨a, h1, h2, hm⟩ := h.mem q; ⟨a, h1, h2.stay x (e a hm)⟩, x.kp.tab h.tab⟩
theorem RH.live (h : RH K ι H S) (ha : a ∈ ι) : ∃ o, H a = some o ∧ (∀ xs, o ≠ .tup xs) ∧ (∀ z u, o ≠ .frz z u) ∧ ∀ ps, o ≠ .tbl ps := by
  obtain ⟨l, hl⟩ := List.mem_iff_getElem?.mp ha
  have hlt : l < S.len := by rw [← h.len]; exact (List.getElem?_eq_some_iff.mp hl).1
  obtain ⟨o, e⟩ := get_some hlt
  obtain ⟨b, h1, h2⟩ := h.obj l o e
  rw [hl] at h1; cases h1
  cases o with
  | lst ds => obtain ⟨xs, q, _⟩ := h2; exact ⟨_, q, ⟨fun _ z => (by cases z), fun _ _ z => (by cases z), fun _ z => (by cases z)⟩⟩
  | dic kvs => exact ⟨_, h2.2, ⟨fun _ z => (by cases z), fun _ _ z => (by cases z), fun _ z => (by cases z)⟩⟩
  | ins c fs => exact h2.elim
  | dtp kvs => obtain ⟨_, ws, q, _⟩ := h2; exact ⟨_, q, ⟨fun _ z => (by cases z), fun _ _ z => (by cases z), fun _ z => (by cases z)⟩⟩
theorem RH.fresh (h : RH K ι H S) (hp : H p = Option.none) : p ∉ ι := fun hm => by
  obtain ⟨o, e, _⟩ := h.live hm
  rw [hp] at e; cases e
theorem RH.notup (h : RH K ι H S) {xs : List V} (hp : H p = some (.tup xs)) : p ∉ ι := fun hm => by
  obtain ⟨o, e, q, _⟩ := h.live hm
  rw [hp] at e; cases e; exact q _ rfl
theorem Kp.new (hp : H p = Option.none) (o : HO) : Kp H (upd H p o) :=
  .same (Tups.upd_new hp) (fun b z u e => by rw [upd_ne (ne_of_none e hp)]; exact e) fun b ps e => by rw [upd_ne (ne_of_none e hp)]; exact e
/-- something new that is no object of ours -/
theorem Ext.new (hp : H p = Option.none) (o : HO) : Ext ι H ι (upd H p o) :=
  ⟨List.prefix_refl _, Kp.new hp o, fun a u h e => ⟨.inl (by rw [upd_ne (ne_of_none e hp)]; exact e), h⟩⟩
theorem RH.new (h : RH K ι H S) (hp : H p = Option.none) (o : HO) : RH K ι (upd H p o) S :=
  h.off (Ext.new hp o) fun a ha => upd_ne fun e => h.fresh hp (e ▸ ha)
theorem get_push (S : St) (o : MO) : (S.push o).get S.len = some o := by
  have h : ¬ S.len < S.frz.length := by unfold St.len; omega
  unfold St.get St.push
  simp only [h, if_false]
  unfold St.len
  simp
theorem get_push_lt {o : MO} (h : l < S.len) : (S.push o).get l = S.get l := by
  unfold St.len at h
  unfold St.get St.push
  simp only
  split
  · rfl
  · rw [List.getElem?_append_left (by omega)]
theorem push_len (S : St) (o : MO) : (S.push o).len = S.len + 1 := by simp [St.push, St.len]; omega
/-- a new object of ours -/
theorem Ext.obj (h : RH K ι H S) (hp : H p = Option.none) (u : HO) : Ext ι H (ι ++ [p]) (upd H p u) :=
  ⟨List.prefix_append _ _, Kp.new hp u, fun a o ha e => ⟨.inl (by rw [upd_ne (ne_of_none e hp)]; exact e), by
    intro z
    rcases List.mem_append.mp z with z | z
    · exact ha z
    · simp at z; exact ne_of_none e hp z⟩⟩
theorem RH.obj' (h : RH K ι H S) (hp : H p = Option.none) (u : HO) (o : MO) (ho : RO K (ι ++ [p]) (upd H p u) p o) : RH K (ι ++ [p]) (upd H p u) (S.push o) := by
  refine ⟨by rw [List.length_append, h.len, push_len]; rfl, ?_, fun l o' e => ?_, (Kp.new hp u).tab h.tab⟩
  · rw [List.nodup_append]
    refine ⟨h.nd, by simp, fun a ha b hb => ?_⟩
    simp at hb; subst hb
    exact fun z => h.fresh hp (z ▸ ha)
  · by_cases hl : l < S.len
    · rw [get_push_lt hl] at e
      obtain ⟨a, h1, h2, hm⟩ := h.mem e
      exact ⟨a, pre_get (List.prefix_append _ _) h1, h2.stay (Ext.obj h hp u) (upd_ne fun z => h.fresh hp (z ▸ hm))⟩
    · have hl2 := get_lt e
      rw [push_len] at hl2
      have : l = S.len := by omega
      subst this
      rw [get_push] at e; cases e
      exact ⟨p, by rw [← h.len]; simp, ho⟩
/-- a list of ours is laid -/
theorem RH.lay (h : RH K ι H S) (hp : H p = Option.none) {ds : List D} {xs : List V} (r : RVs K ι H ds xs) : RH K (ι ++ [p]) (upd H p (.lst xs)) (S.push (.lst ds)) :=
  h.obj' hp _ _ ⟨xs, upd_same, r.ext (Ext.obj h hp _)⟩
theorem RH.last (h : RH K ι H S) (p : Addr) : (ι ++ [p])[S.len]? = some p := by rw [← h.len]; simp
/-- an object of ours is written -/
theorem Ext.wr (h : RH K ι H S) {o : MO} (e : S.get l = some o) (hl : ι[l]? = some a) (u : HO) : Ext ι H ι (upd H a u) := by
  have hm := List.mem_of_getElem? hl
  refine ⟨List.prefix_refl _, .same (fun b xs hb => ?_) (fun b z v hb => ?_) fun b ps hb => ?_, fun b o hb e => ⟨.inl ((upd_ne fun (z : b = a) => hb (by rw [z]; exact hm)).trans e), hb⟩⟩
  · rw [upd_ne]; exact hb
    rintro rfl
    exact h.notup hb hm
  · rw [upd_ne]; exact hb
    rintro rfl
    obtain ⟨o, e, _, q, _⟩ := h.live hm
    rw [hb] at e; cases e; exact q _ _ rfl
  · rw [upd_ne]; exact hb
    rintro rfl
    obtain ⟨o, e, _, _, q⟩ := h.live hm
    rw [hb] at e; cases e; exact q _ rfl
theorem put_get {o : MO} (e : S.put l o = some S') : S'.len = S.len ∧ (l < S.len → S'.get l = some o) ∧ (∀ m, m ≠ l → S'.get m = S.get m) ∧ S.frz.length ≤ l := by
  unfold St.put at e
  split at e
  · cases e
  · split at e
    · cases e
    · injection e with e
      subst e
      rename_i c1 c2
      refine ⟨by simp [St.len], fun hl => ?_, fun m hm => ?_, by omega⟩
      · unfold St.len at hl
        unfold St.get
        simp only [c1, if_false]
        rw [List.getElem?_set_self (by omega)]
      · unfold St.get
        simp only
        split
        · rfl
        · rw [List.getElem?_set_ne (by omega)]
theorem RH.wr (h : RH K ι H S) {o o' : MO} {u : HO} (e : S.get l = some o) (hl : ι[l]? = some a) (w : S.put l o' = some S') (ho : RO K ι (upd H a u) a o') : RH K ι (upd H a u) S' := by
  obtain ⟨h1, h2, h3, _⟩ := put_get w
  refine ⟨h.len.trans h1.symm, h.nd, fun m o2 e2 => ?_, (Ext.wr h e hl u).kp.tab h.tab⟩
  by_cases hm : m = l
  · subst hm
    rw [h2 (get_lt e)] at e2; cases e2
    exact ⟨a, hl, ho⟩
  · rw [h3 m hm] at e2
    obtain ⟨b, q1, q2, _⟩ := h.mem e2
    refine ⟨b, q1, q2.stay (Ext.wr h e hl u) (upd_ne ?_)⟩
    rintro rfl
    obtain ⟨i1, e1⟩ := List.getElem?_eq_some_iff.mp hl
    obtain ⟨i2, e2⟩ := List.getElem?_eq_some_iff.mp q1
    exact hm ((List.getElem_inj h.nd).mp (e2.trans e1.symm))
end
end R

end
section
/-! Dicts by tuples: ==, a copy, pop. -/
namespace R
open PySem PySem.Spec PyProof.Rows L2
section
variable {prog : Program} {w : World} {K : Type} [DecidableEq K] {knd : HeapKind prog w K} {A : Around} {E : Value → Shared → Prop} {s : Shared} {xs ys : List (K × Addr × Value)} {a b d : Addr}
theorem nodup_at {ks : List K} (nd : ks.Nodup) {i j : Nat} {k : K} (hi : ks[i]? = some k) (hj : ks[j]? = some k) : i = j := by
  obtain ⟨h1, e1⟩ := List.getElem?_eq_some_iff.mp hi
  obtain ⟨h2, e2⟩ := List.getElem?_eq_some_iff.mp hj
  exact (List.getElem_inj nd).mp (e1.trans e2.symm)
/-- the same keys in the same order, alike values -/
theorem pairs_same {nm : String} {Q : Bool → Shared → Prop} (hu : knd.room A) (ha : (a == sysModules) = false) (hb : (b == sysModules) = false) (da : s.heap.DictOfH knd a xs) (db : s.heap.DictOfH knd b ys) (hk : xs.map (·.1) = ys.map (·.1))
    (he : ∀ (i : Nat) x y, xs[i]? = some x → ys[i]? = some y → SeqAt.EqAt A s x.2.2 y.2.2 true) (h : Q true s) : wpAny (model prog w) A (Builtin.Dict.samePairs nm a b) Q E s := by
  obtain ⟨oa, es, ep, hoa, _, hda, hea, hia, hna⟩ := da
  obtain ⟨ob, es', ep', hob, _, hdb, heb, hib, hnb⟩ := db
  have hla : es.size = xs.length := size_of_entries hea
  have hlb : es'.size = ys.length := size_of_entries heb
  have hl : xs.length = ys.length := by have := congrArg List.length hk; simpa using this
  unfold Builtin.Dict.samePairs Builtin.Dict.showsAll
  rw [if_neg (show ¬ (a == sysModules) = true by rw [ha]; exact Bool.false_ne_true), if_neg (show ¬ (b == sysModules) = true by rw [hb]; exact Bool.false_ne_true)]
  refine wpAny_bind (wpAny_pure (wpAny_bind (wpAny_pure ?_)))
  refine wpAny_bind (wpAny_dictEntries hoa hda ?_)
  dsimp only
  refine wpAny_bind (wpAny_dictEntries hob hdb ?_)
  rw [if_neg (by rw [hla, hlb, hl]; simp)]
  refine wpAny_bind (wpAny_dictEpoch hoa hda ?_)
  refine wpAny_bind ?_
  rw [Std.Legacy.Range.forIn_eq_forIn_range']
  simp only [Std.Legacy.Range.size, Nat.sub_zero, Nat.add_sub_cancel, Nat.div_one]
  refine wpAny_forIn_list _ (fun rest q s' => s' = s ∧ q = (none, ()) ∧ ∃ i, rest = List.range' i (es.size - i) ∧ i ≤ es.size) _ ?_ ?_ _ _ ⟨rfl, rfl, 0, by simp, Nat.zero_le _⟩
  · rintro x rest q s' ⟨rfl, rfl, i, hr, hi⟩
    have hlt : i < es.size := by
      rcases Nat.lt_or_ge i es.size with h | h
      · exact h
      · rw [Nat.sub_eq_zero_of_le h] at hr; simp at hr
    obtain ⟨rfl, hrest⟩ : x = i ∧ rest = List.range' (i + 1) (es.size - (i + 1)) := by
      have e : es.size - i = (es.size - (i + 1)) + 1 := by omega
      rw [e, List.range'_succ] at hr
      injection hr with h1 h2
      exact ⟨h1, h2⟩
    obtain ⟨⟨k, c, v⟩, hx⟩ : ∃ y, xs[x]? = some y := ⟨xs[x]'(by omega), List.getElem?_eq_getElem _⟩
    obtain ⟨⟨k', c', v'⟩, hy⟩ : ∃ y, ys[x]? = some y := ⟨ys[x]'(by omega), List.getElem?_eq_getElem _⟩
    have ekk : k' = k := by
      have e := congrArg (fun l => l[x]?) hk
      simp only [List.getElem?_map, hx, hy, Option.map_some] at e
      exact (Option.some.inj e).symm
    subst ekk
    refine wpAny_bind (wpAny_dictEntries hoa hda ?_)
    rw [entry_at hea x, hx]
    show wpAny _ _ (holding [Value.ref c, v] _ >>= _) _ _ _
    refine wpAny_bind (wpAny_holding (wpAny_bind (wpAny_dictFind_heap (k := k') hu (hia _ (List.mem_of_getElem? hx)) hob hdb heb hib hnb (fun hno => absurd hy (hno x _)) fun j p hj => ?_)))
    have ej : j = x := nodup_at hnb (k := k') (by rw [List.getElem?_map, hj]; rfl) (by rw [List.getElem?_map, hy]; rfl)
    subst ej
    rw [hy] at hj
    cases hj
    refine wpAny_bind (wpAny_dictEntries hob hdb ?_)
    rw [entry_at heb j, hy]
    refine wpAny_holding (he j _ _ hx hy prog w _ _ ?_)
    show wpAny _ _ (if (!true) = true then _ else _) _ _ _
    rw [if_neg (by decide)]
    refine wpAny_bind (wpAny_dictEpoch hoa hda ?_)
    rw [if_neg (by simp)]
    exact wpAny_pure ⟨rfl, rfl, j + 1, hrest, hlt⟩
  · rintro q s' ⟨rfl, rfl, i, hr, hi⟩
    exact wpAny_pure h
theorem heq_eq {Q : Value → Shared → Prop} (hr : knd.room A.in1) (hu : A.units < cLine) (ha : (a == sysModules) = false) (hb : (b == sysModules) = false) (da : s.heap.DictOfH knd a xs) (db : s.heap.DictOfH knd b ys) (hk : xs.map (·.1) = ys.map (·.1))
    (he : ∀ (i : Nat) x y, xs[i]? = some x → ys[i]? = some y → SeqAt.EqAt A.in1 s x.2.2 y.2.2 true) (h : Q (.bool true) s) : wpAny (model prog w) A (compareOp .Eq (.ref a) (.ref b)) Q E s := by
  refine wpAny_richCompare_same_room (op := .Eq) da.typeIs db.typeIs PySem.F.slot_dict_eq (wpAny_call_entry PySem.F.slot_dict_eq da.typeIs PySem.F.entry_dict_eq ?_ (PySem.F.args_dict_eq_2 _ _)) hu
  show wpAny _ _ (Builtin.Dict.dictSlotArgs "__eq__" ⟨[.ref a, .ref b], []⟩ >>= _) _ _ s
  refine wpAny_bind ?_
  unfold Builtin.Dict.dictSlotArgs
  refine wpAny_bind (wpAny_notOrdered_dict da.typeIs ?_)
  show wpAny _ _ (pure (Value.ref a, Value.ref b)) _ _ s
  refine wpAny_pure ?_
  refine wpAny_bind (wpAny_isInstance (T := "dict") db.typeIs PySem.F.sub_dict_dict ?_)
  simp only [Bool.not_true, Bool.false_eq_true, if_false]
  refine wpAny_bind (wpAny_pure (wpAny_bind (wpAny_pure ?_)))
  refine wpAny_bind (pairs_same hr ha hb da db hk he ?_)
  refine wpAny_pure ⟨_, rfl, ?_, ?_⟩
  · exact fun x => nomatch x
  · simpa using h
theorem heq_ne {Q : Value → Shared → Prop} (hr : knd.room A.in1) (hu : A.units < cLine) (ha : (a == sysModules) = false) (hb : (b == sysModules) = false) (da : s.heap.DictOfH knd a xs) (db : s.heap.DictOfH knd b ys) (hk : xs.map (·.1) = ys.map (·.1))
    (he : ∀ (i : Nat) x y, xs[i]? = some x → ys[i]? = some y → SeqAt.EqAt A.in1 s x.2.2 y.2.2 true) (h : Q (.bool false) s) : wpAny (model prog w) A (compareOp .NotEq (.ref a) (.ref b)) Q E s := by
  refine wpAny_richCompare_same_room (op := .NotEq) da.typeIs db.typeIs PySem.F.slot_dict_ne (wpAny_call_entry PySem.F.slot_dict_ne da.typeIs PySem.F.entry_dict_ne ?_ (PySem.F.args_dict_ne_2 _ _)) hu
  show wpAny _ _ (Builtin.Dict.dictSlotArgs "__ne__" ⟨[.ref a, .ref b], []⟩ >>= _) _ _ s
  refine wpAny_bind ?_
  unfold Builtin.Dict.dictSlotArgs
  refine wpAny_bind (wpAny_notOrdered_dict da.typeIs ?_)
  show wpAny _ _ (pure (Value.ref a, Value.ref b)) _ _ s
  refine wpAny_pure ?_
  refine wpAny_bind (wpAny_isInstance (T := "dict") db.typeIs PySem.F.sub_dict_dict ?_)
  simp only [Bool.not_true, Bool.false_eq_true, if_false]
  refine wpAny_bind (wpAny_pure (wpAny_bind (wpAny_pure ?_)))
  refine wpAny_bind (pairs_same hr ha hb da db hk he ?_)
  refine wpAny_pure ⟨_, rfl, ?_, ?_⟩
  · exact fun x => nomatch x
  · simpa using h
theorem erase_map {α β : Type} (f : α → β) : ∀ (l : List α) (j : Nat), (l.map f).eraseIdx j = (l.eraseIdx j).map f
  | [], _ => rfl
  | _ :: _, 0 => rfl
  | a :: l, j + 1 => by simp [erase_map f l j]
theorem erase_filter {i : Nat} {x : K × Addr × Value} (nd : (xs.map (·.1)).Nodup) (h : xs[i]? = some x) : xs.eraseIdx i = xs.filter fun y => !decide (y.1 = x.1) := by
  induction xs generalizing i with
  | nil => simp at h
  | cons y r ih =>
    rw [List.map_cons, List.nodup_cons] at nd
    cases i with
    | zero =>
      simp at h
      subst h
      rw [List.eraseIdx_cons_zero, List.filter_cons, if_neg (by simp)]
      refine (List.filter_eq_self.mpr fun z hz => ?_).symm
      have : z.1 ≠ y.1 := fun e => nd.1 (e ▸ List.mem_map.mpr ⟨z, hz, rfl⟩)
      simp [this]
    | succ i =>
      simp at h
      have hm : x.1 ∈ r.map (·.1) := List.mem_map.mpr ⟨x, List.mem_of_getElem? h, rfl⟩
      have hne : y.1 ≠ x.1 := fun e => nd.1 (e ▸ hm)
      rw [List.eraseIdx_cons_succ, List.filter_cons, if_pos (by simp [hne]), ih nd.2 h]
theorem htake {k : K} {p : Addr × Value} {c : Addr} {Q : Option DictEntry → Shared → Prop} (hu : knd.room A) (hkey : knd.is s.heap k c) (hm : s.heap.DictOfH knd d xs) (hp : atKey xs k = some p) (hsz : xs.length ≤ sizeLine)
    (hQ : ∀ h' e, e.val = p.2 → h'.DictOfH knd d (xs.filter fun x => !decide (x.1 = k)) → Heap.SameBut d s.heap h' → Q (some e) { s with heap := h', toks := s.toks + knd.draws k }) : wpAny (model prog w) A (Builtin.Dict.takeOut d (.ref c)) Q E s := by
  obtain ⟨o, es, ep, ho, hc, hd, he, hi, hn⟩ := hm
  have hes : es.size ≤ sizeLine := by rw [size_of_entries he]; exact hsz
  obtain ⟨y, hy, ey⟩ : ∃ y, (xs.find? fun x => decide (x.1 = k)) = some y ∧ y.2 = p := by
    unfold atKey at hp
    cases e : xs.find? fun x => decide (x.1 = k) with
    | none => rw [e] at hp; cases hp
    | some y => rw [e] at hp; cases hp; exact ⟨y, rfl, rfl⟩
  have hyk : y.1 = k := by simpa using List.find?_some hy
  obtain ⟨i0, hi0⟩ := List.getElem?_of_mem (List.mem_of_find?_eq_some hy)
  unfold Builtin.Dict.takeOut
  try with_reducible refine wpAny_holding ?_
  refine wpAny_bind (knd.pyHash hu hkey ?_)
  refine wpAny_bind (wpAny_dictFind_heap (s := { s with toks := s.toks + knd.draws k }) (k := k) hu hkey ho hd he hi hn (fun hno => absurd hi0 (by have := hno i0 y.2; rw [← hyk] at this; exact this)) fun j q hj => ?_)
  have ej : j = i0 := nodup_at hn (k := k) (by rw [List.getElem?_map, hj]; rfl) (by rw [List.getElem?_map, hi0, ← hyk]; rfl)
  subst ej
  refine wpAny_bind (wpAny_dictEntries (s := { s with toks := s.toks + knd.draws k }) ho hd ?_)
  rw [entry_at he j, hi0]
  refine wpAny_bind (wpAny_updateDictKeys (hz := hes) (s := { s with toks := s.toks + knd.draws k }) ho hd (wpAny_pure (hQ _ _ (by rw [← ey]; rfl) ?_ (Heap.SameBut.update ..))))
  refine ⟨_, _, ep + 1, Heap.get?_update_self _ ho (Obj.isFreed_of_dict (Obj.data_mapDictKeys hd _)), hc.mapDictKeys _, Obj.data_mapDictKeys hd _, ?_, fun x hx => ?_, ?_⟩
  · have e1 : (es.eraseIdxIfInBounds j).toList = es.toList.eraseIdx j := by
      obtain ⟨l⟩ := es
      simp
    rw [e1, he, ← hyk, ← erase_filter hn hi0]
    exact erase_map _ _ _
  · exact knd.keeps (hi x (List.mem_filter.mp hx).1) ho hd (Heap.SameBut.update ..)
  · exact hn.sublist ((List.filter_sublist).map _)
/-! ### dict(d) -/
theorem entries_apart {id : String} {o : Obj} {es : Array DictEntry} {ep : Nat} {Q : Array DictEntry → Shared → Prop} (ho : s.heap.get? d = some o) (hd : o.data = .dict es ep) (hty : ∀ e ∈ es, ∃ c, e.key = .ref c ∧ s.TypeIs (.ref c) "tuple") (hh : ∀ e ∈ es, (es.filter (·.hash == e.hash)).size ≤ 1) (h : Q es s) :
    wpAny (model prog w) A (Builtin.Dict.entriesForEmpty id d) Q E s := by
  unfold Builtin.Dict.entriesForEmpty
  refine wpAny_bind (wpAny_dictEntries ho hd ?_)
  refine wpAny_bind ?_
  rw [← Array.forIn_toList]
  refine wpAny_forIn_list _ (fun rest _ s' => s' = s ∧ ∀ e ∈ rest, e ∈ es) _ ?_ ?_ _ _ ⟨rfl, fun e he => Array.mem_toList_iff.mp he⟩
  · rintro e rest q s' ⟨rfl, hr⟩
    have he := hr e (by simp)
    obtain ⟨c, ec, ht⟩ := hty e he
    rw [ec]
    refine wpAny_bind ?_
    unfold Builtin.Dict.quietEq
    refine wpAny_bind (wpAny_specialOf ht F.slot_tuple_eq.lookup (wpAny_pure ?_))
    have : ((some (Value.builtin "tuple.__eq__") == some (Value.builtin "object.__eq__")) : Bool) = false := by decide
    rw [this]
    rw [if_pos (by decide), if_neg (by have := hh e he; omega)]
    exact wpAny_pure ⟨rfl, fun z hz => hr z (by simp [hz])⟩
  · rintro q s' ⟨rfl, _⟩
    exact wpAny_pure h
theorem merge_new {nm : String} {o : Addr} {Q : Unit → Shared → Prop} (hdo : d ≠ o) (hoS : (o == sysModules) = false) (hd : s.heap.DictOfH knd d []) (ho : s.heap.DictOfH knd o xs) (hty : ∀ x ∈ xs, s.TypeIs (.ref x.2.1) "tuple") (hh : (xs.map fun x => knd.hash x.1).Nodup) (hsz : xs.length ≤ sizeLine)
    (hQ : ∀ h', h'.DictOfH knd d xs → Heap.SameBut d s.heap h' → Q () { s with heap := h' }) : wpAny (model prog w) A (Builtin.Dict.mergeDict nm d o) Q E s := by
  obtain ⟨od, esd, epd, hod, hcd, hdd, hed, _, _⟩ := id hd
  obtain ⟨oo, eso, epo, hoo, hco, hdo', heo, hio, hno⟩ := id ho
  have hesd : esd = #[] := by
    have : esd.toList = [] := hed
    exact Array.toList_eq_nil_iff.mp this
  have hlen : eso.size = xs.length := size_of_entries heo
  unfold Builtin.Dict.mergeDict
  rw [if_neg (by simpa using hdo)]
  unfold Builtin.Dict.showsAll
  rw [if_neg (by rw [hoS]; exact Bool.false_ne_true)]
  refine wpAny_bind (wpAny_pure ?_)
  refine wpAny_bind (wpAny_dictEntries hoo hdo' ?_)
  dsimp only
  cases xs with
  | nil =>
    have he0 : eso = #[] := Array.toList_eq_nil_iff.mp heo
    subst he0
    rw [if_neg (by simp)]
    refine wpAny_bind (wpAny_dictEpoch hoo hdo' ?_)
    refine wpAny_bind (wpAny_dictEntries hoo hdo' ?_)
    refine wpAny_bind ?_
    rw [Std.Legacy.Range.forIn_eq_forIn_range']
    simp only [Std.Legacy.Range.size, Nat.sub_zero, Nat.add_sub_cancel, Nat.div_one]
    exact wpAny_pure (wpAny_pure (hQ s.heap hd (Heap.SameBut.refl _ _)))
  | cons x0 xr =>
    have hne : ¬ eso.isEmpty = true := by
      rw [Array.isEmpty_iff]
      intro z
      rw [z] at hlen
      simp at hlen
    have hfew : (decide (eso.size ≤ 8) && eso.all fun e => (keyPart e.key).isSome) = false := by
      rw [Bool.and_eq_false_iff]
      right
      rw [← Array.all_toList, heo, List.map_cons, List.all_cons]
      rfl
    rw [hfew, if_pos (by decide)]
    refine wpAny_bind (wpAny_dictEntries hod hdd ?_)
    rw [hesd, if_pos (by decide)]
    have hmem : ∀ e ∈ eso, ∃ x ∈ x0 :: xr, e = entryOfKey knd x := fun e he => by
      have : e ∈ (x0 :: xr).map (entryOfKey knd) := heo ▸ Array.mem_toList_iff.mpr he
      obtain ⟨x, hx, rfl⟩ := List.mem_map.mp this
      exact ⟨x, hx, rfl⟩
    refine wpAny_bind (entries_apart hoo hdo' (fun e he => ?_) (fun e he => ?_) ?_)
    · obtain ⟨x, hx, rfl⟩ := hmem e he
      exact ⟨_, rfl, hty x hx⟩
    · have e1 : (eso.filter (·.hash == e.hash)).size = (eso.toList.map (·.hash)).count e.hash := by
        rw [← Array.length_toList, Array.toList_filter, List.count_eq_length_filter, List.filter_map, List.length_map]
        rfl
      have e2 : eso.toList.map (·.hash) = (x0 :: xr).map fun x => knd.hash x.1 := by rw [heo, List.map_map]; rfl
      rw [e1, e2]
      exact List.nodup_iff_count.mp hh _
    · rw [if_pos (by simpa using hne)]
      have hto : eso.size ≤ sizeLine + 1 := by omega
      refine wpAny_bind (wpAny_updateDictKeysTo hod hdd (wpAny_pure (hQ _ ⟨_, _, epd + 1, Heap.get?_update_self _ hod (Obj.isFreed_of_dict (Obj.data_mapDictKeys hdd _)), hcd.mapDictKeys _, Obj.data_mapDictKeys hdd _, heo, fun x hx => knd.keeps (hio x hx) hod hdd (Heap.SameBut.update ..), hno⟩ (Heap.SameBut.update ..))) hto)
theorem hcopy {o : Addr} {Q : Value → Shared → Prop} (hoS : (o == sysModules) = false) (ho : s.heap.DictOfH knd o xs) (hty : ∀ x ∈ xs, s.TypeIs (.ref x.2.1) "tuple") (hh : (xs.map fun x => knd.hash x.1).Nodup) (hsz : xs.length ≤ sizeLine) (hpu : ∀ x ∈ xs, knd.is (s.heap.push { cls := .type "dict", data := .dict #[] }) x.1 x.2.1)
    (h : ∀ h', h'.DictOfH knd s.heap.objs.size xs → Heap.SameBut s.heap.objs.size (s.heap.push { cls := .type "dict", data := .dict #[] }) h' → Q (.ref s.heap.objs.size) { s with heap := h' }) :
    wpAny (model prog w) A (call (.type "dict") [.ref o]) Q E s := by
  refine callType_codes (Q₁ := fun obj s₁ => obj = .ref s.heap.objs.size ∧ s₁ = { s with heap := s.heap.push { cls := .type "dict", data := .dict #[] } }) F.kt_called_dict (F.kt_typeCall_dict_1 _) F.entry_dict_init (kt_code_dict_new _ ⟨rfl, rfl⟩) ?_
  rintro obj s₁ ⟨rfl, rfl⟩
  have hnew : (s.heap.push { cls := .type "dict", data := .dict #[] }).DictOfH knd s.heap.objs.size [] := Heap.DictOfH.new s.heap
  have ho' : (s.heap.push { cls := .type "dict", data := .dict #[] }).DictOfH knd o xs := by
    obtain ⟨q, es, ep, h1, h2, h3, h4, _, h6⟩ := ho
    exact ⟨q, es, ep, Heap.get?_push_of_some _ h1, h2, h3, h4, hpu, h6⟩
  have hdo : s.heap.objs.size ≠ o := by
    obtain ⟨_, _, _, hg, _⟩ := ho
    exact fun e => absurd (Heap.lt_size hg) (by rw [e]; exact Nat.lt_irrefl _)
  refine ⟨hnew.typeIs, F.args_dict_init_2 _ _, ?_⟩
  unfold Builtin.«dict.__init__»
  refine wpAny_bind ?_
  unfold Builtin.Dict.selfAndRest
  refine wpAny_bind (wpAny_notOrdered_dict hnew.typeIs ?_)
  show wpAny _ _ (pure (s.heap.objs.size, [Value.ref o])) _ _ _
  refine wpAny_pure ?_
  show wpAny _ _ (Builtin.Dict.updateFrom "dict.__init__" s.heap.objs.size (.ref o) [] .none) _ _ _
  unfold Builtin.Dict.updateFrom
  refine wpAny_bind (wpAny_typeOf ho'.typeIs ?_)
  rw [if_neg (by decide)]
  refine wpAny_bind ?_
  unfold Builtin.Dict.merge
  refine wpAny_bind ?_
  unfold Builtin.Dict.readDirectly
  refine wpAny_bind (wpAny_isInstance ho'.typeIs isSubtype_dict_dict ?_)
  simp only [Bool.not_true, Bool.false_eq_true, if_false]
  refine wpAny_bind (wpAny_specialOf ho'.typeIs F.slot_dict_iter.lookup (wpAny_pure ?_))
  simp only [beq_self_eq_true, if_true]
  refine wpAny_bind (wpAny_pure ?_)
  refine merge_new hdo hoS hnew ho' (fun x hx => ?_) hh hsz fun h' hd' hs' => ?_
  · obtain ⟨q, h1, h2⟩ := hty x hx
    exact ⟨q, Heap.get?_push_of_some _ h1, h2⟩
  · show wpAny _ _ (Builtin.Dict.addKeywords s.heap.objs.size [] >>= _) _ _ _
    exact wpAny_bind (wpAny_pure (wpAny_pure ⟨rfl, h h' hd' hs'⟩))
/-! ### d.pop(k) -/
theorem hpop {k : K} {p : Addr × Value} {c : Addr} {Q : Value → Shared → Prop} (hu : knd.room A.in1) (hkey : knd.is s.heap k c) (hm : s.heap.DictOfH knd d xs) (hp : atKey xs k = some p) (hsz : xs.length ≤ sizeLine)
    (hQ : ∀ h' t, h'.DictOfH knd d (xs.filter fun x => !decide (x.1 = k)) → Heap.SameBut d s.heap h' → Q p.2 { s with heap := h', toks := t }) : wpAny (model prog w) A (call (.builtin "dict.pop") [.ref d, .ref c]) Q E s := by
  have hT := hm.typeIs
  refine wpAny_call_entry PySem.F.slot_dict_pop hT PySem.F.entry_dict_pop ?_ (PySem.F.args_dict_pop_2 _ _)
  obtain ⟨o, es, ep, ho, hc, hd, he, hi, hn⟩ := id hm
  have hne : es.isEmpty = false := by
    cases z : es.isEmpty with
    | false => rfl
    | true =>
      have e0 : es = #[] := Array.isEmpty_iff.mp z
      rw [e0] at he
      have : xs = [] := List.map_eq_nil_iff.mp he.symm
      rw [this] at hp
      cases hp
  unfold Builtin.«dict.pop»
  refine wpAny_bind ?_
  unfold Builtin.Dict.keyAndDefault
  refine wpAny_bind (wpAny_notOrdered_dict hT ?_)
  show wpAny _ _ (pure (d, Value.ref c, none)) _ _ s
  refine wpAny_pure ?_
  dsimp only
  rw [if_neg (by simp [keyPart])]
  refine wpAny_bind (wpAny_dictEntries ho hd ?_)
  refine wpAny_bind (wpAny_pure ?_)
  rw [hne]
  simp only [Bool.false_eq_true, if_false]
  refine wpAny_bind (htake hu hkey hm hp hsz fun h' e ev hd' hs' => ?_)
  simp only [Option.isNone_some, Bool.false_eq_true, if_false]
  exact wpAny_bind (wpAny_letGo (wpAny_pure ⟨e.val, rfl, by rw [ev]; exact hQ h' _ hd' hs'⟩))
end
end R

end
section
/-! Dicts by tuples: ==, in, a copy, pop, over the layer. -/
namespace R
open PySem PySem.Spec PyProof.Rows L2
variable [Mks]
def wVK : Option Int → V | none => .non | some i => .int i
theorem paired_at {α β : Type} {Rl : α → β → Prop} : ∀ {ks : List α} {xs : List β}, Paired Rl ks xs → ∀ {i : Nat} {x : β}, xs[i]? = some x → ∃ p, ks[i]? = some p ∧ Rl p x
  | _, _, .nil, i, x, h => by simp at h
  | _, _, .cons r t, 0, x, h => by simp at h; subst h; exact ⟨_, rfl, r⟩
  | _, _, .cons r t, i + 1, x, h => by
    simp at h
    obtain ⟨p, h1, h2⟩ := paired_at t h
    exact ⟨p, by simpa using h1, h2⟩
theorem kt_keys {H : Hp} : ∀ {ks : List (List Key × V)} {xs : List (List Key × Addr × Value)}, KT H ks xs → xs.map (·.1) = ks.map (·.1)
  | _, _, .nil => rfl
  | _, _, .cons r t => by rw [List.map_cons, List.map_cons, kt_keys t, r.1]
theorem RKs.words {K : PySem.W.Frag} {ι : List Addr} {H : Hp} : ∀ {kvs : List (List Int × D)} {ws : List (List Key × V)} {u : List (List Int × Option Int)}, RKs K ι H kvs ws → wordsK kvs = some u → ws = u.map fun p => (kI p.1, wVK p.2)
  | [], ws, u, r, h => by
    have h : u = [] := by simpa [wordsK] using h.symm
    subst h; exact r
  | (k, d) :: kr, ws, u, r, h => by
    obtain ⟨v, w, rfl, r1, r2⟩ := r
    unfold wordsK at h
    rw [List.mapM_cons] at h
    cases e : wordOf d with
    | none => simp [e] at h
    | some o =>
      cases e2 : kr.mapM fun kv => (wordOf kv.2).map fun w => (kv.1, w) with
      | none => simp [e, e2] at h
      | some t =>
        simp [e, e2] at h
        subst h
        rw [RKs.words r2 (show wordsK kr = some t from e2), List.map_cons]
        congr 2
        cases d with
        | non => cases e; exact r1
        | int i => cases e; exact r1
        | _ => cases e
theorem RKs.drop {K : PySem.W.Frag} {ι : List Addr} {H : Hp} (k : List Int) : ∀ {kvs : List (List Int × D)} {ws : List (List Key × V)}, RKs K ι H kvs ws → RKs K ι H (dropP kvs k) (dropK ws (kI k))
  | [], ws, r => by cases (show ws = [] from r); rfl
  | (j, d) :: kr, ws, r => by
    obtain ⟨v, w, rfl, r1, r2⟩ := r
    have ih := RKs.drop k r2
    unfold dropP dropK at ih ⊢
    by_cases c : j = k
    · subst c
      rw [List.filter_cons, if_neg (by simp), List.filter_cons, if_neg (by simp)]
      exact ih
    · have c2 : kI j ≠ kI k := fun z => c (kI_inj z)
      rw [List.filter_cons, if_pos (by simp [c]), List.filter_cons, if_pos (by simp [c2])]
      exact ⟨v, _, rfl, r1, ih⟩
section
variable {X : Cx} {pins : List (Addr × Obj)} {σ : L2.St} {H : Hp} {s : Shared} {a b : Addr} {A : Around} {E : Value → Shared → Prop}
theorem dT_vals {u : List (List Int × Option Int)} {xs ys : List (List Key × Addr × Value)} (r1 : KT H (u.map fun p => (kI p.1, wVK p.2)) xs) (r2 : KT H (u.map fun p => (kI p.1, wVK p.2)) ys) : ∀ (i : Nat) x y, xs[i]? = some x → ys[i]? = some y → SeqAt.EqAt A s x.2.2 y.2.2 true := fun i x y hx hy => by
  obtain ⟨p, h1, _, _, h2⟩ := paired_at r1 hx
  obtain ⟨q, g1, _, _, g2⟩ := paired_at r2 hy
  rw [h1] at g1
  cases g1
  rw [List.getElem?_map] at h1
  cases e : u[i]? with
  | none => rw [e] at h1; cases h1
  | some w =>
    rw [e] at h1
    cases h1
    obtain ⟨k, o⟩ := w
    cases o with
    | none =>
      have e1 : x.2.2 = Value.none := h2
      have e2 : y.2.2 = Value.none := g2
      rw [e1, e2]
      exact SeqAt.EqAt.same _
    | some z =>
      obtain ⟨t, e1⟩ := (show ∃ t, x.2.2 = Value.int z t from h2)
      obtain ⟨t', e2⟩ := (show ∃ t, y.2.2 = Value.int z t from g2)
      rw [e1, e2]
      have := SeqAt.EqAt.int_int (A := A) (s := s) z t z t'
      simpa using this
theorem dT_eq {u : List (List Int × Option Int)} {Q : Value → Shared → Prop} (hu : A.units + 1 < cLine) (I : Inv X pins σ H s) (h1 : H a = some (.dT (u.map fun p => (kI p.1, wVK p.2)))) (h2 : H b = some (.dT (u.map fun p => (kI p.1, wVK p.2)))) (h : Q (.bool true) s) : wpAny (model X.prog X.w) A (compareOp .Eq (.ref a) (.ref b)) Q E s := by
  obtain ⟨_, s1, xs, r1, d1⟩ := dt_of I.hok h1
  obtain ⟨_, s2, ys, r2, d2⟩ := dt_of I.hok h2
  exact heq_eq (tupleKind_room_in1 hu) (by omega) s1 s2 d1 d2 ((kt_keys r1).trans (kt_keys r2).symm) (dT_vals r1 r2) h
theorem dT_ne {u : List (List Int × Option Int)} {Q : Value → Shared → Prop} (hu : A.units + 1 < cLine) (I : Inv X pins σ H s) (h1 : H a = some (.dT (u.map fun p => (kI p.1, wVK p.2)))) (h2 : H b = some (.dT (u.map fun p => (kI p.1, wVK p.2)))) (h : Q (.bool false) s) : wpAny (model X.prog X.w) A (compareOp .NotEq (.ref a) (.ref b)) Q E s := by
  obtain ⟨_, s1, xs, r1, d1⟩ := dt_of I.hok h1
  obtain ⟨_, s2, ys, r2, d2⟩ := dt_of I.hok h2
  exact heq_ne (tupleKind_room_in1 hu) (by omega) s1 s2 d1 d2 ((kt_keys r1).trans (kt_keys r2).symm) (dT_vals r1 r2) h
theorem KT.drop {k : List Key} : ∀ {ks : List (List Key × V)} {xs : List (List Key × Addr × Value)}, KT H ks xs → KT H (dropK ks k) (xs.filter fun x => !decide (x.1 = k))
  | _, _, .nil => .nil
  | _, _, .cons (a := p) (b := q) r t => by
    have ih := KT.drop (k := k) t
    unfold dropK at ih ⊢
    by_cases c : p.1 = k
    · rw [List.filter_cons, if_neg (by simp [c]), List.filter_cons, if_neg (by simp [← r.1, c])]
      exact ih
    · rw [List.filter_cons, if_pos (by simp [c]), List.filter_cons, if_pos (by simp [← r.1, c])]
      exact .cons r ih
/-- dict(d) -/
theorem copy_T : CallR X (.type "dict") (fun xs H Q => ∃ a ws, xs = [.ref a] ∧ H a = some (.dT ws) ∧ (ws.map fun p => (tupleKind (mixKind X.prog X.w)).hash p.1).Nodup ∧ ∀ p, H p = none → Q (.ref p) (upd H p (.dT ws))) := by
  intro pins s σ H xs us Q I r h
  obtain ⟨a, ws, rfl, e, hh, q⟩ := h
  obtain ⟨u, rfl, ru⟩ := r.one
  cases (show u = Value.ref a from ru)
  obtain ⟨z, hd, ys, rel, dd⟩ := dt_of I.hok e
  have hk : ∀ y ∈ ys, (tupleKind (mixKind X.prog X.w)).is s.heap y.1 y.2.1 := by
    obtain ⟨_, _, _, _, _, _, _, h6, _⟩ := dd
    exact h6
  have hty : ∀ y ∈ ys, s.TypeIs (.ref y.2.1) "tuple" := fun y hy => IsTupleKey.typeIs (hk y hy)
  have hpu : ∀ y ∈ ys, (tupleKind (mixKind X.prog X.w)).is (s.heap.push { cls := .type "dict", data := .dict #[] }) y.1 y.2.1 := fun y hy => by
    obtain ⟨o, items, n, h1, h2⟩ := hk y hy
    exact ⟨o, items, n, Heap.get?_push_of_some _ h1, h2⟩
  have hh2 : (ys.map fun x => (tupleKind (mixKind X.prog X.w)).hash x.1).Nodup := by
    have e1 : (ys.map fun x => (tupleKind (mixKind X.prog X.w)).hash x.1) = (ys.map (·.1)).map (tupleKind (mixKind X.prog X.w)).hash := by rw [List.map_map]; rfl
    have e2 : (ws.map fun x => (tupleKind (mixKind X.prog X.w)).hash x.1) = (ws.map (·.1)).map (tupleKind (mixKind X.prog X.w)).hash := by rw [List.map_map]; rfl
    rw [e1, kt_keys rel, ← e2]
    exact hh
  have hn : H s.heap.objs.size = none := I.hok.fresh (Nat.le_refl _)
  refine hcopy hd dd hty hh2 (by rw [← Paired.length rel]; exact z) hpu fun h' dd' hs => ?_
  refine ⟨.ref s.heap.objs.size, upd H s.heap.objs.size (.dT ws), I.laid (a := s.heap.objs.size) (o := .dT ws) (t' := s.toks) (fun b q hq => (hs.2 b (Nat.ne_of_lt (Heap.lt_size hq))).trans (Heap.get?_push_of_some _ hq)) (Nat.le_refl _) ?_, rfl, q _ hn⟩
  obtain ⟨q', es, ep, hq, h2, h3, h4, _, h5⟩ := dd'
  exact ⟨z, beq_eq_false_iff_ne.mpr (Ne.symm (Nat.ne_of_lt I.big)), ys, rel.keeps fun c vs ec => (by rw [upd_ne (fun z => by rw [z, hn] at ec; cases ec)]; exact ec), q', es, ep, hq, h2, h3, h4, h5⟩
/-- d.pop(k) -/
def tDPopT (td ty : TE) : TE := fun σ H Q => td σ H fun x H1 => ∃ a, x = .ref a ∧ IsD H1 a ∧ ty σ H1 fun y H2 => ∃ ws k b v, H2 a = some (.dT ws) ∧ y = .ref b ∧ H2 b = some (.tup (k.map kV)) ∧ valV ws k = some v ∧ Q v (upd H2 a (.dT (dropK ws k)))
theorem pe_dpopT {o e : Expr} {apos cpos : Pos} {td ty : TE} (hu : X.A.units + 1 < cLine) (ho : PE X o td) (he : PE X e ty) (m : M1 X o "pop" apos e cpos) : PE X (.Call (.Attribute o "pop" apos) [e] [] cpos) (tDPopT td ty) := by
  intro pins s σ H Q I h
  refine wpAny_Call_method m.base m.few m.line PySem.F.plainAttrs_dict PySem.F.slot_dict_pop PySem.F.type_dict_pop (thn (ho pins s σ H _ I h) fun u s1 ⟨x, H1, I1, rx, a, ex, d, q1⟩ => ?_)
  subst ex
  obtain rfl : u = Value.ref a := rx
  obtain ⟨t1, t2, _⟩ := isD_at I1 d
  refine ⟨t1, t2, ?_⟩
  rw [m.trees]
  refine Calls.callWith_builtin rfl (Calls.evalArgs_plain (Calls.spliced_cons (thn (he pins s1 σ H1 _ I1 q1) fun iv s2 ⟨y, H2, I2, ry, ws, k, b, v, ea, ey, eb, l, q2⟩ => Calls.spliced_nil ?_)))
  subst ey
  cases (show iv = Value.ref b from ry)
  obtain ⟨z, hd, xs, rel, dd⟩ := dt_of I2.hok ea
  obtain ⟨w', hw, rw'⟩ := RelO.some_of (v := v) (o := (atKey xs k).map (·.2)) (by rw [← l]; exact rel.val k)
  obtain ⟨p, hp, hp2⟩ := Option.map_eq_some_iff.mp hw
  refine hpop (tupleKind_room_in1 hu) (key_of I2.hok eb) dd hp (by rw [← Paired.length rel]; exact z) fun h' t dd' hs => ?_
  obtain ⟨q', es, ep, hq, h2, h3, h4, _, h5⟩ := dd'
  refine ⟨v, upd H2 a (.dT (dropK ws k)), d_write (ob := .dT (dropK ws k)) (t' := t) I2 (by rw [ea]; exact True.intro) hs ⟨q', hq⟩ ⟨Nat.le_trans (dropK_le ws k) z, hd, _, (KT.drop (k := k) rel).keeps fun c ys ec => ?_, q', es, ep, hq, h2, h3, h4, h5⟩, by rw [hp2]; exact rw', q2⟩
  rw [upd_ne (ne_of ec ea (fun z => nomatch z))]
  exact ec
end
theorem dKvs_inv {S : R.St} {d : D} {kvs : List (List Int × D)} (h : dKvs S d = some kvs) : ∃ l, d = .ref l ∧ S.get l = some (.dtp kvs) := by
  cases d with
  | ref l =>
    refine ⟨l, rfl, ?_⟩
    unfold dKvs at h
    dsimp only at h
    cases e : S.get l with
    | none => rw [e] at h; cases h
    | some o =>
      rw [e] at h
      cases o with
      | dtp k => cases h; rfl
      | _ => cases h
  | _ => cases h
theorem key_ok' {K : PySem.W.Frag} {ι : List Addr} {H : Hp} {y : D} {v : V} {k : List Int} (r : RV K ι H y v) (h : keyOf y = some k) : ∃ b, v = .ref b ∧ H b = some (.tup ((kI k).map kV)) := by
  cases y with
  | tup ds =>
    obtain ⟨b, xs, rfl, hb, rr⟩ := r
    simp only [keyOf] at h
    rw [ints_map h] at rr
    rw [rr.ints_eq] at hb
    refine ⟨b, rfl, ?_⟩
    rw [hb]
    unfold kI
    rw [List.map_map]; rfl
  | _ => cases h
theorem eqAny_ex {K : PySem.W.Frag} {ι : List Addr} {H : Hp} {S : R.St} {d e : D} {x y : V} {k : Bool} (hH : RH K ι H S) (hd : RV K ι H d x) (he : RV K ι H e y) (h : eqAny S d e = some k) :
    (∃ (u : List (List Int × Option Int)) (a b : Addr), x = .ref a ∧ y = .ref b ∧ H a = some (.dT (u.map fun p => (kI p.1, wVK p.2))) ∧ H b = some (.dT (u.map fun p => (kI p.1, wVK p.2))) ∧ k = true) ∨ eqD S d e = some k := by
  unfold eqAny at h
  split at h
  · rename_i ka kb e1 e2
    left
    obtain ⟨l, rfl, g1⟩ := dKvs_inv e1
    obtain ⟨m, rfl, g2⟩ := dKvs_inv e2
    obtain ⟨a, i1, rfl⟩ := hd
    obtain ⟨b, i2, rfl⟩ := he
    obtain ⟨a', j1, _, ws, ha, rk⟩ := hH.obj l _ g1
    rw [i1] at j1; cases j1
    obtain ⟨b', j2, _, us, hb, rl⟩ := hH.obj m _ g2
    rw [i2] at j2; cases j2
    unfold eqK at h
    cases w1 : wordsK ka with
    | none => rw [w1] at h; cases h
    | some u =>
      cases w2 : wordsK kb with
      | none => rw [w1, w2] at h; cases h
      | some v =>
        rw [w1, w2] at h
        dsimp only [Option.bind_some] at h
        split at h
        · rename_i c
          subst c
          cases h
          rw [rk.words w1] at ha
          rw [rl.words w2] at hb
          exact ⟨u, a, b, rfl, rfl, ha, hb, rfl⟩
        · cases h
  · exact .inr h
theorem inAny_ex {K : PySem.W.Frag} {ι : List Addr} {H : Hp} {S : R.St} {d e : D} {x y : V} {k : Bool} (hH : RH K ι H S) (hd : RV K ι H d x) (he : RV K ι H e y) (h : inAny S d e = some k) :
    (∃ a o, y = .ref a ∧ DGet H a x o ∧ k = o.isSome) ∨ ((seqOf S e).bind fun ys => inD S d ys) = some k := by
  unfold inAny at h
  split at h
  · rename_i kvs e1
    left
    obtain ⟨l, rfl, g1⟩ := dKvs_inv e1
    obtain ⟨a, i1, rfl⟩ := he
    obtain ⟨a', j1, _, ws, ha, rk⟩ := hH.obj l _ g1
    rw [i1] at j1; cases j1
    cases ek : keyOf d with
    | none => rw [ek] at h; cases h
    | some kk =>
      rw [ek] at h
      cases h
      obtain ⟨b, rfl, hb⟩ := key_ok' hd ek
      refine ⟨a, _, rfl, DGet.t ha hb, ?_⟩
      rcases rk.val kk with ⟨e1, e2⟩ | ⟨d, v, e1, e2, _⟩
      · dsimp only; rw [e1, e2]; rfl
      · dsimp only; rw [e1, e2]; rfl
  · exact .inr h
end R

end
section
/-! The interpreter is sound: operations on values. -/
namespace R
open PySem PySem.Spec PyProof.Rows L2
variable [Mks]
/-- what is wanted of a value, over the heap -/
def Lf (K : PySem.W.Frag) (ι : List Addr) (H : Hp) (Q : D → R.St → Prop) : VK := fun v H' => ∃ d ι' S', Ext ι H ι' H' ∧ RV K ι' H' d v ∧ RH K ι' H' S' ∧ Q d S'
section
variable {K : PySem.W.Frag} {ι ι' : List Addr} {H H' : Hp} {S S' : R.St} {Q : D → R.St → Prop} {d : D} {v : V} {p : Addr}
theorem Lf.of (h : RH K ι H S) (r : RV K ι H d v) (q : Q d S) : Lf K ι H Q v H := ⟨d, ι, S, Ext.refl ι H, r, h, q⟩
theorem Lf.up (x : Ext ι H ι' H') (h : Lf K ι' H' Q v p') : Lf K ι H Q v p' := by
  obtain ⟨d, ι2, S2, x2, r⟩ := h
  exact ⟨d, ι2, S2, x.trans x2, r⟩
/-- a new tuple -/
theorem Lf.tup (h : RH K ι H S) (hp : H p = Option.none) {ds : List D} {xs : List V} (r : RVs K ι H ds xs) (q : Q (.tup ds) S) : Lf K ι H Q (.ref p) (upd H p (.tup xs)) :=
  ⟨.tup ds, ι, S, Ext.new hp _, ⟨p, xs, rfl, upd_same, r.ext (Ext.new hp _)⟩, h.new hp _, q⟩
/-- a new list -/
theorem Lf.lst (h : RH K ι H S) (hp : H p = Option.none) {ds : List D} {xs : List V} (r : RVs K ι H ds xs) (q : Q (.ref S.len) (S.push (.lst ds))) : Lf K ι H Q (.ref p) (upd H p (.lst xs)) :=
  ⟨.ref S.len, ι ++ [p], S.push (.lst ds), Ext.obj h hp _, ⟨p, h.last p, rfl⟩, h.lay hp r, q⟩
theorem Lf.wr (h : RH K ι H S) {l : Nat} {a : Addr} {o : MO} {ds : List D} {xs : List V} (e : S.get l = some o) (hl : ι[l]? = some a) (w : S.put l (.lst ds) = some S') (r : RVs K ι H ds xs) (rv : RV K ι H d v) (q : Q d S') : Lf K ι H Q v (upd H a (.lst xs)) :=
  ⟨d, ι, S', Ext.wr h e hl _, rv.ext (Ext.wr h e hl _), h.wr e hl w ⟨xs, upd_same, r.ext (Ext.wr h e hl _)⟩, q⟩
end
theorem lay_ex {S : R.St} {ds : List D} {Q : D → R.St → Prop} (h : W (lay S ds) Q) : ds.length ≤ sizeLine ∧ Q (.ref S.len) (S.push (.lst ds)) := by
  unfold lay at h
  split at h
  · rename_i c; exact ⟨by rw [sizeLine_eq]; exact c, h⟩
  · exact h.elim
theorem wr_ex {S : R.St} {l : Nat} {ds : List D} {d : D} {Q : D → R.St → Prop} (h : W (wr S l ds d) Q) : ds.length ≤ sizeLine ∧ ∃ S', S.put l (.lst ds) = some S' ∧ Q d S' := by
  unfold wr at h
  split at h
  · rename_i c
    refine ⟨by rw [sizeLine_eq]; exact c, ?_⟩
    cases e : S.put l (.lst ds) with
    | none => rw [e] at h; exact h.elim
    | some S' => rw [e] at h; exact ⟨S', rfl, h⟩
  · exact h.elim
/-- a two-place operation on data -/
def rD2 (K : PySem.W.Frag) (f : R.St → D → D → Out D) : R2 := fun x y H Qv => ∃ ι S d e Qd, RV K ι H d x ∧ RV K ι H e y ∧ RH K ι H S ∧ W (f S d e) Qd ∧ ∀ v H', Lf K ι H Qd v H' → Qv v H'
section
variable {X : Cx}
theorem cat_tup0 {prog : Program} {w : World} {A : Around} {E : Value → Shared → Prop} {s : Shared} {t b : Addr} {vs ws : List Value} {Q : Value → Shared → Prop} (ht : IsTup s.heap t vs.toArray) (hb : IsTup s.heap b ws.toArray) (hv : vs = [])
    (h1 : Q (.ref b) s) : wpAny (model prog w) A (binaryOp .Add (.ref t) (.ref b)) Q E s := by
  obtain ⟨⟨cls, dd, data, sl⟩, ho, hc, n, hd⟩ := id ht
  obtain ⟨⟨cls2, dd2, data2, sl2⟩, ho2, hc2, n2, hd2⟩ := id hb
  simp only at hc hd hc2 hd2
  subst hc hd hc2 hd2
  exact concat_meets ⟨_, ho, rfl⟩ ⟨_, ho2, rfl⟩ noFill_tuple_add seq_tuple_add PySem.F.slot_tuple_add PySem.F.entry_tuple_add (PySem.F.args_tuple_add_2 _ _)
      (tuple_addW0 t b vs.toArray ws.toArray n n2 dd dd2 sl sl2 (by simp [hv])) ⟨ho, ho2, h1⟩
theorem op_catT0 : OpR X (binaryOp .Add) (fun x y H Q => ∃ a b ys, x = .ref a ∧ y = .ref b ∧ SqT X.K H a [] ∧ SqT X.K H b ys ∧ Q (.ref b) H) := by
  intro pins s σ H x y v u Q I rx ry h
  obtain ⟨a, b, ys, rfl, rfl, ha, hb, q⟩ := h
  cases rx
  cases ry
  obtain ⟨its, r1, p1, _⟩ := I.tuple ha
  obtain ⟨its2, r2, p2, _⟩ := I.tuple hb
  exact cat_tup0 p1 p2 (r1.nil_iff.mpr rfl) ⟨.ref b, H, I, rfl, q⟩
theorem bin_ok (op : Operator) : OpR X (binaryOp op) (rD2 X.K fun S d e => binD S op d e) := by
  intro pins s σ H x y v u Qv I rx ry ⟨ι, S, d, e, Qd, hd, he, hH, hw, q⟩
  dsimp only at hw
  unfold binD at hw
  split at hw
  · rename_i i j
    obtain rfl : x = .int i := hd
    obtain rfl : y = .int j := he
    have fin : ∀ k : Int, Qd (.int k) S → Qv (.int k) H := fun k hk => q _ _ (Lf.of (d := .int k) hH rfl hk)
    unfold binI at hw
    split at hw
    · exact op_add pins s σ H _ _ v u Qv I rx ry ⟨i, j, rfl, rfl, fin _ hw⟩
    · exact op_sub pins s σ H _ _ v u Qv I rx ry ⟨i, j, rfl, rfl, fin _ hw⟩
    · split at hw
      · rename_i c
        refine op_mul pins s σ H _ _ v u Qv I rx ry ⟨i, j, rfl, rfl, ?_, fin _ hw⟩
        unfold mulOk at c
        rw [Bool.or_eq_true, decide_eq_true_eq, decide_eq_true_eq] at c
        exact c
      · exact hw.elim
    · split at hw
      · rename_i c
        exact op_fdiv pins s σ H _ _ v u Qv I rx ry ⟨i, j, rfl, rfl, c, fin _ hw⟩
      · exact hw.elim
    · split at hw
      · rename_i c
        exact op_mod pins s σ H _ _ v u Qv I rx ry ⟨i, j, rfl, rfl, c, fin _ hw⟩
      · exact hw.elim
    · split at hw
      · rename_i c
        exact op_pow pins s σ H _ _ v u Qv I rx ry ⟨i, j, rfl, rfl, ⟨c.1, c.2.1, by omega⟩, fin _ hw⟩
      · exact hw.elim
    · exact hw.elim
  · rename_i xs ys
    split at hw
    · split at hw
      · rename_i c
        obtain ⟨a, us, rfl, ha, r1⟩ := hd
        obtain ⟨b, ws, rfl, hb, r2⟩ := he
        by_cases hn : us = []
        · subst hn
          have hx : xs = [] := by
            have := r1.length
            simpa using this.symm
          subst hx
          refine op_catT0 pins s σ H _ _ v u Qv I rx ry ⟨a, b, ws, rfl, rfl, SqT.of ha, SqT.of hb, ?_⟩
          exact q _ _ (Lf.of (d := .tup ys) hH ⟨b, ws, rfl, hb, r2⟩ (by simpa using hw))
        · refine op_catT pins s σ H _ _ v u Qv I rx ry ⟨a, b, us, ws, rfl, rfl, SqT.of ha, SqT.of hb, hn, ?_, fun hy => ?_, fun hy p hp => ?_⟩
          · rw [r1.length, r2.length, sizeLine_eq]; exact c
          · subst hy
            have hx : ys = [] := by
              have := r2.length
              simpa using this.symm
            subst hx
            exact q _ _ (Lf.of (d := .tup xs) hH ⟨a, us, rfl, ha, r1⟩ (by simpa using hw))
          · exact q _ _ (Lf.tup hH hp (r1.append r2) hw)
      · exact hw.elim
    · exact hw.elim
  · rename_i a b
    split at hw
    · rename_i xs ys e1 e2
      obtain ⟨a1, h1, rfl⟩ := hd
      obtain ⟨b1, h2, rfl⟩ := he
      obtain ⟨a2, h3, us, ha, r1⟩ := hH.obj _ _ e1
      obtain ⟨b2, h4, ws, hb, r2⟩ := hH.obj _ _ e2
      rw [h1] at h3; cases h3
      rw [h2] at h4; cases h4
      obtain ⟨z, hq⟩ := lay_ex hw
      refine op_cat pins s σ H _ _ v u Qv I rx ry ⟨a1, b1, us, ws, rfl, rfl, ha, hb, ?_, fun p hp => ?_⟩
      · rw [r1.length, r2.length]; rw [List.length_append] at z; exact z
      · exact q _ _ (Lf.lst hH hp (r1.append r2) hq)
    · exact hw.elim
  · exact hw.elim

/-! ### data -/
theorem mapM_cons_some {α β : Type} {f : α → Option β} {x : α} {xs : List α} {ys : List β} (h : (x :: xs).mapM f = some ys) : ∃ y r, f x = some y ∧ xs.mapM f = some r ∧ ys = y :: r := by
  rw [List.mapM_cons] at h
  cases e : f x with
  | none => rw [e] at h; cases h
  | some y =>
    rw [e] at h
    cases e2 : xs.mapM f with
    | none => rw [e2] at h; cases h
    | some r => rw [e2] at h; injection h with h; exact ⟨y, r, rfl, rfl, h.symm⟩
theorem pd_ok {ι : List Addr} {H : Hp} {S : R.St} (hH : RH X.K ι H S) : ∀ (n : Nat) (d : D) (pdd : PyData) (v : V), pd S n d = some pdd → RV X.K ι H d v → Rep H pdd v ∧ pdd.canLay0 = true ∧ pdd.depth ≤ n := by
  intro n
  induction n with
  | zero =>
    intro d p v h r
    cases d <;> simp only [pd] at h
    · cases h; exact ⟨r, rfl, Nat.le_refl _⟩
    · cases h; exact ⟨r, rfl, Nat.le_refl _⟩
    · cases h; exact ⟨r, rfl, Nat.le_refl _⟩
    · split at h
      · rename_i c; cases h; exact ⟨r, c, Nat.le_refl _⟩
      · cases h
    all_goals cases h
  | succ n ih =>
    have all : ∀ (ds : List D) (ps : List PyData) (vs : List V), ds.mapM (pd S n) = some ps → RVs X.K ι H ds vs → RepAll H ps vs ∧ PyData.canLayAll0 ps = true ∧ PyData.depthAll ps ≤ n := by
      intro ds
      induction ds with
      | nil =>
        intro ps vs h r
        have h : ps = [] := by simpa using h.symm
        subst h
        exact ⟨r, rfl, Nat.zero_le _⟩
      | cons d ds ihd =>
        intro ps vs h r
        obtain ⟨y, rr, h1, h2, rfl⟩ := mapM_cons_some h
        obtain ⟨v, w, rfl, r1, r2⟩ := r
        obtain ⟨a1, a2, a3⟩ := ih d y v h1 r1
        obtain ⟨b1, b2, b3⟩ := ihd rr w h2 r2
        refine ⟨⟨v, w, rfl, a1, b1⟩, by simp [PyData.canLayAll0, a2, b2], ?_⟩
        simp only [PyData.depthAll]
        omega
    intro d p v h r
    cases d with
    | non => simp only [pd] at h; cases h; exact ⟨r, rfl, Nat.zero_le _⟩
    | bl b => simp only [pd] at h; cases h; exact ⟨r, rfl, Nat.zero_le _⟩
    | int i => simp only [pd] at h; cases h; exact ⟨r, rfl, Nat.zero_le _⟩
    | str x =>
      simp only [pd] at h
      split at h
      · rename_i c; cases h; exact ⟨r, c, Nat.zero_le _⟩
      · cases h
    | tup ds =>
      simp only [pd] at h
      cases e : ds.mapM (pd S n) with
      | none => rw [e] at h; cases h
      | some ps =>
        rw [e] at h
        have h : PyData.tuple ps = p := by simpa using h
        subst h
        obtain ⟨a, xs, rfl, ha, rr⟩ := r
        obtain ⟨b1, b2, b3⟩ := all ds ps xs e rr
        refine ⟨⟨a, xs, rfl, ha, b1⟩, by simp [PyData.canLay0, b2], ?_⟩
        simp only [PyData.depth]
        omega
    | ref l =>
      simp only [pd] at h
      split at h
      · rename_i ds eg
        cases e : ds.mapM (pd S n) with
        | none => rw [e] at h; cases h
        | some ps =>
          rw [e] at h
          have h : PyData.list ps = p := by simpa using h
          subst h
          obtain ⟨a, h1, rfl⟩ := r
          obtain ⟨a2, h2, xs, ha, rr⟩ := hH.obj _ _ eg
          rw [h1] at h2; cases h2
          obtain ⟨b1, b2, b3⟩ := all ds ps xs e rr
          refine ⟨⟨a, xs, rfl, ha, b1⟩, by simp [PyData.canLay0, b2], ?_⟩
          simp only [PyData.depth]
          omega
      · cases h
    | fix ds => simp only [pd] at h; cases h
/-- comparisons -/
def rC2 (K : PySem.W.Frag) (op : CmpOp) : R2 := fun x y H Qv => ∃ ι S d e k, RV K ι H d x ∧ RV K ι H e y ∧ RH K ι H S ∧ cmpD S op d e = some k ∧ Qv (.bl k) H
theorem eqD_ex {S : R.St} {d e : D} {k : Bool} (h : eqD S d e = some k) : ∃ a b, pd S 60 d = some a ∧ pd S 60 e = some b ∧ k = PyData.eqv a b := by
  unfold eqD at h
  cases e1 : pd S 60 d with
  | none => rw [e1] at h; cases h
  | some a =>
    rw [e1] at h
    cases e2 : pd S 60 e with
    | none => rw [e2] at h; cases h
    | some b => rw [e2] at h; injection h with h; exact ⟨a, b, rfl, rfl, h.symm⟩
open Classical in
/-- is x one of the things of a list or a tuple? by data -/
noncomputable def eqRd (h : Heap) (p : PyData) (u : Value) : Bool := if c : ∃ q as, Reads h u q as ∧ q.canLay0 = true then PyData.eqv c.choose p else false
theorem eqRd_of {h : Heap} {p q : PyData} {u : Value} {as : List Addr} (r : Reads h u q as) (c : q.canLay0 = true) : eqRd h p u = PyData.eqv q p := by
  have ex : ∃ q as, Reads h u q as ∧ q.canLay0 = true := ⟨q, as, r, c⟩
  unfold eqRd
  rw [dif_pos ex]
  obtain ⟨as', r', c'⟩ := ex.choose_spec
  rw [SeqAt.Reads.unique _ _ _ _ _ c r r']
theorem in_reads {ι : List Addr} {H : Hp} {S : R.St} {pins : List (Addr × Obj)} {σ : L2.St} {s : Shared} {A : Around} (I : Inv X pins σ H s) (hA : A.units + 62 < cLine) (hH : RH X.K ι H S) {x : D} {px : PyData} {vx : V} {ux : Value} (hx : pd S 60 x = some px) (rx : RV X.K ι H x vx) (qx : RelV vx ux) :
    ∀ {ds : List D} {vs : List V} {us : List Value} {bs : List Bool}, RVs X.K ι H ds vs → Vals vs us → ds.mapM (fun z => eqD S z x) = some bs → us.any (eqRd s.heap px) = bs.any id ∧ ∀ u ∈ us, SeqAt.EqAt A s u ux (eqRd s.heap px u) := by
  obtain ⟨x1, x2, x3⟩ := pd_ok hH 60 x px vx hx rx
  obtain ⟨asx, rdx⟩ := Rep.reads I px vx ux x1 qx
  intro ds
  induction ds with
  | nil =>
    intro vs us bs r rv h
    cases (show vs = [] from r)
    cases rv
    have h : bs = [] := by simpa using h.symm
    subst h
    exact ⟨rfl, fun u hu => nomatch hu⟩
  | cons d ds ih =>
    intro vs us bs r rv h
    obtain ⟨v, w, rfl, r1, r2⟩ := r
    obtain ⟨b, rr, e, h2, rfl⟩ := mapM_cons_some h
    cases rv with
    | cons q1 q2 =>
      rename_i u us'
      obtain ⟨a, b', e1, e2, rfl⟩ := eqD_ex e
      rw [hx] at e2; cases e2
      obtain ⟨p1, p2, p3⟩ := pd_ok hH 60 d a v e1 r1
      obtain ⟨as, rd⟩ := Rep.reads I a v u p1 q1
      have hq := eqRd_of (p := px) rd p2
      obtain ⟨i1, i2⟩ := ih r2 q2 h2
      refine ⟨by simp [hq, i1], fun z hz => ?_⟩
      rcases List.mem_cons.mp hz with rfl | hz
      · rw [hq]
        exact SeqAt.eqAt_reads a px A s z ux as asx rd rdx p2 x2 (by omega)
      · exact i2 z hz
theorem seq_ok {ι : List Addr} {H : Hp} {S : R.St} (hH : RH X.K ι H S) {d : D} {v : V} {ds : List D} (h : seqOf S d = some ds) (r : RV X.K ι H d v) : ∃ a xs, v = .ref a ∧ (SqL X.K H a xs ∨ SqT X.K H a xs) ∧ RVs X.K ι H ds xs := by
  cases d with
  | tup es =>
    cases h
    obtain ⟨a, xs, rfl, ha, rr⟩ := r
    exact ⟨a, xs, rfl, .inr (SqT.of ha), rr⟩
  | fix es =>
    cases h
    obtain ⟨a, xs, rfl, ha, rr⟩ := r
    exact ⟨a, xs, rfl, .inl ha.sq, rr⟩
  | ref l =>
    simp only [seqOf] at h
    split at h
    · rename_i ds' e
      cases h
      obtain ⟨a, h1, rfl⟩ := r
      obtain ⟨a2, h2, xs, ha, rr⟩ := hH.obj _ _ e
      rw [h1] at h2; cases h2
      exact ⟨a, xs, rfl, .inl (SqL.of ha), rr⟩
    · cases h
  | _ => cases h
theorem inD_ex {S : R.St} {x : D} {ys : List D} {k : Bool} (h : inD S x ys = some k) : ∃ bs, ys.mapM (fun z => eqD S z x) = some bs ∧ k = bs.any id := by
  unfold inD at h
  cases e : ys.mapM (fun z => eqD S z x) with
  | none => rw [e] at h; cases h
  | some bs => rw [e] at h; injection h with h; exact ⟨bs, rfl, h.symm⟩
theorem lexLt_eq : ∀ (as bs : List Int), R.lexLt as bs = HT.lexLt as bs
  | [], [] => by simp [R.lexLt, HT.lexLt]
  | [], _ :: _ => by simp [R.lexLt, HT.lexLt]
  | _ :: _, [] => by simp [R.lexLt, HT.lexLt]
  | a :: as, b :: bs => by simp [R.lexLt, HT.lexLt, lexLt_eq as bs]
theorem nonV {K : PySem.W.Frag} {ι : List Addr} {H : Hp} {d : D} {x : V} (hd : RV K ι H d x) : decide (x = V.non) = isNon d := by
  cases d with
  | non => rw [show x = .non from hd]; rfl
  | bl b => rw [show x = .bl b from hd]; rfl
  | int b => rw [show x = .int b from hd]; rfl
  | str b => rw [show x = .str b from hd]; rfl
  | tup b => obtain ⟨_, _, rfl, _⟩ := hd; rfl
  | ref b => obtain ⟨_, _, rfl⟩ := hd; rfl
  | fix b => obtain ⟨_, _, rfl, _⟩ := hd; rfl
theorem cmp_ok (hu : X.A.units + 128 < cLine) (op : CmpOp) : OpR X (compareOp op) (rC2 X.K op) := by
  intro pins s σ H x y v u Qv I rx ry ⟨ι, S, d, e, k, hd, he, hH, hc, q⟩
  unfold cmpD at hc
  split at hc
  · rename_i i j
    obtain rfl : x = .int i := hd
    obtain rfl : y = .int j := he
    unfold cmpI at hc
    split at hc
    · cases hc; exact op_eq pins s σ H _ _ v u Qv I rx ry ⟨rfl, by simpa using q⟩
    · cases hc; exact op_ne pins s σ H _ _ v u Qv I rx ry ⟨rfl, by simpa using q⟩
    · cases hc; exact op_lt pins s σ H _ _ v u Qv I rx ry ⟨i, j, rfl, rfl, q⟩
    · cases hc; exact op_le pins s σ H _ _ v u Qv I rx ry ⟨i, j, rfl, rfl, q⟩
    · cases hc; exact op_gt pins s σ H _ _ v u Qv I rx ry ⟨i, j, rfl, rfl, q⟩
    · cases hc; exact op_ge pins s σ H _ _ v u Qv I rx ry ⟨i, j, rfl, rfl, q⟩
    · cases hc
  · unfold cmpO at hc
    have isin : ∀ (k : Bool), ((seqOf S e).bind fun ys => inD S d ys) = some k → ∃ a xs, y = .ref a ∧ (SqL X.K H a xs ∨ SqT X.K H a xs) ∧ ∃ (px : PyData), ∀ us, Vals xs us → us.any (eqRd s.heap px) = k ∧ ∀ z ∈ us, SeqAt.EqAt X.A.in1 s z v (eqRd s.heap px z) := by
      intro k h
      cases es : seqOf S e with
      | none => rw [es] at h; cases h
      | some ys =>
        rw [es] at h
        obtain ⟨bs, hb, rfl⟩ := inD_ex (show inD S d ys = some k from h)
        obtain ⟨a, xs, rfl, hq, rr⟩ := seq_ok hH es he
        refine ⟨a, xs, rfl, hq, ?_⟩
        cases hp : pd S 60 d with
        | some px => exact ⟨px, fun us hus => in_reads I (show X.A.units + 1 + 62 < cLine by omega) hH hp hd rx rr hus hb⟩
        | none =>
          cases ys with
          | nil =>
            refine ⟨.none, fun us hus => ?_⟩
            cases (show xs = [] from rr)
            cases hus
            have hb : bs = [] := by simpa using hb.symm
            subst hb
            exact ⟨rfl, fun z hz => nomatch hz⟩
          | cons z zs =>
            obtain ⟨b, r, h1, _⟩ := mapM_cons_some hb
            obtain ⟨_, _, _, h3, _⟩ := eqD_ex h1
            rw [hp] at h3; cases h3
    split at hc
    · rcases eqAny_ex hH hd he hc with ⟨us, a, b, rfl, rfl, ha, hb, rfl⟩ | hc
      · cases (show v = Value.ref a from rx)
        cases (show u = Value.ref b from ry)
        exact dT_eq (by omega) I ha hb ⟨.bl true, H, I, rfl, q⟩
      obtain ⟨a, b, h1, h2, rfl⟩ := eqD_ex hc
      obtain ⟨p1, p2, p3⟩ := pd_ok hH 60 d a x h1 hd
      obtain ⟨q1, q2, q3⟩ := pd_ok hH 60 e b y h2 he
      exact op_eqD (by omega) pins s σ H x y v u Qv I rx ry ⟨a, b, p1, q1, p2, q2, by omega, q⟩
    · cases hk : eqAny S d e with
      | none => rw [hk] at hc; cases hc
      | some k' =>
        rw [hk] at hc
        rcases eqAny_ex hH hd he hk with ⟨us, a, b, rfl, rfl, ha, hb, rfl⟩ | hk
        · cases (show v = Value.ref a from rx)
          cases (show u = Value.ref b from ry)
          have hc : k = false := by simpa using hc.symm
          subst hc
          exact dT_ne (by omega) I ha hb ⟨.bl false, H, I, rfl, q⟩
        obtain ⟨a, b, h1, h2, rfl⟩ := eqD_ex hk
        obtain ⟨p1, p2, p3⟩ := pd_ok hH 60 d a x h1 hd
        obtain ⟨q1, q2, q3⟩ := pd_ok hH 60 e b y h2 he
        have hc : k = !PyData.eqv a b := by simpa using hc.symm
        subst hc
        exact op_neD (by omega) pins s σ H x y v u Qv I rx ry ⟨a, b, p1, q1, p2, q2, by omega, q⟩
    · split at hc
      · obtain rfl : y = .non := he
        cases hc
        obtain rfl : u = Value.none := ry
        refine is_none_gen ⟨.bl _, H, I, rfl, ?_⟩
        rw [rx.none_iff, nonV hd]; exact q
      · rename_i b _
        split at hc
        · rename_i a _
          cases hc
          exact op_isB pins s σ H _ _ v u Qv I rx ry ⟨a, b, hd, he, q⟩
        · cases hc
      · cases hc
    · split at hc
      · obtain rfl : y = .non := he
        cases hc
        obtain rfl : u = Value.none := ry
        refine isnot_none_gen ⟨.bl _, H, I, rfl, ?_⟩
        rw [rx.none_iff, nonV hd]; exact q
      · cases hc
    · rcases inAny_ex hH hd he hc with ⟨a, o, rfl, g, rfl⟩ | hc
      · cases (show u = Value.ref a from ry)
        exact d_in (by omega) I g rx fun s3 I3 => ⟨.bl o.isSome, H, I3, rfl, q⟩
      obtain ⟨a, xs, rfl, hq, px, hp⟩ := isin _ hc
      cases (show u = Value.ref a from ry)
      rcases hq with hq | hq
      · obtain ⟨its, r, pl, hz⟩ := I.list hq
        obtain ⟨h1, h2⟩ := hp its r
        exact SeqAt.in_listAt (eqRd s.heap px) pl.isList (fun w hw => h2 w (by simpa using hw)) (fin_bl I q (by simpa using h1.symm))
      · obtain ⟨its, r, pl, hz⟩ := I.tuple hq
        obtain ⟨h1, h2⟩ := hp its r
        exact SeqAt.in_tupleAt (eqRd s.heap px) pl (fun w hw => h2 w (by simpa using hw)) (fin_bl I q (by simpa using h1.symm))
    · cases hk : inAny S d e with
      | none => rw [hk] at hc; cases hc
      | some k' =>
        rw [hk] at hc
        have hc : k = !k' := by simpa using hc.symm
        subst hc
        rcases inAny_ex hH hd he hk with ⟨a, o, rfl, g, rfl⟩ | hk
        · cases (show u = Value.ref a from ry)
          exact d_notIn (by omega) I g rx fun s3 I3 => ⟨.bl (!o.isSome), H, I3, rfl, q⟩
        obtain ⟨a, xs, rfl, hq, px, hp⟩ := isin k' hk
        cases (show u = Value.ref a from ry)
        rcases hq with hq | hq
        · obtain ⟨its, r, pl, hz⟩ := I.list hq
          obtain ⟨h1, h2⟩ := hp its r
          exact SeqAt.notIn_listAt (eqRd s.heap px) pl.isList (fun w hw => h2 w (by simpa using hw)) (fin_bl I q (by simpa using congrArg (!·) h1.symm))
        · obtain ⟨its, r, pl, hz⟩ := I.tuple hq
          obtain ⟨h1, h2⟩ := hp its r
          exact SeqAt.notIn_tupleAt (eqRd s.heap px) pl (fun w hw => h2 w (by simpa using hw)) (fin_bl I q (by simpa using congrArg (!·) h1.symm))
    · split at hc
      · rename_i xs ys _
        cases e1 : intsOf xs with
        | none => rw [e1] at hc; cases hc
        | some ns =>
          cases e2 : intsOf ys with
          | none => rw [e1, e2] at hc; cases hc
          | some ms =>
            rw [e1, e2] at hc
            have hc : k = lexLt ns ms := by simpa using hc.symm
            subst hc
            obtain ⟨a, us, rfl, ha, r1⟩ := hd
            obtain ⟨b, ws, rfl, hb, r2⟩ := he
            rw [ints_map e1] at r1
            rw [ints_map e2] at r2
            rw [r1.ints_eq] at ha
            rw [r2.ints_eq] at hb
            exact op_ltT (by omega) pins s σ H _ _ v u Qv I rx ry ⟨a, b, ns, ms, rfl, rfl, SqT.of ha, SqT.of hb, by rw [← lexLt_eq]; exact q⟩
      · cases hc
    · cases hc
end
end R

end
section
/-! The interpreter is sound: what is seen of the text, and expressions. -/
namespace R
open PySem PySem.Spec PyProof.Rows L2
variable [Mks]

/-! ### what the text's forms are -/
def noStar : Expr → Bool | .Starred _ _ => false | _ => true
def notComp : Expr → Bool | .ListComp .. => false | .SetComp .. => false | .DictComp .. => false | _ => true
def notSlice : Expr → Bool | .Slice .. => false | _ => true
def notSet : Expr → Bool | .Set .. => false | _ => true
def notSup : Expr → Bool | .Call (.Name _ _) [] [] _ => false | _ => true
def plainT : Expr → Bool | .UnaryOp .Not _ _ => false | .BoolOp .. => false | .IfExp .. => false | .Compare .. => false | _ => true
def notTup : Expr → Bool | .Tuple .. => false | _ => true
theorem star_of {e : Expr} (h : noStar e = true) (es : List Expr) (env : Env) : starEach (e :: es) env = (false, eval e env) :: starEach es env := by
  cases e <;> first | rfl | cases h
theorem swap_of {e : Expr} (h : notComp e = true) (t : Option Expr) (l : Nat) (env : Env) : swapsWith e t l env = pure false := by
  cases e <;> first | rfl | cases h
theorem ix_of {e : Expr} (h : notSlice e = true) : PlainIx e := by
  intro o i
  cases e <;> first | rfl | cases h
theorem mark_of {e : Expr} (h : notSet e = true) (op : CmpOp) : behindInMarks op e = false := by
  cases e <;> first | rfl | cases h
theorem sup_of {e : Expr} (h : notSup e = true) (x : Str) (env : Env) (w : Sem Value) : attributeBase e x env w = w := by
  unfold attributeBase
  split
  · cases h
  · rfl
theorem tru_of {e : Expr} (h : plainT e = true) (env : Env) (w : Sem Value) : isTrue e env w = (do let v ← w; standAt e.pos; holding [v] (truthy v)) := by
  cases e with
  | UnaryOp op x p => cases op <;> first | rfl | cases h
  | _ => first | rfl | cases h
theorem fold_of {e : Expr} (h : notSet e = true) (env : Env) (x : Value) : foldedSetIterable e env x = pure x := by
  cases e <;> first | rfl | cases h
theorem stars_any {pos : Pos} {env : Env} : ∀ {es : List Expr}, es.all noStar = true → (backTo pos (starEach es env)).any (·.1) = false
  | [], _ => rfl
  | e :: es, h => by
    rw [List.all_cons, Bool.and_eq_true] at h
    rw [star_of h.1]
    exact stars_any (es := es) h.2

/-! ### tables -/
structure Tab where
  blt : List Str
  cons : List (Str × D)
  /-- name, parameters, how many of them may be left out (None) -/
  fns : List (Str × List Str × Nat)
def isVis (sc : Scope) (x : Str) : Bool := match sc.names.lookup x with | some .local => true | some .cell => true | some .free => true | _ => false
def isLoc (sc : Scope) (x : Str) : Bool := match sc.names.lookup x with | some .local => true | some .cell => true | _ => false
def isGl (sc : Scope) (x : Str) : Bool := match sc.names.lookup x with | some .globalImplicit => true | _ => false
def eqC : D → D → Bool
  | .non, .non => true | .bl a, .bl b => a == b | .int a, .int b => a == b | .str a, .str b => a == b | _, _ => false
theorem eqC_eq : ∀ {d e : D}, eqC d e = true → d = e := by
  intro d e h
  cases d <;> cases e <;> first | rfl | (simp only [eqC, beq_iff_eq] at h; subst h; rfl) | cases h
def sV : D → V
  | .non => .non | .bl b => .bl b | .int i => .int i | .str x => .str x | _ => .non
def scalD : D → Bool
  | .non => true | .bl _ => true | .int _ => true | .str _ => true | _ => false
theorem sV_ok {K : PySem.W.Frag} {ι : List Addr} {H : Hp} {d : D} (h : scalD d = true) : RV K ι H d (sV d) := by
  cases d <;> first | rfl | cases h
def conB : D → Const → Bool
  | .non, .none => true | .bl a, .bool b => a == b | .int a, .int b => a == b | .str a, .str b => a == b | _, _ => false
def bltB (T : Tab) (sc : Scope) (x : Str) : Bool := isGl sc x && T.blt.contains x

/-- a call's promise by the interpreter -/
def spF (K : PySem.W.Frag) (cf : CF) (f : Nat) : Sp := fun vs H Qv _ => ∃ ι S ds, RVs K ι H ds vs ∧ RH K ι H S ∧ W (cf f ds S) (fun d T => ∀ v H' ι', Ext ι H ι' H' → RV K ι' H' d v → RH K ι' H' T → Qv v H')
structure TabOk (T : Tab) (cf : CF) (k : Nat) (P : Program) (w : World) (K : PySem.W.Frag) (mg : Str → Option Value) (base : Heap) : Prop where
  blt : ∀ x, T.blt.contains x = true → mg x = none
  con : ∀ x d, T.cons.lookup x = some d → scalD d = true ∧ ∃ u, mg x = some u ∧ RelV (sV d) u
  fns : ∀ f x ps nd, T.fns[f]? = some (x, ps, nd) → ∀ j, j ≤ nd → Has P w K mg base k x ps (List.replicate j .non) (spF K cf f)
  frm : CFok cf
structure Gd (T : Tab) (cf : CF) (k : Nat) (N : List Str) (sc : Scope) (X : Cx) : Prop where
  nm : X.N = N
  nd : N.Nodup
  loc : ∀ x, sc.names.lookup x = some .local → X.env.scope.names.lookup x = some .local
  cell : ∀ x, sc.names.lookup x = some .cell → X.env.scope.names.lookup x = some .cell
  free : ∀ x, sc.names.lookup x = some .free → X.env.scope.names.lookup x = some .free ∨ X.env.scope.names.lookup x = some .cell
  glob : ∀ x, sc.names.lookup x = some .globalImplicit → X.env.scope.names.lookup x = some .globalImplicit
  fn : (∀ x, X.fn x = true) ∨ ∀ x, sc.names.lookup x ≠ some .cell
  calm : X.calm = true
  xe : X.xe = fun _ _ => False
  room : Room k X.A
  tab : TabOk T cf k X.prog X.w X.K X.mg X.base
section
variable {T : Tab} {cf : CF} {k : Nat} {N : List Str} {sc : Scope} {X : Cx}
theorem Gd.hu (G : Gd T cf k N sc X) : X.A.units + 128 < cLine := by have := G.room.un; omega
theorem Gd.vis (G : Gd T cf k N sc X) {x : Str} (h : isVis sc x = true) : Vis X.env.scope x := by
  unfold isVis at h
  split at h
  · rename_i e; exact .inl (G.loc x e)
  · rename_i e; exact .inr (.inl (G.cell x e))
  · rename_i e
    rcases G.free x e with q | q
    · exact .inr (.inr q)
    · exact .inr (.inl q)
  · cases h
theorem Gd.lc (G : Gd T cf k N sc X) {x : Str} (h : isLoc sc x = true) : Loc X.env.scope x ∧ (X.fn x = true ∨ X.env.scope.names.lookup x = some .local) := by
  unfold isLoc at h
  split at h
  · rename_i e; exact ⟨.inl (G.loc x e), .inr (G.loc x e)⟩
  · rename_i e
    refine ⟨.inr (G.cell x e), ?_⟩
    rcases G.fn with q | q
    · exact .inl (q x)
    · exact absurd e (q x)
  · cases h
theorem Gd.gl (G : Gd T cf k N sc X) {x : Str} (h : isGl sc x = true) : Gl X x := by
  unfold isGl at h
  split at h
  · rename_i e; exact G.glob x e
  · cases h
end

/-! ### states -/
def RS (K : PySem.W.Frag) (ι : List Addr) (H : Hp) (δ : Ev) (σ : L2.St) : Prop := δ.length = σ.length ∧ ∀ (i : Nat) (d : D), δ[i]? = some (some d) → ∃ v, σ[i]? = some (some v) ∧ RV K ι H d v
theorem RS.ext {K : PySem.W.Frag} {ι ι' : List Addr} {H H' : Hp} {δ : Ev} {σ : L2.St} (h : RS K ι H δ σ) (x : Ext ι H ι' H') : RS K ι' H' δ σ :=
  ⟨h.1, fun i d e => let ⟨v, e1, r⟩ := h.2 i d e; ⟨v, e1, r.ext x⟩⟩
theorem RS.set {K : PySem.W.Frag} {ι : List Addr} {H : Hp} {δ : Ev} {σ : L2.St} (h : RS K ι H δ σ) {d : D} {v : V} (r : RV K ι H d v) (i : Nat) : RS K ι H (δ.set i (some d)) (σ.set i (some v)) := by
  refine ⟨by simp [h.1], fun j e hj => ?_⟩
  by_cases hij : i = j
  · subst hij
    have hl : i < δ.length := by
      have := (List.getElem?_eq_some_iff.mp hj).1
      simpa using this
    rw [List.getElem?_set_self hl] at hj
    cases hj
    exact ⟨v, List.getElem?_set_self (by rw [← h.1]; exact hl), r⟩
  · rw [List.getElem?_set_ne hij] at hj
    obtain ⟨v', e1, r'⟩ := h.2 j e hj
    exact ⟨v', by rw [List.getElem?_set_ne hij]; exact e1, r'⟩
def tE (K : PySem.W.Frag) (cf : CF) (ce : CE) : TE := fun σ H Qv => ∃ δ ι S Q, RS K ι H δ σ ∧ RH K ι H S ∧ W (evE cf ce δ S) Q ∧ ∀ v H', Lf K ι H Q v H' → Qv v H'
def LfB (K : PySem.W.Frag) (ι : List Addr) (H : Hp) (Q : Bool → R.St → Prop) : Bool → Hp → Prop := fun b H' => ∃ ι' S', Ext ι H ι' H' ∧ RH K ι' H' S' ∧ Q b S'
def tT (K : PySem.W.Frag) (cf : CF) (ce : CE) : TT := fun σ H Qv => ∃ δ ι S Q, RS K ι H δ σ ∧ RH K ι H S ∧ W (evT cf ce δ S) Q ∧ ∀ b H', LfB K ι H Q b H' → Qv b H'
def LfA (K : PySem.W.Frag) (ι : List Addr) (H : Hp) (Q : List D → R.St → Prop) : List V → Hp → Prop := fun vs H' => ∃ ds ι' S', Ext ι H ι' H' ∧ RVs K ι' H' ds vs ∧ RH K ι' H' S' ∧ Q ds S'
def tAs (K : PySem.W.Frag) (cf : CF) (ces : CEs) : TA := fun σ H Qv => ∃ δ ι S Q, RS K ι H δ σ ∧ RH K ι H S ∧ W (evEs cf ces δ S) Q ∧ ∀ vs H', LfA K ι H Q vs H' → Qv vs H'
/-- what is walked at once: a list of nobody's, a tuple, the script, a list of ours that is locked -/
inductive SqK (K : PySem.W.Frag) (ι : List Addr) (H : Hp) (S : R.St) (a : Addr) (xs : List V) (ds : List D) (lks : List Nat) : Prop where
  | tmp (h : a ∉ ι) (e : H a = some (.lst xs)) : SqK K ι H S a xs ds lks
  | tup (e : H a = some (.tup xs)) : SqK K ι H S a xs ds lks
  | fix (e : FixL K H a xs) : SqK K ι H S a xs ds lks
  | own (l : Nat) (hl : l ∈ lks) (hi : ι[l]? = some a) (hs : S.get l = some (.lst ds)) (e : H a = some (.lst xs)) : SqK K ι H S a xs ds lks
def Sq (K : PySem.W.Frag) (ι : List Addr) (H : Hp) (S : R.St) (v : V) (ds : List D) (lks : List Nat) : Prop := ∃ a xs, v = .ref a ∧ RVs K ι H ds xs ∧ SqK K ι H S a xs ds lks
def LfL (K : PySem.W.Frag) (ι : List Addr) (H : Hp) (Q : List D × List Nat → R.St → Prop) : VK := fun v H' => ∃ ds lks ι' S', Ext ι H ι' H' ∧ Sq K ι' H' S' v ds lks ∧ RH K ι' H' S' ∧ Q (ds, lks) S'
def tL (K : PySem.W.Frag) (cf : CF) (cl : CL) : TE := fun σ H Qv => ∃ δ ι S Q, RS K ι H δ σ ∧ RH K ι H S ∧ W (evL cf cl δ S) Q ∧ ∀ v H', LfL K ι H Q v H' → Qv v H'
/-- .. a list of nobody's -/
def LfT (K : PySem.W.Frag) (ι : List Addr) (H : Hp) (Q : List D × List Nat → R.St → Prop) : VK := fun v H' => ∃ ds ι' S' a xs, Ext ι H ι' H' ∧ v = .ref a ∧ RVs K ι' H' ds xs ∧ a ∉ ι' ∧ H' a = some (.lst xs) ∧ RH K ι' H' S' ∧ H a = none ∧ Q (ds, []) S'
def tLt (K : PySem.W.Frag) (cf : CF) (cl : CL) : TE := fun σ H Qv => ∃ δ ι S Q, RS K ι H δ σ ∧ RH K ι H S ∧ W (evL cf cl δ S) Q ∧ ∀ v H', LfT K ι H Q v H' → Qv v H'
theorem LfT.l {K : PySem.W.Frag} {ι : List Addr} {H : Hp} {Q : List D × List Nat → R.St → Prop} {v : V} {H' : Hp} (h : LfT K ι H Q v H') : LfL K ι H Q v H' := by
  obtain ⟨ds, ι', S', a, xs, x, rfl, r, ha, e, hh, _, q⟩ := h
  exact ⟨ds, [], ι', S', x, ⟨a, xs, rfl, r, .tmp ha e⟩, hh, q⟩
theorem PE.imp {X : Cx} {e : Expr} {t t' : TE} (h : PE X e t) (i : ∀ σ H Q, t' σ H Q → t σ H Q) : PE X e t' := fun pins s σ H Q I q => h pins s σ H Q I (i σ H Q q)
theorem PT.imp {X : Cx} {e : Expr} {t t' : TT} (h : PT X e t) (i : ∀ σ H Q, t' σ H Q → t σ H Q) : PT X e t' := fun pins s σ H Q I q => h pins s σ H Q I (i σ H Q q)
theorem PW.imp {X : Cx} {e : Expr} {t t' : TT} (h : PW X e t) (i : ∀ σ H Q, t' σ H Q → t σ H Q) : PW X e t' := fun wh pins s σ H Q I q => h wh pins s σ H Q I (i σ H Q q)
theorem PA.imp {X : Cx} {es : List Expr} {t t' : TA} (h : PA X es t) (i : ∀ σ H Q, t' σ H Q → t σ H Q) : PA X es t' := fun pos pins s σ H Q I q => h pos pins s σ H Q I (i σ H Q q)
/-- the first part runs, then the rest -/
theorem tE.run {K : PySem.W.Frag} {cf : CF} {a : CE} {δ : Ev} {σ : L2.St} {ι : List Addr} {H : Hp} {S : R.St} {Q : D → R.St → Prop} {Qv : VK} (hs : RS K ι H δ σ) (hh : RH K ι H S) (w : W (evE cf a δ S) Q)
    (h : ∀ d v ι' H' S', Ext ι H ι' H' → RS K ι' H' δ σ → RH K ι' H' S' → RV K ι' H' d v → Q d S' → Qv v H') : tE K cf a σ H Qv :=
  ⟨δ, ι, S, Q, hs, hh, w, fun v H' ⟨d, ι', S', x, r, hh', q⟩ => h d v ι' H' S' x (hs.ext x) hh' r q⟩
theorem tT.run {K : PySem.W.Frag} {cf : CF} {a : CE} {δ : Ev} {σ : L2.St} {ι : List Addr} {H : Hp} {S : R.St} {Q : Bool → R.St → Prop} {Qv : Bool → Hp → Prop} (hs : RS K ι H δ σ) (hh : RH K ι H S) (w : W (evT cf a δ S) Q)
    (h : ∀ b ι' H' S', Ext ι H ι' H' → RS K ι' H' δ σ → RH K ι' H' S' → Q b S' → Qv b H') : tT K cf a σ H Qv :=
  ⟨δ, ι, S, Q, hs, hh, w, fun b H' ⟨ι', S', x, hh', q⟩ => h b ι' H' S' x (hs.ext x) hh' q⟩
theorem tAs.run {K : PySem.W.Frag} {cf : CF} {a : CEs} {δ : Ev} {σ : L2.St} {ι : List Addr} {H : Hp} {S : R.St} {Q : List D → R.St → Prop} {Qv : List V → Hp → Prop} (hs : RS K ι H δ σ) (hh : RH K ι H S) (w : W (evEs cf a δ S) Q)
    (h : ∀ ds vs ι' H' S', Ext ι H ι' H' → RS K ι' H' δ σ → RH K ι' H' S' → RVs K ι' H' ds vs → Q ds S' → Qv vs H') : tAs K cf a σ H Qv :=
  ⟨δ, ι, S, Q, hs, hh, w, fun v H' ⟨d, ι', S', x, r, hh', q⟩ => h d v ι' H' S' x (hs.ext x) hh' r q⟩
theorem PE.ofT {X : Cx} {e : Expr} {cf : CF} {cl : CL} (h : PE X e (tLt X.K cf cl)) : PE X e (tL X.K cf cl) :=
  PE.imp h fun σ H Qv ⟨δ, ι, S, Q, hs, hh, w, q⟩ => ⟨δ, ι, S, Q, hs, hh, w, fun v H' l => q v H' l.l⟩
theorem tLt.run {K : PySem.W.Frag} {cf : CF} {a : CL} {δ : Ev} {σ : L2.St} {ι : List Addr} {H : Hp} {S : R.St} {Q : List D × List Nat → R.St → Prop} {Qv : VK} (hs : RS K ι H δ σ) (hh : RH K ι H S) (w : W (evL cf a δ S) Q)
    (h : ∀ ds p xs ι' H' S', Ext ι H ι' H' → RS K ι' H' δ σ → RH K ι' H' S' → RVs K ι' H' ds xs → p ∉ ι' → H' p = some (.lst xs) → H p = none → Q (ds, []) S' → Qv (.ref p) H') : tLt K cf a σ H Qv :=
  ⟨δ, ι, S, Q, hs, hh, w, fun v H' ⟨ds, ι', S', p, xs, x, e, r, hp, hx, hh', hn, q⟩ => e ▸ h ds p xs ι' H' S' x (hs.ext x) hh' r hp hx hn q⟩
theorem tL.run {K : PySem.W.Frag} {cf : CF} {a : CL} {δ : Ev} {σ : L2.St} {ι : List Addr} {H : Hp} {S : R.St} {Q : List D × List Nat → R.St → Prop} {Qv : VK} (hs : RS K ι H δ σ) (hh : RH K ι H S) (w : W (evL cf a δ S) Q)
    (h : ∀ ds lks v ι' H' S', Ext ι H ι' H' → RS K ι' H' δ σ → RH K ι' H' S' → Sq K ι' H' S' v ds lks → Q (ds, lks) S' → Qv v H') : tL K cf a σ H Qv :=
  ⟨δ, ι, S, Q, hs, hh, w, fun v H' ⟨ds, lks, ι', S', x, r, hh', q⟩ => h ds lks v ι' H' S' x (hs.ext x) hh' r q⟩
end R

end
section
/-! The interpreter is sound: rules for expressions. -/
namespace R
open PySem PySem.Spec PyProof.Rows L2
variable [Mks]
section
variable {T : Tab} {cf : CF} {k : Nat} {N : List Str} {sc : Scope} {X : Cx} {pos : Pos}
theorem W_ok' {α : Type} {o : Out α} {Q : α → R.St → Prop} (h : W o Q) : ∃ a S, o = .ok a S ∧ Q a S := W.iff.mp h
theorem W_lift' {α : Type} {S : R.St} {o : Option α} {Q : α → R.St → Prop} (h : W (lift S o) Q) : ∃ a, o = some a ∧ Q a S := by
  cases o with
  | none => exact h.elim
  | some a => exact ⟨a, rfl, h⟩
theorem se_loc (G : Gd T cf k N sc X) {i : Nat} {x : Str} (h1 : N[i]? = some x) (h2 : isVis sc x = true) (h3 : (x == ("__debug__" : Str)) = false) (h4 : (x == ("__classdict__" : Str)) = false) : PE X (.Name x pos) (tE X.K cf (.loc i)) := by
  refine PE.imp (pe_var (i := i) (by rw [G.nm]; exact h1) (G.vis h2) h3 h4) fun σ H Qv ⟨δ, ι, S, Q, hs, hh, w, q⟩ => ?_
  simp only [evE] at w
  obtain ⟨d, e, hq⟩ := W_lift' w
  have e' : δ[i]? = some (some d) := by
    cases z : δ[i]? with
    | none => rw [z] at e; cases e
    | some o => rw [z] at e; simp at e; rw [e]
  obtain ⟨v, ev, r⟩ := hs.2 i d e'
  exact ⟨v, ev, q v H (Lf.of hh r hq)⟩
theorem se_con {d : D} {c : Const} {j : Nat} (h : conB d c = true) : PE X (.Constant c j pos) (tE X.K cf (.con d)) := by
  have key : ∀ {v : V}, PE X (.Constant c j pos) (tC v) → (∀ K ι H, RV K ι H d v) → PE X (.Constant c j pos) (tE X.K cf (.con d)) := fun {v} hp hr =>
    PE.imp hp fun σ H Qv ⟨δ, ι, S, Q, hs, hh, w, q⟩ => q v H (Lf.of hh (hr _ _ _) (by simpa [evE] using w))
  cases d <;> cases c <;> first
    | exact key pe_non fun _ _ _ => rfl
    | cases h
    | (simp only [conB, beq_iff_eq] at h; subst h; exact key pe_int fun _ _ _ => rfl)
    | (simp only [conB, beq_iff_eq] at h; subst h; exact key pe_bl fun _ _ _ => rfl)
    | (simp only [conB, beq_iff_eq] at h; subst h; exact key pe_str fun _ _ _ => rfl)
theorem se_glob (G : Gd T cf k N sc X) {d d' : D} {x : Str} (h1 : isGl sc x = true) (h2 : T.cons.lookup x = some d') (h3 : eqC d' d = true) (h4 : (x == ("__debug__" : Str)) = false) : PE X (.Name x pos) (tE X.K cf (.con d)) := by
  have e := eqC_eq h3
  subst e
  obtain ⟨hsc, u, hu, r⟩ := G.tab.con x d' h2
  exact PE.imp (pe_glob (G.gl h1) hu r h4) fun σ H Qv ⟨δ, ι, S, Q, hs, hh, w, q⟩ => q (sV d') H (Lf.of hh (sV_ok hsc) (by simpa [evE] using w))
theorem se_bin {ca cb : CE} {a b : Expr} {op : Operator} (ha : PE X a (tE X.K cf ca)) (hb : PE X b (tE X.K cf cb)) : PE X (.BinOp a op b pos) (tE X.K cf (.bin op ca cb)) := by
  refine PE.imp (pe_op (bin_ok op) ha hb) fun σ H Qv ⟨δ, ι, S, Q, hs, hh, w, q⟩ => ?_
  simp only [evE, W_bind] at w
  refine tE.run hs hh w fun d v ι1 H1 S1 x1 hs1 hh1 r1 w1 => tE.run hs1 hh1 w1 fun e u ι2 H2 S2 x2 hs2 hh2 r2 w2 => ?_
  exact ⟨ι2, S2, d, e, Q, r1.ext x2, r2, hh2, w2, fun z H3 l => q z H3 (Lf.up (x1.trans x2) l)⟩
theorem se_neg {ca : CE} {a : Expr} (ha : PE X a (tE X.K cf ca)) : PE X (.UnaryOp .USub a pos) (tE X.K cf (.neg ca)) := by
  refine PE.imp (pe_un un_neg ha) fun σ H Qv ⟨δ, ι, S, Q, hs, hh, w, q⟩ => ?_
  simp only [evE, W_bind] at w
  refine tE.run hs hh w fun d v ι1 H1 S1 x1 hs1 hh1 r1 w1 => ?_
  cases d with
  | int i =>
    obtain rfl : v = .int i := r1
    exact ⟨i, rfl, q _ _ (Lf.up x1 (Lf.of (d := .int (-i)) hh1 rfl w1))⟩
  | _ => exact w1.elim
theorem se_nt {ca : CE} {a : Expr} (ha : PE X a (tE X.K cf ca)) : PE X (.UnaryOp .Not a pos) (tE X.K cf (.nt ca)) := by
  refine PE.imp (pe_not ha) fun σ H Qv ⟨δ, ι, S, Q, hs, hh, w, q⟩ => ?_
  simp only [evE, W_bind] at w
  refine tE.run hs hh w fun d v ι1 H1 S1 x1 hs1 hh1 r1 w1 => ?_
  cases d with
  | bl i =>
    obtain rfl : v = .bl i := r1
    exact ⟨i, rfl, q _ _ (Lf.up x1 (Lf.of (d := .bl (!i)) hh1 rfl w1))⟩
  | _ => exact w1.elim
theorem se_cmp (G : Gd T cf k N sc X) {ca cb : CE} {a b : Expr} {op : CmpOp} (ha : PE X a (tE X.K cf ca)) (hb : PE X b (tE X.K cf cb)) (hm : notSet b = true) : PE X (.Compare a [op] [b] pos) (tE X.K cf (.cmp op ca cb)) := by
  refine PE.imp (pe_cmpR (cmp_ok G.hu op) ha hb (mark_of hm op)) fun σ H Qv ⟨δ, ι, S, Q, hs, hh, w, q⟩ => ?_
  simp only [evE, W_bind] at w
  refine tE.run hs hh w fun d v ι1 H1 S1 x1 hs1 hh1 r1 w1 => tE.run hs1 hh1 w1 fun e u ι2 H2 S2 x2 hs2 hh2 r2 w2 => ?_
  obtain ⟨b, hb, w3⟩ := W_lift' w2
  exact ⟨ι2, S2, d, e, b, r1.ext x2, r2, hh2, hb, q _ _ (Lf.up (x1.trans x2) (Lf.of (d := .bl b) hh2 rfl w3))⟩
theorem st_cmp (G : Gd T cf k N sc X) {ca cb : CE} {a b : Expr} {op : CmpOp} (ha : PE X a (tE X.K cf ca)) (hb : PE X b (tE X.K cf cb)) (hm : notSet b = true) : PT X (.Compare a [op] [b] pos) (tT X.K cf (.cmp op ca cb)) := by
  refine PT.imp (pt_cmpR (cmp_ok G.hu op) ha hb (mark_of hm op)) fun σ H Qv ⟨δ, ι, S, Q, hs, hh, w, q⟩ => ?_
  simp only [evT, W_bind] at w
  refine tE.run hs hh w fun d v ι1 H1 S1 x1 hs1 hh1 r1 w1 => tE.run hs1 hh1 w1 fun e u ι2 H2 S2 x2 hs2 hh2 r2 w2 => ?_
  obtain ⟨b, hb, w3⟩ := W_lift' w2
  exact ⟨ι2, S2, d, e, b, r1.ext x2, r2, hh2, hb, b, rfl, q _ _ ⟨ι2, S2, x1.trans x2, hh2, w3⟩⟩
theorem se_and {ca cb : CE} {a b : Expr} {rest : List Expr} (ha : PE X a (tE X.K cf ca)) (hb : PE X (.BoolOp .And (b :: rest) pos) (tE X.K cf cb)) : PE X (.BoolOp .And (a :: b :: rest) pos) (tE X.K cf (.and ca cb)) := by
  refine PE.imp (pe_and ha hb) fun σ H Qv ⟨δ, ι, S, Q, hs, hh, w, q⟩ => ?_
  simp only [evE, W_bind] at w
  refine tE.run hs hh w fun d v ι1 H1 S1 x1 hs1 hh1 r1 w1 => ?_
  cases d with
  | bl c =>
    obtain rfl : v = .bl c := r1
    refine ⟨c, rfl, ?_⟩
    cases c with
    | false => exact q _ _ (Lf.up x1 (Lf.of (d := .bl false) hh1 rfl w1))
    | true => exact ⟨δ, ι1, S1, Q, hs1, hh1, w1, fun z H3 l => q z H3 (Lf.up x1 l)⟩
  | _ => exact w1.elim
theorem se_or {ca cb : CE} {a b : Expr} {rest : List Expr} (ha : PE X a (tE X.K cf ca)) (hb : PE X (.BoolOp .Or (b :: rest) pos) (tE X.K cf cb)) : PE X (.BoolOp .Or (a :: b :: rest) pos) (tE X.K cf (.or ca cb)) := by
  refine PE.imp (pe_or ha hb) fun σ H Qv ⟨δ, ι, S, Q, hs, hh, w, q⟩ => ?_
  simp only [evE, W_bind] at w
  refine tE.run hs hh w fun d v ι1 H1 S1 x1 hs1 hh1 r1 w1 => ?_
  cases d with
  | bl c =>
    obtain rfl : v = .bl c := r1
    refine ⟨c, rfl, ?_⟩
    cases c with
    | true => exact q _ _ (Lf.up x1 (Lf.of (d := .bl true) hh1 rfl w1))
    | false => exact ⟨δ, ι1, S1, Q, hs1, hh1, w1, fun z H3 l => q z H3 (Lf.up x1 l)⟩
  | _ => exact w1.elim
theorem LfB.up {K : PySem.W.Frag} {ι ι' : List Addr} {H H' : Hp} {Q : Bool → R.St → Prop} {b : Bool} {H2 : Hp} (x : Ext ι H ι' H') (h : LfB K ι' H' Q b H2) : LfB K ι H Q b H2 := by
  obtain ⟨ι2, S2, x2, r⟩ := h
  exact ⟨ι2, S2, x.trans x2, r⟩
theorem st_and {ca cb : CE} {a b : Expr} {rest : List Expr} (ha : PT X a (tT X.K cf ca)) (hb : PW X (.BoolOp .And (b :: rest) pos) (tT X.K cf cb)) : PW X (.BoolOp .And (a :: b :: rest) pos) (tT X.K cf (.and ca cb)) := by
  refine PW.imp (pw_and ha hb) fun σ H Qv ⟨δ, ι, S, Q, hs, hh, w, q⟩ => ?_
  simp only [evT, W_bind] at w
  refine tT.run hs hh w fun c ι1 H1 S1 x1 hs1 hh1 w1 => ?_
  cases c with
  | false => exact q _ _ ⟨ι1, S1, x1, hh1, w1⟩
  | true => exact ⟨δ, ι1, S1, Q, hs1, hh1, w1, fun z H3 l => q z H3 (LfB.up x1 l)⟩
theorem st_or {ca cb : CE} {a b : Expr} {rest : List Expr} (ha : PT X a (tT X.K cf ca)) (hb : PW X (.BoolOp .Or (b :: rest) pos) (tT X.K cf cb)) : PW X (.BoolOp .Or (a :: b :: rest) pos) (tT X.K cf (.or ca cb)) := by
  refine PW.imp (pw_or ha hb) fun σ H Qv ⟨δ, ι, S, Q, hs, hh, w, q⟩ => ?_
  simp only [evT, W_bind] at w
  refine tT.run hs hh w fun c ι1 H1 S1 x1 hs1 hh1 w1 => ?_
  cases c with
  | true => exact q _ _ ⟨ι1, S1, x1, hh1, w1⟩
  | false => exact ⟨δ, ι1, S1, Q, hs1, hh1, w1, fun z H3 l => q z H3 (LfB.up x1 l)⟩
theorem st_nt {ca : CE} {a : Expr} (ha : PT X a (tT X.K cf ca)) : PT X (.UnaryOp .Not a pos) (tT X.K cf (.nt ca)) := by
  refine PT.imp (pt_not ha) fun σ H Qv ⟨δ, ι, S, Q, hs, hh, w, q⟩ => ?_
  simp only [evT, W_bind] at w
  exact tT.run hs hh w fun c ι1 H1 S1 x1 hs1 hh1 w1 => q _ _ ⟨ι1, S1, x1, hh1, w1⟩
theorem tru_ex {ι : List Addr} {H : Hp} {S : R.St} {d : D} {v : V} {b : Bool} (hh : RH X.K ι H S) (r : RV X.K ι H d v) (h : tru S d = some b) : TruV X.K v H b := by
  cases d with
  | non => obtain rfl : v = .non := r; cases h; rfl
  | bl c => obtain rfl : v = .bl c := r; cases h; rfl
  | int i => obtain rfl : v = .int i := r; cases h; rfl
  | tup ds =>
    obtain ⟨a, xs, rfl, ha, rr⟩ := r
    cases h
    refine .inr (.inl ⟨xs, SqT.of ha, ?_⟩)
    have := rr.length
    cases ds <;> cases xs <;> first | rfl | simp at this
  | ref l =>
    simp only [tru] at h
    split at h
    · rename_i ds e
      cases h
      obtain ⟨a, h1, rfl⟩ := r
      obtain ⟨a2, h2, xs, ha, rr⟩ := hh.obj _ _ e
      rw [h1] at h2; cases h2
      refine .inl ⟨xs, SqL.of ha, ?_⟩
      have := rr.length
      cases ds <;> cases xs <;> first | rfl | simp at this
    · cases h
  | _ => cases h
theorem st_tst {ca : CE} {a : Expr} (ha : PE X a (tE X.K cf ca)) (hp : plainT a = true) : PT X a (tT X.K cf (.tst ca)) := by
  refine PT.imp (pt_truth ha (tru_of hp X.env)) fun σ H Qv ⟨δ, ι, S, Q, hs, hh, w, q⟩ => ?_
  simp only [evT, W_bind] at w
  refine tE.run hs hh w fun d v ι1 H1 S1 x1 hs1 hh1 r1 w1 => ?_
  obtain ⟨b, hb, w2⟩ := W_lift' w1
  exact ⟨b, tru_ex hh1 r1 hb, q _ _ ⟨ι1, S1, x1, hh1, w2⟩⟩
theorem se_ite {cc ca cb : CE} {c a b : Expr} (hc : PT X c (tT X.K cf cc)) (ha : PE X a (tE X.K cf ca)) (hb : PE X b (tE X.K cf cb)) : PE X (.IfExp c a b pos) (tE X.K cf (.ite cc ca cb)) := by
  refine PE.imp (pe_ifExp hc ha hb) fun σ H Qv ⟨δ, ι, S, Q, hs, hh, w, q⟩ => ?_
  simp only [evE, W_bind] at w
  refine tT.run hs hh w fun c ι1 H1 S1 x1 hs1 hh1 w1 => ?_
  cases c with
  | true => exact ⟨δ, ι1, S1, Q, hs1, hh1, w1, fun z H3 l => q z H3 (Lf.up x1 l)⟩
  | false => exact ⟨δ, ι1, S1, Q, hs1, hh1, w1, fun z H3 l => q z H3 (Lf.up x1 l)⟩
theorem sa_nil : PA X [] (tAs X.K cf .nil) := PA.imp pa_nil fun σ H Qv ⟨δ, ι, S, Q, hs, hh, w, q⟩ => q [] H ⟨[], ι, S, Ext.refl _ _, rfl, hh, by simpa [evEs] using w⟩
theorem sa_cons {ce : CE} {ces : CEs} {e : Expr} {es : List Expr} (he : PE X e (tE X.K cf ce)) (hes : PA X es (tAs X.K cf ces)) (hn : noStar e = true) : PA X (e :: es) (tAs X.K cf (.cons ce ces)) := by
  refine PA.imp (pa_cons he hes (star_of hn es X.env)) fun σ H Qv ⟨δ, ι, S, Q, hs, hh, w, q⟩ => ?_
  simp only [evEs, W_bind] at w
  refine tE.run hs hh w fun d v ι1 H1 S1 x1 hs1 hh1 r1 w1 => tAs.run hs1 hh1 w1 fun ds vs ι2 H2 S2 x2 hs2 hh2 r2 w2 => ?_
  exact q _ _ ⟨d :: ds, ι2, S2, x1.trans x2, ⟨v, vs, rfl, r1.ext x2, r2⟩, hh2, w2⟩
theorem se_tup {ces : CEs} {es : List Expr} {j : Nat} (h : PA X es (tAs X.K cf ces)) : PE X (.Tuple es j pos) (tE X.K cf (.tup ces)) := by
  refine PE.imp (pe_tup h) fun σ H Qv ⟨δ, ι, S, Q, hs, hh, w, q⟩ => ?_
  simp only [evE, W_bind] at w
  refine tAs.run hs hh w fun ds vs ι1 H1 S1 x1 hs1 hh1 r1 w1 => ?_
  split at w1
  · rename_i c
    exact ⟨by rw [r1.length, sizeLine_eq]; exact c, fun p hp => q _ _ (Lf.up x1 (Lf.tup hh1 hp r1 w1))⟩
  · exact w1.elim
theorem se_lst {ces : CEs} {es : List Expr} (h : PA X es (tAs X.K cf ces)) : PE X (.List es pos) (tE X.K cf (.lst ces)) := by
  refine PE.imp (pe_lst h) fun σ H Qv ⟨δ, ι, S, Q, hs, hh, w, q⟩ => ?_
  simp only [evE, W_bind] at w
  refine tAs.run hs hh w fun ds vs ι1 H1 S1 x1 hs1 hh1 r1 w1 => ?_
  obtain ⟨c, w2⟩ := lay_ex w1
  exact ⟨by rw [r1.length]; exact c, fun p hp => q _ _ (Lf.up x1 (Lf.lst hh1 hp r1 w2))⟩
theorem se_dnew : PE X (.Dict [] [] pos) (tE X.K cf .dnew) := by
  refine PE.imp pe_dnewK fun σ H Qv ⟨δ, ι, S, Q, hs, hh, w, q⟩ => ?_
  simp only [evE] at w
  intro p hp
  exact q _ _ ⟨.ref S.len, ι ++ [p], S.push (.dic []), Ext.obj hh hp _, ⟨p, hh.last p, rfl⟩, hh.obj' hp _ _ ⟨rfl, upd_same⟩, w⟩
theorem ix_ok {ι : List Addr} {H : Hp} {S : R.St} {d : D} {v : V} {ds : List D} {i : Int} {e : D} (hh : RH X.K ι H S) (r : RV X.K ι H d v) (hq : seqOf S d = some ds) (ha : R.atI ds i = some e) : ∃ u, rIx X.K v (.int i) H (fun z H' => z = u ∧ H' = H) ∧ RV X.K ι H e u := by
  obtain ⟨a, xs, rfl, hx, rr⟩ := seq_ok hh hq r
  have hl := rr.length
  have key : ∃ u, L2.atI xs i = some u ∧ RV X.K ι H e u := by
    unfold R.atI at ha
    cases e1 : R.ixN ds.length i with
    | none => rw [e1] at ha; cases ha
    | some j =>
      rw [e1] at ha
      obtain ⟨u, h1, h2⟩ := rr.get (show ds[j]? = some e from ha)
      refine ⟨u, ?_, h2⟩
      unfold L2.atI
      have : L2.ixN xs.length i = some j := by rw [hl]; exact e1
      rw [this]; exact h1
  obtain ⟨u, h1, h2⟩ := key
  refine ⟨u, ?_, h2⟩
  rcases hx with hx | hx
  · exact .inl ⟨a, xs, i, u, rfl, rfl, hx, h1, rfl, rfl⟩
  · exact .inr (.inl ⟨a, xs, i, u, rfl, rfl, hx, h1, rfl, rfl⟩)
theorem rIx_imp {K : PySem.W.Frag} {x y u : V} {H : Hp} {Q : VK} (h : rIx K x y H (fun z H' => z = u ∧ H' = H)) (q : Q u H) : rIx K x y H Q := by
  rcases h with ⟨p, xs, i, v, h1, h2, h3, h4, rfl, _⟩ | ⟨p, xs, i, v, h1, h2, h3, h4, rfl, _⟩ | ⟨z, i, c, h1, h2, h3, h4, h5, _⟩
  · exact .inl ⟨p, xs, i, v, h1, h2, h3, h4, q⟩
  · exact .inr (.inl ⟨p, xs, i, v, h1, h2, h3, h4, q⟩)
  · exact .inr (.inr ⟨z, i, c, h1, h2, h3, h4, by rw [h5]; exact q⟩)
theorem se_ix {ca cb : CE} {a b : Expr} (ha : PE X a (tE X.K cf ca)) (hb : PE X b (tE X.K cf cb)) (hp : notSlice b = true) : PE X (.Subscript a b pos) (tE X.K cf (.ix ca cb)) := by
  refine PE.imp (pe_ix ix_seq ha hb (ix_of hp)) fun σ H Qv ⟨δ, ι, S, Q, hs, hh, w, q⟩ => ?_
  simp only [evE, W_bind] at w
  refine tE.run hs hh w fun d v ι1 H1 S1 x1 hs1 hh1 r1 w1 => tE.run hs1 hh1 w1 fun e u ι2 H2 S2 x2 hs2 hh2 r2 w2 => ?_
  split at w2
  · rename_i ds i eq
    obtain ⟨z, hz, w3⟩ := W_lift' w2
    obtain rfl : u = .int i := r2
    obtain ⟨u, h1, h2⟩ := ix_ok hh2 (r1.ext x2) eq hz
    exact rIx_imp h1 (q _ _ (Lf.up (x1.trans x2) (Lf.of hh2 h2 w3)))
  · exact w2.elim
end
end R

end
section
/-! The interpreter is sound: calls, slices, built-ins. -/
namespace R
open PySem PySem.Spec PyProof.Rows L2
variable [Mks]
section
variable {K : PySem.W.Frag} {ι ι' : List Addr} {H H' : Hp} {S T : R.St} {d : D} {v : V}
theorem get_frz {l : Nat} {o : MO} (hf : T.frz = S.frz ++ S.new) (h : S.get l = some o) : T.get l = some o := by
  obtain ⟨f, n, k⟩ := T
  have hf : f = S.frz ++ S.new := hf
  subst hf
  exact get_old h n k
/-- a def has only read: our objects stand as they stood -/
theorem RH.cut (hh : RH K ι H S) (x : Ext ι H ι' H') (hT : RH K ι' H' T) (hf : T.frz = S.frz ++ S.new) : RH K ι H' S := by
  refine ⟨hh.len, hh.nd, fun l o e => ?_, hT.tab⟩
  obtain ⟨a, h1, h2⟩ := hh.obj l o e
  obtain ⟨b, h3, h4⟩ := hT.obj l o (get_frz hf e)
  rw [pre_get x.pre h1] at h3; cases h3
  refine ⟨a, h1, ?_⟩
  cases o with
  | lst ds =>
    obtain ⟨xs, _, r1⟩ := h2
    obtain ⟨ys, e2, r2⟩ := h4
    exact ⟨ys, e2, r2.restrict x.pre r1.flats⟩
  | dic kvs => exact h4
  | ins c fs => exact h4
  | dtp kvs =>
    obtain ⟨_, ws, _, r1⟩ := h2
    obtain ⟨nd, ys, e2, r2⟩ := h4
    exact ⟨nd, ys, e2, r2.restrict x.pre r1.flats⟩
theorem Ext.cut (x : Ext ι H ι' H') : Ext ι H ι H' := ⟨List.prefix_refl _, x.kp, fun a o h e => ⟨(x.rest a o h e).1, h⟩⟩
theorem pre_mem {l : Nat} {a : Addr} (hp : ι <+: ι') (nd : ι'.Nodup) (hl : ι'[l]? = some a) (h : ι.length ≤ l) : a ∉ ι := fun hm => by
  obtain ⟨t, rfl⟩ := hp
  rw [List.getElem?_append_right h] at hl
  have h2 := List.mem_of_getElem? hl
  exact (List.nodup_append.mp nd).2.2 a hm a h2 rfl
theorem ext_one {l : Nat} {a : Addr} (x : Ext ι H ι' H') (nd : ι'.Nodup) (hl : ι'[l]? = some a) (h : ι.length ≤ l) : Ext ι H (ι ++ [a]) H' := by
  refine ⟨List.prefix_append _ _, x.kp, fun b o hb e => ⟨(x.rest b o hb e).1, fun z => ?_⟩⟩
  rcases List.mem_append.mp z with z | z
  · exact hb z
  · simp at z
    subst z
    exact (x.rest b o hb e).2 (List.mem_of_getElem? hl)
theorem RH.one {l : Nat} {a : Addr} {o : MO} (hh : RH K ι H' S) (nd : a ∉ ι) (ho : RO K (ι ++ [a]) H' a o) : RH K (ι ++ [a]) H' (S.push o) := by
  refine ⟨by rw [List.length_append, hh.len, push_len]; rfl, ?_, fun l o' e => ?_, hh.tab⟩
  · rw [List.nodup_append]
    refine ⟨hh.nd, by simp, fun b hb c hc => ?_⟩
    simp at hc; subst hc
    exact fun z => nd (z ▸ hb)
  · by_cases hl : l < S.len
    · rw [get_push_lt hl] at e
      obtain ⟨b, h1, h2⟩ := hh.obj l o' e
      exact ⟨b, pre_get (List.prefix_append _ _) h1, h2.up (List.prefix_append _ _) (Kp.refl _) rfl⟩
    · have hl2 := get_lt e
      rw [push_len] at hl2
      have : l = S.len := by omega
      subst this
      rw [get_push] at e; cases e
      exact ⟨a, by rw [← hh.len]; simp, ho⟩
theorem RH.keep (hT : RH K ι' H' T) (hf : T.frz = S.frz ++ S.new) : RH K ι' H' ⟨S.frz, S.new ++ T.new, S.lk⟩ := by
  have hg : ∀ l, (R.St.mk S.frz (S.new ++ T.new) S.lk).get l = T.get l := fun l => by
    unfold St.get
    rw [hf]
    simp only [List.length_append]
    by_cases h1 : l < S.frz.length
    · rw [if_pos h1, if_pos (by omega), List.getElem?_append_left h1]
    · by_cases h2 : l < S.frz.length + S.new.length
      · rw [if_neg h1, if_pos h2, List.getElem?_append_left (by omega), List.getElem?_append_right (by omega)]
      · rw [if_neg h1, if_neg h2, List.getElem?_append_right (by omega)]
        congr 1; omega
  refine ⟨?_, hT.nd, fun l o e => hT.obj l o (by rw [← hg]; exact e), hT.tab⟩
  rw [hT.len]
  unfold St.len
  rw [hf]
  simp only [List.length_append]
  omega
theorem leave_ok {Q : D → R.St → Prop} (hh : RH K ι H S) (x : Ext ι H ι' H') (r : RV K ι' H' d v) (hT : RH K ι' H' T) (hf : T.frz = S.frz ++ S.new) (w : W (leave S d T) Q) : Lf K ι H Q v H' := by
  have hc := hh.cut x hT hf
  unfold leave at w
  split at w
  · rename_i c
    rw [← hh.len] at c
    exact ⟨d, ι, S, x.cut, r.restrict x.pre c, hc, w⟩
  · rename_i c
    dsimp only at w
    split at w
    · rename_i l
      obtain ⟨a, h1, rfl⟩ := id r
      have hl : ι.length ≤ l := by
        simp only [R.flat, decide_eq_true_eq] at c
        rw [hh.len]; omega
      have ha := pre_mem x.pre hT.nd h1 hl
      split at w
      · rename_i ds e
        obtain ⟨b, h2, h3⟩ := hT.obj l _ e
        rw [h1] at h2; cases h2
        split at w
        · rename_i c2
          rw [← hh.len] at c2
          obtain ⟨ys, e2, r2⟩ := h3
          refine ⟨.ref S.len, ι ++ [a], S.push (.lst ds), ext_one x hT.nd h1 hl, ⟨a, by rw [← hh.len]; simp, rfl⟩, hc.one (l := l) ha ⟨ys, e2, (r2.restrict x.pre c2).up (List.prefix_append _ _) (Kp.refl _)⟩, w⟩
        · exact ⟨_, ι', _, x, r, hT.keep hf, w⟩
      · rename_i kvs e
        obtain ⟨b, h2, h3⟩ := hT.obj l _ e
        rw [h1] at h2; cases h2
        split at w
        · exact ⟨.ref S.len, ι ++ [a], S.push (.dic kvs), ext_one x hT.nd h1 hl, ⟨a, by rw [← hh.len]; simp, rfl⟩, hc.one (l := l) ha h3, w⟩
        · exact ⟨_, ι', _, x, r, hT.keep hf, w⟩
      · rename_i kvs e
        obtain ⟨b, h2, h3⟩ := hT.obj l _ e
        rw [h1] at h2; cases h2
        split at w
        · rename_i c2
          rw [← hh.len] at c2
          obtain ⟨nd, ys, e2, r2⟩ := h3
          refine ⟨.ref S.len, ι ++ [a], S.push (.dtp kvs), ext_one x hT.nd h1 hl, ⟨a, by rw [← hh.len]; simp, rfl⟩, hc.one (l := l) ha ⟨nd, ys, e2, (r2.restrict x.pre c2).up (List.prefix_append _ _) (Kp.refl _)⟩, w⟩
        · exact ⟨_, ι', _, x, r, hT.keep hf, w⟩
      · exact ⟨_, ι', _, x, r, hT.keep hf, w⟩
    · exact ⟨_, ι', _, x, r, hT.keep hf, w⟩
end
section
variable {T : Tab} {cf : CF} {k : Nat} {N : List Str} {sc : Scope} {X : Cx} {pos p : Pos}
theorem RVs.nons {K : PySem.W.Frag} {ι : List Addr} {H : Hp} : ∀ j : Nat, RVs K ι H (List.replicate j .non) (List.replicate j .non)
  | 0 => rfl
  | j + 1 => ⟨.non, List.replicate j .non, rfl, rfl, RVs.nons j⟩
theorem RH.enter {K : PySem.W.Frag} {ι : List Addr} {H : Hp} {S : R.St} (h : RH K ι H S) : RH K ι H S.enter := ⟨by rw [enter_len]; exact h.len, h.nd, fun l o e => h.obj l o (by rw [get_enter] at e; exact e), h.tab⟩
theorem call_args {f j : Nat} {ces : CEs} {σ : L2.St} {H : Hp} {Qv : VK} (hfr : CFok cf) (h : tE X.K cf (.call f j ces) σ H Qv) :
    tCall (spF X.K cf f) (List.replicate j .non) E0 (tAs X.K cf ces) σ H Qv := by
  obtain ⟨δ, ι, S, Q, hs, hh, w, q⟩ := h
  simp only [evE, W_bind] at w
  refine tAs.run hs hh w fun ds vs ι1 H1 S1 x1 hs1 hh1 r1 w1 => ?_
  unfold app at w1
  rw [W_bind] at w1
  refine ⟨ι1, S1.enter, ds ++ List.replicate j .non, r1.append (RVs.nons j), hh1.enter, ?_⟩
  obtain ⟨d, T', e, w2⟩ := W_ok' w1
  rw [e]
  exact fun v H' ι' x r hT => q v H' (Lf.up x1 (leave_ok hh1 x r hT (hfr _ _ _ _ _ e).frz w2))
theorem back_none {K : PySem.W.Frag} {ι ι1 : List Addr} {H H1 : Hp} {S1 : R.St} {a : Addr} (hh : RH K ι1 H1 S1) (x : Ext ι H ι1 H1) (hn : H1 a = none) : H a = none := by
  cases e : H a with
  | none => rfl
  | some o =>
    by_cases hm : a ∈ ι
    · have h2 : a ∈ ι1 := by obtain ⟨t, rfl⟩ := x.pre; exact List.mem_append_left _ hm
      exact absurd h2 (hh.fresh hn)
    · have := (x.rest a o hm e).1
      rw [hn] at this
      rcases this with z | ⟨_, _, z⟩ <;> cases z
theorem se_call (G : Gd T cf k N sc X) {f j : Nat} {x : Str} {ps : List Str} {nd : Nat} {ces : CEs} {e : Expr} {es : List Expr} (hf : T.fns[f]? = some (x, ps, nd)) (hj : j ≤ nd) (hg : isGl sc x = true) (hd : (x == ("__debug__" : Str)) = false) (ha : PA X (e :: es) (tAs X.K cf ces)) (hst : (e :: es).all noStar = true) :
    PE X (.Call (.Name x p) (e :: es) [] pos) (tE X.K cf (.call f j ces)) := by
  have Hs := G.tab.fns f x ps nd hf j hj
  rw [List.all_cons, Bool.and_eq_true] at hst
  exact PE.imp (pe_fn Hs G.room ha (G.gl hg) hd (star_of hst.1 es X.env) (stars_any hst.2)) fun σ H Qv h => call_args G.tab.frm h
theorem se_call0 (G : Gd T cf k N sc X) {f j : Nat} {x : Str} {ps : List Str} {nd : Nat} (hf : T.fns[f]? = some (x, ps, nd)) (hj : j ≤ nd) (hg : isGl sc x = true) (hd : (x == ("__debug__" : Str)) = false) :
    PE X (.Call (.Name x p) [] [] pos) (tE X.K cf (.call f j .nil)) := by
  have Hs := G.tab.fns f x ps nd hf j hj
  refine PE.imp (pe_fn0 Hs G.room (G.gl hg) hd) fun σ H Qv ⟨δ, ι, S, Q, hs, hh, w, q⟩ => ?_
  simp only [evE, evEs, bind_ok] at w
  unfold app at w
  rw [W_bind] at w
  obtain ⟨d, T', e, w2⟩ := W_ok' w
  refine ⟨ι, S.enter, [] ++ List.replicate j .non, RVs.append rfl (RVs.nons j), hh.enter, ?_⟩
  rw [e]
  exact fun v H' ι' x r hT => q v H' (leave_ok hh x r hT (G.tab.frm _ _ _ _ _ e).frz w2)
end
end R

end
section
/-! The interpreter is sound: slices, built-ins, methods. -/
namespace R
open PySem PySem.Spec PyProof.Rows L2
variable [Mks]
section
variable {prog : Program} {w : World} {A : Around} {E : Value → Shared → Prop} {s : Shared}
end
section
variable {T : Tab} {cf : CF} {k : Nat} {N : List Str} {sc : Scope} {X : Cx} {pos p : Pos}
/-- a slice's part -/
inductive PartOk (X : Cx) (cf : CF) : Bool → CE → Option Expr → Prop where
  | no {c : CE} (h : ∃ d, c = .con d) : PartOk X cf false c none
  | yes {c : CE} {e : Expr} (h : PE X e (tE X.K cf c)) : PartOk X cf true c (some e)
end
end R

end
section
/-! The interpreter is sound: built-ins, methods. -/
namespace R
open PySem PySem.Spec PyProof.Rows L2
variable [Mks]
def rB (K : PySem.W.Frag) (f : R.St → List D → Out D) : List V → Hp → VK → Prop := fun xs H Qv => ∃ ι S ds Qd, RVs K ι H ds xs ∧ RH K ι H S ∧ W (f S ds) Qd ∧ ∀ v H', Lf K ι H Qd v H' → Qv v H'
section
variable {T : Tab} {cf : CF} {k : Nat} {N : List Str} {sc : Scope} {X : Cx} {pos p : Pos}
theorem RVs.one {K : PySem.W.Frag} {ι : List Addr} {H : Hp} {d : D} {xs : List V} (r : RVs K ι H [d] xs) : ∃ v, xs = [v] ∧ RV K ι H d v := by
  obtain ⟨v, w, rfl, r1, r2⟩ := r
  cases (show w = [] from r2)
  exact ⟨v, rfl, r1⟩
theorem RVs.two {K : PySem.W.Frag} {ι : List Addr} {H : Hp} {d e : D} {xs : List V} (r : RVs K ι H [d, e] xs) : ∃ v u, xs = [v, u] ∧ RV K ι H d v ∧ RV K ι H e u := by
  obtain ⟨v, w, rfl, r1, r2⟩ := r
  obtain ⟨u, rfl, r3⟩ := RVs.one r2
  exact ⟨v, u, rfl, r1, r3⟩
theorem len_ok : CallR X (.builtin "len") (rB X.K fun S ds => R.bi S .len ds) := by
  intro pins s σ H xs us Qv I rv ⟨ι, S, ds, Qd, r, hh, w, q⟩
  dsimp only at w
  unfold bi at w
  split at w
  case h_1 x =>
    obtain ⟨v, rfl, rr⟩ := r.one
    split at w
    · obtain ⟨a, xs, rfl, ha, r2⟩ := rr
      refine call_len_seq pins s σ H _ us Qv I rv ⟨a, xs, rfl, .inr (SqT.of ha), ?_⟩
      rw [r2.length]
      exact q _ _ (Lf.of (d := .int _) hh rfl w)
    · obtain ⟨a, xs, rfl, ha, r2⟩ := rr
      refine call_len_seq pins s σ H _ us Qv I rv ⟨a, xs, rfl, .inl ha.sq, ?_⟩
      rw [r2.length]
      exact q _ _ (Lf.of (d := .int _) hh rfl w)
    · rename_i l
      obtain ⟨a, h1, rfl⟩ := rr
      cases e : S.get l with
      | none => rw [e] at w; exact w.elim
      | some o =>
        rw [e] at w
        obtain ⟨b, h2, h3⟩ := hh.obj _ _ e
        rw [h1] at h2; cases h2
        cases o with
        | lst ds =>
          obtain ⟨xs, ha, r2⟩ := h3
          refine call_len_seq pins s σ H _ us Qv I rv ⟨a, xs, rfl, .inl (SqL.of ha), ?_⟩
          rw [r2.length]
          exact q _ _ (Lf.of (d := .int _) hh rfl w)
        | dic kvs =>
          obtain ⟨rfl, ha⟩ := h3
          exact call_lenD pins s σ H _ us Qv I rv ⟨a, [], rfl, ha, q _ _ (Lf.of (d := .int _) hh rfl w)⟩
        | ins _ _ => exact w.elim
        | dtp _ => exact w.elim
    · exact w.elim
  all_goals first | exact w.elim | (rename_i h; cases h)
theorem abs_ok : CallR X (.builtin "abs") (rB X.K fun S ds => R.bi S .abs ds) := by
  intro pins s σ H xs us Qv I rv ⟨ι, S, ds, Qd, r, hh, w, q⟩
  dsimp only at w
  unfold bi at w
  split at w
  case h_2 i _ =>
    obtain ⟨v, rfl, rr⟩ := r.one
    obtain rfl : v = .int i := rr
    exact call_abs pins s σ H _ us Qv I rv ⟨i, rfl, q _ _ (Lf.of (d := .int _) hh rfl w)⟩
  all_goals first | exact w.elim | (rename_i h; cases h)
theorem max_ok (hc : X.calm = true) : CallR X (.builtin "max") (rB X.K fun S ds => R.bi S .max2 ds) := by
  intro pins s σ H xs us Qv I rv ⟨ι, S, ds, Qd, r, hh, w, q⟩
  dsimp only at w
  unfold bi at w
  split at w
  case h_3 i j _ =>
    obtain ⟨v, u, rfl, r1, r2⟩ := r.two
    obtain rfl : v = .int i := r1
    obtain rfl : u = .int j := r2
    exact call_max2 hc pins s σ H _ us Qv I rv ⟨i, j, rfl, q _ _ (Lf.of (d := .int _) hh rfl w)⟩
  all_goals first | exact w.elim | (rename_i h; cases h)
theorem min_ok (hc : X.calm = true) : CallR X (.builtin "min") (rB X.K fun S ds => R.bi S .min2 ds) := by
  intro pins s σ H xs us Qv I rv ⟨ι, S, ds, Qd, r, hh, w, q⟩
  dsimp only at w
  unfold bi at w
  split at w
  case h_4 i j _ =>
    obtain ⟨v, u, rfl, r1, r2⟩ := r.two
    obtain rfl : v = .int i := r1
    obtain rfl : u = .int j := r2
    exact call_min2 hc pins s σ H _ us Qv I rv ⟨i, j, rfl, q _ _ (Lf.of (d := .int _) hh rfl w)⟩
  all_goals first | exact w.elim | (rename_i h; cases h)
theorem blt_of (G : Gd T cf k N sc X) {x : Str} (h : bltB T sc x = true) : Gl X x ∧ X.mg x = none := by
  unfold bltB at h
  rw [Bool.and_eq_true] at h
  exact ⟨G.gl h.1, G.tab.blt x h.2⟩
theorem se_bi {b : Bi} {id : String} {x : Str} {ces : CEs} {e : Expr} {es : List Expr} (hc : CallR X (.builtin id) (rB X.K fun S ds => R.bi S b ds)) (hg : Gl X x ∧ X.mg x = none) (hv : bootBuiltins x = some (.builtin id)) (ha : PA X (e :: es) (tAs X.K cf ces)) (hst : (e :: es).all noStar = true) (hn : x ≠ "__name__") (hdb : (x == ("__debug__" : Str)) = false) :
    PE X (.Call (.Name x p) (e :: es) [] pos) (tE X.K cf (.bi b ces)) := by
  rw [List.all_cons, Bool.and_eq_true] at hst
  refine PE.imp (pe_callB hc hg.1 hg.2 hv ha hn hdb (star_of hst.1 es X.env) (stars_any hst.2)) fun σ H Qv ⟨δ, ι, S, Q, hs, hh, w, q⟩ => ?_
  simp only [evE, W_bind] at w
  refine tAs.run hs hh w fun ds vs ι1 H1 S1 x1 hs1 hh1 r1 w1 => ?_
  exact ⟨ι1, S1, ds, Q, r1, hh1, w1, fun v H' l => q v H' (Lf.up x1 l)⟩
theorem tyOf_ok {ι : List Addr} {H : Hp} {S : R.St} {d : D} {v : V} {a : String} (hh : RH X.K ι H S) (r : RV X.K ι H d v) (h : tyOf S d = some a) : tyName H v = some a := by
  cases d with
  | non => obtain rfl : v = .non := r; exact h
  | bl b => obtain rfl : v = .bl b := r; exact h
  | int b => obtain rfl : v = .int b := r; exact h
  | str b => obtain rfl : v = .str b := r; exact h
  | tup ds =>
    obtain ⟨p, xs, rfl, ha, _⟩ := r
    simp only [tyOf] at h
    simp only [tyName, ha]
    exact h
  | ref l =>
    obtain ⟨p, h1, rfl⟩ := r
    simp only [tyOf] at h
    simp only [tyName]
    cases e : S.get l with
    | none => rw [e] at h; cases h
    | some o =>
      rw [e] at h
      obtain ⟨b, h2, h3⟩ := hh.obj _ _ e
      rw [h1] at h2; cases h2
      cases o with
      | lst ds => obtain ⟨xs, ha, _⟩ := h3; rw [ha]; exact h
      | dic kvs => rw [h3.2]; exact h
      | ins _ _ => cases h
      | dtp kvs => obtain ⟨_, ws, ha, _⟩ := h3; rw [ha]; exact h
  | fix ds => cases h
theorem se_isin (G : Gd T cf k N sc X) {t : String} {y : Str} {p2 : Pos} {ce : CE} {e : Expr} (hg : Gl X "isinstance" ∧ X.mg "isinstance" = none) (hy : Gl X y ∧ X.mg y = none) (hb : bootBuiltins y = some (.type t)) (ht : t ∈ ["bool", "int", "str", "list", "tuple", "dict"]) (hyn : y ≠ "__name__") (hyd : (y == ("__debug__" : Str)) = false)
    (he : PE X e (tE X.K cf ce)) (hst : noStar e = true) : PE X (.Call (.Name "isinstance" p) [e, .Name y p2] [] pos) (tE X.K cf (.bi (.isin t) (.cons ce .nil))) := by
  refine PE.imp (pe_callB call_isinst hg.1 hg.2 bb_isinstance (pa_cons he (pa_cons (pe_bltn (v := .ty t) hy.1 hy.2 hb rfl hyn hyd) pa_nil) (star_of hst _ X.env)) (by decide) (by decide) (star_of hst _ X.env)) fun σ H Qv ⟨δ, ι, S, Q, hs, hh, w, q⟩ => ?_
  simp only [evE, evEs, W_bind, W_ok] at w
  refine tE.run hs hh w fun d v ι1 H1 S1 x1 hs1 hh1 r1 w1 => ?_
  simp only [bi] at w1
  cases e : tyOf S1 d with
  | none => rw [e] at w1; exact w1.elim
  | some a =>
    rw [e] at w1
    exact ⟨v, t, a, rfl, tyOf_ok hh1 r1 e, ht, q _ _ (Lf.up x1 (Lf.of (d := .bl _) hh1 rfl w1))⟩
/-! ### methods of lists -/
theorem isL_ok {ι : List Addr} {H : Hp} {S : R.St} {d : D} {v : V} (hh : RH X.K ι H S) (r : RV X.K ι H d v) (h : isL S d = true) : tyV X.K "list" v H := by
  cases d with
  | ref l =>
    obtain ⟨p, h1, rfl⟩ := r
    simp only [isL] at h
    cases e : S.get l with
    | none => rw [e] at h; cases h
    | some o =>
      rw [e] at h
      obtain ⟨b, h2, h3⟩ := hh.obj _ _ e
      rw [h1] at h2; cases h2
      cases o with
      | lst ds => obtain ⟨xs, ha, _⟩ := h3; exact .inl ⟨rfl, xs, SqL.of ha⟩
      | _ => cases h
  | _ => cases h
def rM (K : PySem.W.Frag) (m : Mt) : V → List V → Hp → VK → Prop := fun x xs H Qv => ∃ ι S d ds Qd, RV K ι H d x ∧ RVs K ι H ds xs ∧ RH K ι H S ∧ W (R.mt S m d ds) Qd ∧ ∀ v H', Lf K ι H Qd v H' → Qv v H'
theorem append_ok : MtR X "list.append" (rM X.K .append) := by
  intro pins s σ H x xs v us Qv I rx rv ⟨ι, S, d, ds, Qd, r, rs, hh, w, q⟩
  unfold R.mt at w
  split at w
  case h_1 l y _ =>
    obtain ⟨a, h1, rfl⟩ := r
    obtain ⟨u, rfl, ru⟩ := rs.one
    cases e : S.get l with
    | none => rw [e] at w; exact w.elim
    | some o =>
      rw [e] at w
      obtain ⟨b, h2, h3⟩ := hh.obj _ _ e
      rw [h1] at h2; cases h2
      cases o with
      | lst ds =>
        obtain ⟨zs, ha, r2⟩ := h3
        obtain ⟨c, S', hp, w2⟩ := wr_ex w
        refine mt_append pins s σ H _ _ v us Qv I rx rv ⟨a, zs, u, rfl, rfl, ha, ?_, ?_⟩
        · rw [r2.length]
          rw [List.length_append, List.length_singleton] at c
          omega
        · exact q _ _ (Lf.wr (d := .non) hh e h1 hp (r2.append ⟨u, [], rfl, ru, rfl⟩) rfl w2)
      | _ => exact w.elim
  all_goals first | exact w.elim | (rename_i h; cases h)
theorem popAt_ok : MtR X "list.pop" (rM X.K .popAt) := by
  intro pins s σ H x xs v us Qv I rx rv ⟨ι, S, d, ds, Qd, r, rs, hh, w, q⟩
  unfold R.mt at w
  split at w
  case h_2 l i _ =>
    obtain ⟨a, h1, rfl⟩ := r
    obtain ⟨u, rfl, ru⟩ := rs.one
    obtain rfl : u = .int i := ru
    cases e : S.get l with
    | none => rw [e] at w; exact w.elim
    | some o =>
      rw [e] at w
      obtain ⟨b, h2, h3⟩ := hh.obj _ _ e
      rw [h1] at h2; cases h2
      cases o with
      | lst ds =>
        obtain ⟨zs, ha, r2⟩ := h3
        dsimp only at w
        split at w
        · rename_i c0
          cases ey : ds[i.toNat]? with
          | none => rw [ey] at w; exact w.elim
          | some y =>
            rw [ey] at w
            obtain ⟨c, S', hp, w2⟩ := wr_ex w
            obtain ⟨u, eu, ru⟩ := r2.get ey
            have hlt : i.toNat < zs.length := (List.getElem?_eq_some_iff.mp eu).1
            have hz : zs.length ≤ sizeLine := (I.lstM ha).1
            rw [sizeLine_eq] at hz
            refine mt_popAt pins s σ H _ _ v us Qv I rx rv ⟨a, zs, i, i.toNat, u, rfl, rfl, ha, by omega, by omega, ?_, eu, ?_⟩
            · exact PySem.StrLaws.seqIndex_nonneg c0 (by omega)
            · exact q _ _ (Lf.wr (d := y) hh e h1 hp (r2.erase _) ru w2)
        · exact w.elim
      | _ => exact w.elim
  all_goals first | exact w.elim | (rename_i h; cases h)
theorem words_get : ∀ {ds : List D} {os : List (Option Int)}, wordsOf ds = some os → ds = os.map fun o => match o with | some i => D.int i | none => D.non := by
  intro ds
  unfold wordsOf
  induction ds with
  | nil => intro os h; simp at h; subst h; rfl
  | cons d ds ih =>
    intro os h
    obtain ⟨y, r, h1, h2, rfl⟩ := mapM_cons_some h
    rw [ih h2]
    cases d <;> simp [wordOf] at h1 <;> subst h1 <;> rfl
/-- how a word lies -/
def wV : Option Int → V
  | some i => .int i
  | none => .non
theorem words_vs {K : PySem.W.Frag} {ι : List Addr} {H : Hp} : ∀ {os : List (Option Int)} {vs : List V}, RVs K ι H (os.map fun o => match o with | some i => D.int i | none => D.non) vs → vs = os.map wV
  | [], _, h => h
  | o :: os, vs, h => by
    obtain ⟨v, r, rfl, h1, h2⟩ := h
    rw [words_vs h2]
    cases o <;> rw [show v = _ from h1] <;> rfl
def isI (i : Int) : Value → Bool
  | .int j _ => j == i
  | _ => false
theorem count_vals (i : Int) : ∀ {os : List (Option Int)} {us : List Value}, Vals (os.map wV) us → (∀ y ∈ us, y = Value.none ∨ ∃ a u, y = Value.int a u) ∧ us.countP (isI i) = os.count (some i)
  | [], us, r => by cases r; exact ⟨fun y hy => by simp at hy, rfl⟩
  | o :: os, us, r => by
    cases r with
    | @cons _ u _ us r1 r2 =>
      obtain ⟨h1, h2⟩ := count_vals i r2
      cases o with
      | none =>
        obtain rfl : u = Value.none := r1
        refine ⟨fun y hy => ?_, ?_⟩
        · rcases List.mem_cons.mp hy with rfl | hy
          · exact .inl rfl
          · exact h1 y hy
        · rw [List.countP_cons, List.count_cons, h2]; simp [isI]
      | some j =>
        obtain ⟨t, rfl⟩ : ∃ t, u = Value.int j t := r1
        refine ⟨fun y hy => ?_, ?_⟩
        · rcases List.mem_cons.mp hy with rfl | hy
          · exact .inr ⟨_, _, rfl⟩
          · exact h1 y hy
        · rw [List.countP_cons, List.count_cons, h2]; simp [isI]
theorem count_ok : MtR X "list.count" (rM X.K .count) := by
  intro pins s σ H x xs v us Qv I rx rv ⟨ι, S, d, ds, Qd, r, rs, hh, w, q⟩
  unfold R.mt at w
  split at w
  case h_3 l i _ =>
    obtain ⟨a, h1, rfl⟩ := r
    obtain ⟨u, rfl, ru⟩ := rs.one
    obtain rfl : u = .int i := ru
    cases e : S.get l with
    | none => rw [e] at w; exact w.elim
    | some o =>
      rw [e] at w
      obtain ⟨b, h2, h3⟩ := hh.obj _ _ e
      rw [h1] at h2; cases h2
      cases o with
      | lst ds =>
        obtain ⟨zs, ha, r2⟩ := h3
        dsimp only at w
        cases e2 : wordsOf ds with
        | none => rw [e2] at w; exact w.elim
        | some os =>
          rw [e2] at w
          rw [words_get e2] at r2
          cases words_vs r2
          obtain ⟨its, rz, pl, _⟩ := I.list (SqL.of ha)
          obtain ⟨u1, rfl, ru1⟩ := Vals.one rv
          obtain ⟨t, rfl⟩ := ru1
          cases rx
          obtain ⟨c1, c2⟩ := count_vals i rz
          have hl := pl.isList
          obtain ⟨⟨cls, dd, data, sl⟩, ho, hc, n, hd⟩ := id hl
          simp only at hc hd
          subst hc hd
          refine call_meets PySem.F.slot_list_count ⟨_, ho, rfl⟩ PySem.F.entry_list_count (PySem.F.args_list_count_2 _ _) (PySem.SeqAt.list_countAt a its.toArray n dd sl (.int i t) (isI i)) ⟨ho, fun y hy => ?_, ?_⟩
          · rcases c1 y (by simpa using hy) with rfl | ⟨j, u, rfl⟩
            · exact PySem.SeqAt.EqAt.none_int i t
            · exact PySem.SeqAt.EqAt.int_int j u i t
          · rw [show its.toArray.toList = its from rfl, c2]
            exact ⟨.int _, H, I.tok _, ⟨_, rfl⟩, q _ _ (Lf.of (d := .int _) hh rfl w)⟩
      | _ => exact w.elim
  all_goals first | exact w.elim | (rename_i h; cases h)
theorem se_mt {m : Mt} {id : String} {name : Str} {co ce : CE} {o e : Expr} {apos cpos : Pos} (slot : Slot "list" name id) (hty : typeOf (.builtin id) = pure (.type "method_descriptor")) (hm : MtR X id (rM X.K m)) (ho : PE X o (tE X.K cf co)) (he : PE X e (tE X.K cf ce)) (hst : noStar e = true) (hsup : notSup o = true) (hl : (apos.endLine == cpos.line) = true) :
    PE X (.Call (.Attribute o name apos) [e] [] cpos) (tE X.K cf (.mt m co (.cons ce .nil))) := by
  refine PE.imp (pe_bm PySem.F.plainAttrs_list slot hty hm ho (sa_cons he sa_nil hst) (sup_of hsup name X.env _) (by rw [star_of hst]; rfl) hl (star_of hst [] X.env)) fun σ H Qv ⟨δ, ι, S, Q, hs, hh, w, q⟩ => ?_
  simp only [evE, W_bind] at w
  refine tE.run hs hh w fun d v ι1 H1 S1 x1 hs1 hh1 r1 w1 => ?_
  split at w1
  · rename_i c
    refine ⟨isL_ok hh1 r1 c, ?_⟩
    rw [W_bind] at w1
    refine tAs.run hs1 hh1 w1 fun ds vs ι2 H2 S2 x2 hs2 hh2 r2 w2 => ?_
    exact ⟨ι2, S2, d, ds, Q, r1.ext x2, r2, hh2, w2, fun z H3 l => q z H3 (Lf.up (x1.trans x2) l)⟩
  · exact w1.elim
end
end R

end
section
/-! The interpreter is sound: what is walked at once by a built-in. -/
namespace R
open PySem PySem.Spec PyProof.Rows L2
variable [Mks]
section
variable {T : Tab} {cf : CF} {k : Nat} {N : List Str} {sc : Scope} {X : Cx} {pos p : Pos}
theorem SqK.seq {K : PySem.W.Frag} {ι : List Addr} {H : Hp} {S : R.St} {a : Addr} {xs : List V} {ds : List D} {lks : List Nat} (h : SqK K ι H S a xs ds lks) : SqL K H a xs ∨ SqT K H a xs := by
  cases h with
  | tmp h e => exact .inl (SqL.of e)
  | tup e => exact .inr (SqT.of e)
  | fix e => exact .inl e.sq
  | own l hl hi hs e => exact .inl (SqL.of e)
/-- a value that is walked -/
theorem sl_val {ce : CE} {e : Expr} (he : PE X e (tE X.K cf ce)) : PE X e (tL X.K cf (.val ce)) := by
  refine PE.imp he fun σ H Qv ⟨δ, ι, S, Q, hs, hh, w, q⟩ => ?_
  simp only [evL, W_bind] at w
  refine tE.run hs hh w fun d v ι1 H1 S1 x1 hs1 hh1 r1 w1 => ?_
  obtain ⟨ds, eq, w2⟩ := W_lift' w1
  refine q v H1 ⟨ds, lkOf S1 d, ι1, S1, x1, ?_, hh1, w2⟩
  cases d with
  | tup es =>
    cases eq
    obtain ⟨a, xs, rfl, ha, rr⟩ := r1
    exact ⟨a, xs, rfl, rr, .tup ha⟩
  | fix es =>
    cases eq
    obtain ⟨a, xs, rfl, ha, rr⟩ := r1
    exact ⟨a, xs, rfl, rr, .fix ha⟩
  | ref l =>
    simp only [seqOf] at eq
    split at eq
    · rename_i ds' e
      cases eq
      obtain ⟨a, h1, rfl⟩ := r1
      obtain ⟨a2, h2, xs, ha, rr⟩ := hh1.obj _ _ e
      rw [h1] at h2; cases h2
      exact ⟨a, xs, rfl, rr, .own l (by simp [lkOf]) h1 e ha⟩
    · cases eq
  | _ => cases eq
theorem one_arg {e : Expr} {te : TE} (he : PE X e te) (hst : noStar e = true) : PA X [e] (tCons te tNil) := pa_cons he pa_nil (star_of hst [] X.env)
theorem se_mkT (G : Gd T cf k N sc X) {cl : CL} {e : Expr} (hg : Gl X "tuple" ∧ X.mg "tuple" = none) (he : PE X e (tL X.K cf cl)) (hst : noStar e = true) : PE X (.Call (.Name "tuple" p) [e] [] pos) (tE X.K cf (.mkT cl)) := by
  refine PE.imp (pe_callTy call_tuple_of hg.1 hg.2 bb_tuple (one_arg he hst) (by decide) (by decide) (star_of hst [] X.env)) fun σ H Qv ⟨δ, ι, S, Q, hs, hh, w, q⟩ => ?_
  simp only [evE, W_bind] at w
  refine tL.run hs hh w fun ds lks v ι1 H1 S1 x1 hs1 hh1 sq w1 => ?_
  split at w1
  · rename_i c
    obtain ⟨a, xs, rfl, rr, kd⟩ := sq
    have fresh : SqL X.K H1 a xs → ∃ p ys, [V.ref a] = [V.ref p] ∧ ((SqL X.K H1 p ys ∧ ∀ l, H1 l = none → Qv (.ref l) (upd H1 l (.tup ys))) ∨ (SqT X.K H1 p ys ∧ Qv (.ref p) H1)) := fun h =>
      ⟨a, xs, rfl, .inl ⟨h, fun l hl => q _ _ (Lf.up x1 (Lf.tup hh1 hl rr w1))⟩⟩
    cases kd with
    | tmp h e => exact fresh (SqL.of e)
    | fix e => exact fresh e.sq
    | own l hl hi hs e => exact fresh (SqL.of e)
    | tup e => exact ⟨a, xs, rfl, .inr ⟨SqT.of e, q _ _ (Lf.up x1 (Lf.of (d := .tup ds) hh1 ⟨a, xs, rfl, e, rr⟩ w1))⟩⟩
  · exact w1.elim
/-- list(e) -/
theorem se_mkL (G : Gd T cf k N sc X) {cl : CL} {e : Expr} (hg : Gl X "list" ∧ X.mg "list" = none) (he : PE X e (tL X.K cf cl)) (hst : noStar e = true) : PE X (.Call (.Name "list" p) [e] [] pos) (tE X.K cf (.mkL cl)) := by
  refine PE.imp (pe_callTy call_list_of hg.1 hg.2 bb_list (one_arg he hst) (by decide) (by decide) (star_of hst [] X.env)) fun σ H Qv ⟨δ, ι, S, Q, hs, hh, w, q⟩ => ?_
  simp only [evE, W_bind] at w
  refine tL.run hs hh w fun ds lks v ι1 H1 S1 x1 hs1 hh1 sq w1 => ?_
  obtain ⟨c, w2⟩ := lay_ex w1
  obtain ⟨a, xs, rfl, rr, kd⟩ := sq
  exact ⟨a, xs, rfl, kd.seq, fun l hl => q _ _ (Lf.up x1 (Lf.lst hh1 hl rr w2))⟩
/-- a comprehension as a value: its list becomes ours -/
theorem mkC_imp {cl : CL} {σ : L2.St} {H : Hp} {Qv : VK} (h : tE X.K cf (.mkL cl) σ H Qv) : tLt X.K cf cl σ H Qv := by
  obtain ⟨δ, ι, S, Q, hs, hh, w, q⟩ := h
  simp only [evE, W_bind] at w
  refine tLt.run hs hh w fun ds p xs ι1 H1 S1 x1 hs1 hh1 r1 hp e hn w1 => ?_
  obtain ⟨c, w2⟩ := lay_ex w1
  refine q _ _ ⟨.ref S1.len, ι1 ++ [p], S1.push (.lst ds), ?_, ⟨p, hh1.last p, rfl⟩, hh1.one (l := 0) hp ⟨xs, e, r1.up (List.prefix_append _ _) (Kp.refl _)⟩, w2⟩
  refine ⟨x1.pre.trans (List.prefix_append _ _), x1.kp, fun b o hb eb => ⟨(x1.rest b o hb eb).1, fun z => ?_⟩⟩
  rcases List.mem_append.mp z with z | z
  · exact (x1.rest b o hb eb).2 z
  · simp at z
    subst z
    rw [hn] at eb; cases eb
end
end R

end
section
set_option maxHeartbeats 4000000
/-! The interpreter is sound: range objects, all, sets of ints. -/
namespace R
open PySem PySem.Spec PyProof.Rows L2
variable [Mks]
section
variable {T : Tab} {cf : CF} {k : Nat} {N : List Str} {sc : Scope} {X : Cx} {pos p : Pos}
theorem bb_range : bootBuiltins "range" = some (.type "range") := by decide +kernel
theorem range_obj : CallR X (.type "range") (fun xs H Q => ∃ j, xs = [.int j] ∧ ∀ p, H p = none → Q (.ref p) (upd H p (.rng 0 j))) := by
  intro pins s σ H xs us Q I r h
  obtain ⟨j, rfl, q⟩ := h
  obtain ⟨u, rfl, ru⟩ := r.one
  obtain ⟨t, rfl⟩ := ru
  refine call_range_1 ⟨.ref s.heap.objs.size, _, I.laid (o := .rng 0 j) (fun b ob e => Heap.get?_push_of_some _ e) (Nat.le_refl _) ?_, rfl, q _ (I.hok.fresh (Nat.le_refl _))⟩
  exact ⟨_, _, _, Heap.get?_push_size _ rfl⟩
theorem list_rng (hc : X.calm = true) : CallR X (.type "list") (fun xs H Q => ∃ p hi, xs = [.ref p] ∧ H p = some (.rng 0 hi) ∧ -(2 ^ 62) ≤ hi ∧ hi < 2 ^ 62 ∧ hi.toNat ≤ 16777216 ∧ ∀ l, H l = none → Q (.ref l) (upd H l (.lst ((List.range hi.toNat).map fun (j : Nat) => .int j)))) := by
  intro pins s σ H xs us Q I r h
  obtain ⟨p, hi, rfl, hp, h1, h2, h3, q⟩ := h
  obtain ⟨u, rfl, ru⟩ := r.one
  cases (show u = Value.ref p from ru)
  obtain ⟨t, t2, t3, e⟩ := (show ObjOk X.prog X.w H s.heap p (.rng 0 hi) from I.hok p _ hp)
  have hn : Builtin.Range.rangeSize 0 hi 1 = (hi.toNat : Nat) := by rw [rangeSize_one]; split <;> omega
  refine call_list_range (I.ok.hd hc) e (small_one (by decide) (by decide) h1 h2) hn h3 fun h' tk acc c kp hg it => ?_
  refine ⟨.ref s.heap.objs.size, _, I.laid (o := .lst _) kp (Nat.le_refl _) ⟨?_, acc.toList, c, ?_, ?_⟩, rfl, q _ (I.hok.fresh (Nat.le_refl _))⟩
  · rw [List.length_map, List.length_range, sizeLine_eq]; exact h3
  · have key : ∀ (n : Nat) (us : List Value), us.length = n → (∀ (j : Nat) (v : Value), us[j]? = some v → ∃ t, v = Value.int (0 + (j : Int) * 1) t) → Vals ((List.range n).map fun (j : Nat) => V.int j) us := by
      intro n
      induction n with
      | zero => intro us hl _; cases us with
        | nil => exact .nil
        | cons _ _ => simp at hl
      | succ n ih =>
        intro us hl hv
        have hne : us ≠ [] := by intro z; subst z; simp at hl
        have hd : us = us.dropLast ++ [us.getLast hne] := (List.dropLast_concat_getLast hne).symm
        rw [List.range_succ, List.map_append, hd]
        have hdl : us.dropLast.length = n := by simp [hl]
        refine Vals.append (ih _ hdl fun j v e => hv j v ?_) (.cons ?_ .nil)
        · have hj : j < us.dropLast.length := (List.getElem?_eq_some_iff.mp e).1
          rw [hd, List.getElem?_append_left hj]; exact e
        · obtain ⟨t, e⟩ := hv n (us.getLast hne) (by
            conv => lhs; rw [hd]
            rw [List.getElem?_append_right (by omega)]
            simp [hdl])
          exact ⟨t, by simpa using e⟩
    exact key _ _ (by simpa using it.1) fun j v e => it.2 j v (by simpa using e)
  · simpa using hg
theorem se_mkR1 (G : Gd T cf k N sc X) {ca : CE} {a : Expr} {p2 : Pos} (hg : Gl X "list" ∧ X.mg "list" = none) (hr : Gl X "range" ∧ X.mg "range" = none) (ha : PE X a (tE X.K cf ca)) (hst : noStar a = true) :
    PE X (.Call (.Name "list" p) [.Call (.Name "range" p2) [a] [] pos'] [] pos) (tE X.K cf (.mkL (.rng1 ca))) := by
  have hin := pe_callTy (p := p2) (pos := pos') range_obj hr.1 hr.2 bb_range (one_arg ha hst) (by decide) (by decide) (star_of hst [] X.env)
  refine PE.imp (pe_callTy (list_rng G.calm) hg.1 hg.2 bb_list (one_arg hin rfl) (by decide) (by decide) rfl) fun σ H Qv ⟨δ, ι, S, Q, hs, hh, w, q⟩ => ?_
  simp only [evE, evL, W_bind] at w
  refine tE.run hs hh w fun d v ι1 H1 S1 x1 hs1 hh1 r1 w1 => ?_
  cases d with
  | int j =>
    obtain rfl : v = .int j := r1
    dsimp only at w1
    split at w1
    · rename_i c
      obtain ⟨c2, w2⟩ := lay_ex w1
      refine ⟨j, rfl, fun pr hpr => ⟨pr, j, rfl, upd_same, c.1, c.2, by simpa [sizeLine_eq] using c2, fun l hl => ?_⟩⟩
      have hh2 := hh1.new hpr (.rng 0 j)
      refine q _ _ (Lf.up (x1.trans (Ext.new hpr _)) (Lf.lst hh2 hl ?_ w2))
      have := RVs.ints (K := X.K) (ι := ι1) (H := upd H1 pr (.rng 0 j)) ((List.range j.toNat).map fun (m : Nat) => (m : Int))
      rw [List.map_map, List.map_map] at this
      exact this
    · exact w1.elim
  | _ => exact w1.elim
/-! ### all -/
theorem boolsOf {ds : List D} {bs : List Bool} (h : ds.mapM boolOf = some bs) : ds = bs.map D.bl := by
  induction ds generalizing bs with
  | nil =>
    have h : bs = [] := by simpa using h.symm
    subst h; rfl
  | cons d ds ih =>
    obtain ⟨y, r, h1, h2, rfl⟩ := mapM_cons_some h
    cases d <;> simp [boolOf] at h1
    subst h1
    rw [ih h2]; rfl
theorem RVs.bls_eq {K : PySem.W.Frag} {ι : List Addr} {H : Hp} : ∀ {bs : List Bool} {vs : List V}, RVs K ι H (bs.map D.bl) vs → vs = bs.map V.bl
  | [], _, h => h
  | b :: bs, vs, h => by
    obtain ⟨v, r, rfl, h1, h2⟩ := h
    rw [RVs.bls_eq h2, show v = .bl b from h1]; rfl
theorem vals_bl {bs : List Bool} {us : List Value} (r : Vals (bs.map V.bl) us) : us = bs.map Value.bool := by
  induction bs generalizing us with
  | nil => cases r; rfl
  | cons b bs ih =>
    cases r with
    | cons r1 r2 => rw [ih r2, show _ = Value.bool b from r1]; rfl
theorem all_range (bs : List Bool) : (List.range bs.length).all (fun i => bs.getD i false) = bs.all id := by
  rw [Bool.eq_iff_iff, List.all_eq_true, List.all_eq_true]
  constructor
  · intro h b hb
    obtain ⟨i, hi, e⟩ := List.getElem_of_mem hb
    have := h i (by simpa using hi)
    rw [List.getD_eq_getElem?_getD, List.getElem?_eq_getElem hi, e] at this
    exact this
  · intro h i hi
    have hi : i < bs.length := by simpa using hi
    rw [List.getD_eq_getElem?_getD, List.getElem?_eq_getElem hi]
    exact h _ (List.getElem_mem hi)
theorem all_seq (hc : X.calm = true) : CallR X (.builtin "all") (fun xs H Q => ∃ (a : Addr) (bs : List Bool), xs = [.ref a] ∧ (SqL X.K H a (bs.map V.bl) ∨ SqT X.K H a (bs.map V.bl)) ∧ Q (.bl (bs.all id)) H) := by
  intro pins s σ H xs us Q I r h
  obtain ⟨a, bs, rfl, hq, q⟩ := h
  obtain ⟨u, rfl, ru⟩ := r.one
  cases (show u = Value.ref a from ru)
  have hA : X.A.in1.in1.handled = none := I.ok.hd hc
  have hA1 : X.A.in1.handled = none := I.ok.hd hc
  have tr : ∀ (items : Array Value), items.toList = bs.map Value.bool → TruthOf X.prog X.w X.A.in1 (fun i v => items[i]? = some v) (fun i => bs.getD i false) := by
    intro items e i v s' Q' E' hv hQ
    have hv' : items.toList[i]? = some v := by rw [Array.getElem?_toList]; exact hv
    rw [e, List.getElem?_map] at hv'
    cases z : bs[i]? with
    | none => rw [z] at hv'; cases hv'
    | some b =>
      rw [z] at hv'
      simp only [Option.map_some, Option.some.injEq] at hv'
      subst hv'
      dsimp only at hQ
      rw [List.getD_eq_getElem?_getD, z] at hQ
      exact wpAny_truthy_bool hQ
  have fin : ∀ (h' : Heap) (tk n : Nat) (s2 : Shared) (it : Addr), n = bs.length → s.heap.objs.size = it → Inv X pins σ H s2 → s2.os = s.os → (∀ b o, b ∉ [it] → s2.heap.get? b = some o → h'.get? b = some o) →
      EP X pins σ Q (.bool ((List.range n).all fun i => bs.getD i false)) { s2 with heap := h', toks := tk } := by
    intro h' tk n s2 it hn hit I2 ho kp
    subst hn
    rw [all_range]
    have fp := I.fpOk (b := it) (H' := H) (by omega) (I.hok.fresh (by omega))
    obtain ⟨f0, f1, f2, f3, f4, f5⟩ := fp
    exact ⟨.bl _, H, I2.turned (it := it) (fun b o hb e => kp b o (by simpa using hb) e) f0 f1 f3 f4 f5, rfl, q⟩
  rcases hq with hq | hq
  · obtain ⟨its, rv, pl, hz⟩ := I.list hq
    have hits := vals_bl rv
    have hlen := rv.length
    refine call_all_walk (wpAny_pyIter_list pl.isList ?_)
    have hne : a ≠ s.heap.objs.size := by
      obtain ⟨o, n, e, _⟩ := pl
      exact Nat.ne_of_lt (Heap.lt_size e)
    refine ⟨s.heap.objs.size, _, _, _, _, _, _, rfl, Walks.list hA1 _ a hne its.toArray, ⟨⟨_, Heap.get?_push_size _ rfl, rfl, rfl⟩, pl.isList.push _⟩, tr its.toArray (by simpa using hits), fun h' tk kp => ?_⟩
    exact fin h' tk _ _ _ (by simpa using hlen.symm) rfl (I.kept (t' := s.toks) fun b o e => Heap.get?_push_of_some _ e) rfl kp
  · obtain ⟨its, rv, pl, hz⟩ := I.tuple hq
    have hits := vals_bl rv
    have hlen := rv.length
    refine call_all_walk (wpAny_pyIter_tuple (show s.heap.IsTuple a its.toArray from pl) ?_)
    have hne : a ≠ s.heap.objs.size := by
      obtain ⟨o, e, _⟩ := pl
      exact Nat.ne_of_lt (Heap.lt_size e)
    refine ⟨s.heap.objs.size, _, _, _, _, _, _, rfl, Walks.tuple hA1 _ a hne its.toArray, ⟨⟨_, Heap.get?_push_size _ rfl, rfl, rfl⟩, ?_⟩, tr its.toArray (by simpa using hits), fun h' tk kp => ?_⟩
    · obtain ⟨o, e, c⟩ := pl
      exact ⟨o, Heap.get?_push_of_some _ e, c⟩
    · exact fin h' tk _ _ _ (by simpa using hlen.symm) rfl (I.kept (t' := s.toks) fun b o e => Heap.get?_push_of_some _ e) rfl kp
theorem se_all (G : Gd T cf k N sc X) {cl : CL} {e : Expr} (hg : Gl X "all" ∧ X.mg "all" = none) (he : PE X e (tL X.K cf cl)) (hst : noStar e = true) : PE X (.Call (.Name "all" p) [e] [] pos) (tE X.K cf (.all cl)) := by
  refine PE.imp (pe_callB (all_seq G.calm) hg.1 hg.2 bb_all (one_arg he hst) (by decide) (by decide) (star_of hst [] X.env)) fun σ H Qv ⟨δ, ι, S, Q, hs, hh, w, q⟩ => ?_
  simp only [evE, W_bind] at w
  refine tL.run hs hh w fun ds lks v ι1 H1 S1 x1 hs1 hh1 sq w1 => ?_
  obtain ⟨b, hb, w2⟩ := W_lift' w1
  unfold allD at hb
  cases e : ds.mapM boolOf with
  | none => rw [e] at hb; cases hb
  | some bs =>
    rw [e] at hb
    have hb : b = bs.all id := by simpa using hb.symm
    subst hb
    obtain ⟨a, xs, rfl, rr, kd⟩ := sq
    rw [boolsOf e] at rr
    have := rr.bls_eq
    subst this
    exact ⟨a, bs, rfl, kd.seq, q _ _ (Lf.up x1 (Lf.of (d := .bl _) hh1 rfl w2))⟩
/-! ### dicts by tuples -/
theorem isDt_ok {ι : List Addr} {H : Hp} {S : R.St} {d : D} {v : V} (hh : RH X.K ι H S) (r : RV X.K ι H d v) (h : isDt S d = true) : ∃ a, v = .ref a ∧ IsD H a := by
  cases d with
  | ref l =>
    obtain ⟨p, h1, rfl⟩ := r
    simp only [isDt] at h
    cases e : S.get l with
    | none => rw [e] at h; cases h
    | some o =>
      rw [e] at h
      obtain ⟨b, h2, h3⟩ := hh.obj _ _ e
      rw [h1] at h2; cases h2
      cases o with
      | dtp kvs => obtain ⟨_, ws, ha, _⟩ := h3; exact ⟨p, rfl, .inr ⟨ws, .inl ha⟩⟩
      | _ => cases h
  | _ => cases h
theorem key_ok {ι : List Addr} {H : Hp} {y : D} {v : V} {k : List Int} (r : RV X.K ι H y v) (h : keyOf y = some k) : ∃ b, v = .ref b ∧ H b = some (.tup ((kI k).map kV)) := by
  cases y with
  | tup ds =>
    obtain ⟨b, xs, rfl, hb, rr⟩ := r
    simp only [keyOf] at h
    rw [ints_map h] at rr
    rw [rr.ints_eq] at hb
    refine ⟨b, rfl, ?_⟩
    rw [hb]
    unfold kI
    rw [List.map_map]; rfl
  | _ => cases h
theorem dGet_ok {ι : List Addr} {H : Hp} {S : R.St} {x y : D} {vx vy : V} {o : Option D} (hh : RH X.K ι H S) (rx : RV X.K ι H x vx) (ry : RV X.K ι H y vy) (h : dGet S x y = some o) : ∃ a ov, vx = .ref a ∧ DGet H a vy ov ∧ RV X.K ι H (o.getD .non) (ov.getD .non) := by
  unfold dGet at h
  cases x with
  | ref l =>
    obtain ⟨p, h1, rfl⟩ := rx
    dsimp only at h
    cases e : S.get l with
    | none => rw [e] at h; cases h
    | some ob =>
      rw [e] at h
      obtain ⟨b, h2, h3⟩ := hh.obj _ _ e
      rw [h1] at h2; cases h2
      cases ob with
      | dtp kvs =>
        obtain ⟨_, ws, ha, rk⟩ := h3
        dsimp only at h
        cases ek : keyOf y with
        | none => rw [ek] at h; cases h
        | some k =>
          rw [ek] at h
          cases h
          obtain ⟨b, rfl, hb⟩ := key_ok ry ek
          refine ⟨p, _, rfl, DGet.t ha hb, ?_⟩
          rcases rk.val k with ⟨e1, e2⟩ | ⟨d, v, e1, e2, rv⟩
          · dsimp only; rw [e1, e2]; rfl
          · dsimp only; rw [e1, e2]; exact rv
      | _ => cases h
  | _ => cases h
theorem se_dnewT : PE X (.Dict [] [] pos) (tE X.K cf .dnewT) := by
  refine PE.imp pe_dnewT fun σ H Qv ⟨δ, ι, S, Q, hs, hh, w, q⟩ => ?_
  simp only [evE] at w
  intro p hp
  exact q _ _ ⟨.ref S.len, ι ++ [p], S.push (.dtp []), Ext.obj hh hp _, ⟨p, hh.last p, rfl⟩, hh.obj' hp _ _ ⟨List.nodup_nil, [], upd_same, rfl⟩, w⟩
theorem se_dget1 (G : Gd T cf k N sc X) {co ce : CE} {o e : Expr} {apos cpos : Pos} (ho : PE X o (tE X.K cf co)) (he : PE X e (tE X.K cf ce)) (hst : noStar e = true) (hsup : notSup o = true) (hl : (apos.endLine == cpos.line) = true) :
    PE X (.Call (.Attribute o "get" apos) [e] [] cpos) (tE X.K cf (.dget1 co ce)) := by
  refine PE.imp (pe_dget1 (by have := G.hu; omega) ho he ⟨sup_of hsup "get" X.env _, by rw [star_of hst]; rfl, hl, by rw [star_of hst]; rfl⟩) fun σ H Qv ⟨δ, ι, S, Q, hs, hh, w, q⟩ => ?_
  simp only [evE, W_bind] at w
  refine tE.run hs hh w fun d v ι1 H1 S1 x1 hs1 hh1 r1 w1 => ?_
  split at w1
  · rename_i c
    obtain ⟨a, rfl, hD⟩ := isDt_ok hh1 r1 c
    refine ⟨a, rfl, hD, ?_⟩
    rw [W_bind] at w1
    refine tE.run hs1 hh1 w1 fun y vy ι2 H2 S2 x2 hs2 hh2 r2 w2 => ?_
    rw [W_bind] at w2
    obtain ⟨o, eo, w3⟩ := W_lift' w2
    obtain ⟨a', ov, ea, g, rv⟩ := dGet_ok hh2 (r1.ext x2) r2 eo
    cases ea
    exact ⟨ov, g, q _ _ (Lf.up (x1.trans x2) (Lf.of hh2 rv w3))⟩
  · exact w1.elim
theorem dGet_there {ι : List Addr} {H : Hp} {S : R.St} {x y u : D} {vx vy : V} (hh : RH X.K ι H S) (rx : RV X.K ι H x vx) (ry : RV X.K ι H y vy) (h : dGet S x y = some (some u)) : ∃ a v, vx = .ref a ∧ DGet H a vy (some v) ∧ RV X.K ι H u v := by
  unfold dGet at h
  cases x with
  | ref l =>
    obtain ⟨p, h1, rfl⟩ := rx
    dsimp only at h
    cases e : S.get l with
    | none => rw [e] at h; cases h
    | some ob =>
      rw [e] at h
      obtain ⟨b, h2, h3⟩ := hh.obj _ _ e
      rw [h1] at h2; cases h2
      cases ob with
      | dtp kvs =>
        obtain ⟨_, ws, ha, rk⟩ := h3
        dsimp only at h
        cases ek : keyOf y with
        | none => rw [ek] at h; cases h
        | some k =>
          rw [ek] at h
          have h : valP kvs k = some u := Option.some.inj h
          obtain ⟨b, rfl, hb⟩ := key_ok ry ek
          rcases rk.val k with ⟨e1, e2⟩ | ⟨d, v, e1, e2, rv⟩
          · rw [h] at e1; cases e1
          · rw [h] at e1; cases e1
            exact ⟨p, v, rfl, by rw [← e2]; exact DGet.t ha hb, rv⟩
      | _ => cases h
  | _ => cases h
/-- d[k], there -/
theorem se_dix (G : Gd T cf k N sc X) {ca cb : CE} {a b : Expr} (ha : PE X a (tE X.K cf ca)) (hb : PE X b (tE X.K cf cb)) (hs : NoSl b) : PE X (.Subscript a b pos) (tE X.K cf (.dix ca cb)) := by
  refine PE.imp (pe_dget (by have := G.hu; omega) ha hb hs) fun σ H Qv ⟨δ, ι, S, Q, hs, hh, w, q⟩ => ?_
  simp only [evE, W_bind] at w
  refine tE.run hs hh w fun d v ι1 H1 S1 x1 hs1 hh1 r1 w1 => tE.run hs1 hh1 w1 fun y vy ι2 H2 S2 x2 hs2 hh2 r2 w2 => ?_
  obtain ⟨u, eu, w3⟩ := W_lift' w2
  cases eo : dGet S2 d y with
  | none => rw [eo] at eu; cases eu
  | some o =>
    rw [eo] at eu
    have eo2 : o = some u := eu
    subst eo2
    obtain ⟨a', v', rfl, g, rv⟩ := dGet_there hh2 (r1.ext x2) r2 eo
    exact ⟨a', v', rfl, g, q _ _ (Lf.up (x1.trans x2) (Lf.of hh2 rv w3))⟩
/-- dict(d) -/
theorem se_dcopy {ca : CE} {a : Expr} (hg : Gl X "dict" ∧ X.mg "dict" = none) (ha : PE X a (tE X.K cf ca)) (hst : noStar a = true) : PE X (.Call (.Name "dict" p) [a] [] pos) (tE X.K cf (.dcopy ca)) := by
  refine PE.imp (pe_callTy copy_T hg.1 hg.2 bb_dict (one_arg ha hst) (by decide) (by decide) (star_of hst [] X.env)) fun σ H Qv ⟨δ, ι, S, Q, hs, hh, w, q⟩ => ?_
  simp only [evE, W_bind] at w
  refine tE.run hs hh w fun d v ι1 H1 S1 x1 hs1 hh1 r1 w1 => ?_
  cases ed : dKvs S1 d with
  | none => rw [ed] at w1; exact w1.elim
  | some kvs =>
    rw [ed] at w1
    dsimp only at w1
    split at w1
    · rename_i hk
      obtain ⟨l, rfl, g1⟩ := dKvs_inv ed
      obtain ⟨a', i1, rfl⟩ := r1
      obtain ⟨a2, j1, nd, ws, ha2, rk⟩ := hh1.obj l _ g1
      rw [i1] at j1; cases j1
      refine ⟨a', ws, rfl, ha2, ?_, fun pn hp => ?_⟩
      · have e1 : (ws.map fun p => (tupleKind (mixKind X.prog X.w)).hash p.1) = kvs.map fun kv => hashP kv.1 := by
          have e2 : (ws.map fun p => (tupleKind (mixKind X.prog X.w)).hash p.1) = (ws.map (·.1)).map (tupleKind (mixKind X.prog X.w)).hash := by rw [List.map_map]; rfl
          rw [e2, rk.keys, List.map_map]
          refine List.map_congr_left fun kv _ => ?_
          show reduceHash (Builtin.Tuple.tupleHashOf ((kI kv.1).map (mixKind X.prog X.w).hash)) = hashP kv.1
          unfold kI hashP
          rw [List.map_map]
          rfl
        rw [e1]
        simpa [hashOk] using hk
      · have x2 : Ext ι1 H1 (ι1 ++ [pn]) (upd H1 pn (.dT ws)) := Ext.obj hh1 hp _
        exact q _ _ ⟨.ref S1.len, ι1 ++ [pn], S1.push (.dtp kvs), x1.trans x2, ⟨pn, hh1.last pn, rfl⟩, hh1.obj' hp _ _ ⟨nd, ws, upd_same, rk.up x2.pre x2.kp⟩, w1⟩
    · exact w1.elim
/-- d.pop(k) -/
theorem se_dpop (G : Gd T cf k N sc X) {co ce : CE} {o e : Expr} {apos cpos : Pos} (ho : PE X o (tE X.K cf co)) (he : PE X e (tE X.K cf ce)) (hst : noStar e = true) (hsup : notSup o = true) (hl : (apos.endLine == cpos.line) = true) :
    PE X (.Call (.Attribute o "pop" apos) [e] [] cpos) (tE X.K cf (.dpop co ce)) := by
  refine PE.imp (pe_dpopT (by have := G.hu; omega) ho he ⟨sup_of hsup "pop" X.env _, by rw [star_of hst]; rfl, hl, by rw [star_of hst]; rfl⟩) fun σ H Qv ⟨δ, ι, S, Q, hs, hh, w, q⟩ => ?_
  simp only [evE, W_bind] at w
  refine tE.run hs hh w fun d v ι1 H1 S1 x1 hs1 hh1 r1 w1 => ?_
  split at w1
  · rename_i c
    obtain ⟨a, rfl, hD⟩ := isDt_ok hh1 r1 c
    refine ⟨a, rfl, hD, ?_⟩
    rw [W_bind] at w1
    refine tE.run hs1 hh1 w1 fun y vy ι2 H2 S2 x2 hs2 hh2 r2 w2 => ?_
    rw [W_bind] at w2
    obtain ⟨r, er, w3⟩ := W_lift' w2
    unfold dDel at er
    cases d with
    | ref i =>
      obtain ⟨p, h1, ep⟩ := r1.ext x2
      cases ep
      dsimp only at er
      cases e : S2.get i with
      | none => rw [e] at er; cases er
      | some ob =>
        rw [e] at er
        obtain ⟨b, h2, h3⟩ := hh2.obj _ _ e
        rw [h1] at h2; cases h2
        cases ob with
        | dtp kvs =>
          obtain ⟨nd, ws, ha, rk⟩ := h3
          dsimp only at er
          cases ek : keyOf y with
          | none => rw [ek] at er; cases er
          | some kk =>
            rw [ek] at er
            dsimp only [Option.bind_some] at er
            cases ev : valP kvs kk with
            | none => rw [ev] at er; cases er
            | some u =>
              rw [ev] at er
              dsimp only [Option.bind_some] at er
              cases es : S2.put i (.dtp (dropP kvs kk)) with
              | none => rw [es] at er; cases er
              | some S3 =>
                rw [es] at er
                cases er
                obtain ⟨b, rfl, hb⟩ := key_ok r2 ek
                rcases rk.val kk with ⟨e1, e2⟩ | ⟨d', v', e1, e2, rv⟩
                · rw [ev] at e1; cases e1
                · rw [ev] at e1; cases e1
                  have xw := Ext.wr hh2 e h1 (.dT (dropK ws (kI kk)))
                  refine ⟨ws, kI kk, b, v', ha, rfl, hb, e2, q _ _ ⟨u, ι2, S3, (x1.trans x2).trans xw, rv.ext xw, hh2.wr e h1 es ⟨?_, _, upd_same, (rk.drop kk).up xw.pre xw.kp⟩, w3⟩⟩
                  exact nd.sublist ((List.filter_sublist).map _)
        | _ => cases er
    | _ => cases er
  · exact w1.elim
end
end R

end
section
set_option maxHeartbeats 4000000
namespace R
open PySem PySem.Spec PyProof.Rows L2
variable [Mks]
/-! ### set(t) of a tuple of ints -/
section
variable {prog : Program} {w : World} {A : Around} {E : Value → Shared → Prop} {s : Shared}
end
section
variable {T : Tab} {cf : CF} {k : Nat} {N : List Str} {sc : Scope} {X : Cx} {pos p p2 pos' : Pos}
end
end R

end
section
/-! The interpreter is sound: loops, comprehensions. -/
namespace R
open PySem PySem.Spec PyProof.Rows L2
variable [Mks]
/-- a later state: what is locked is as it was -/
structure Ltr (K : PySem.W.Frag) (ι : List Addr) (H : Hp) (S : R.St) (lks : List Nat) (ι2 : List Addr) (H2 : Hp) (S2 : R.St) : Prop where
  ext : Ext ι H ι2 H2
  rh : RH K ι2 H2 S2
  lck : ∀ l ∈ lks, S2.get l = S.get l
/-- the iterator yields ds -/
structure Wk (K : PySem.W.Frag) (J : It) (ds : List D) (lks : List Nat) (ι : List Addr) (H : Hp) (S : R.St) : Prop where
  go : ∀ (i : Nat) (ι2 : List Addr) (H2 : Hp) (S2 : R.St), Ltr K ι H S lks ι2 H2 S2 → i < ds.length → J.go i H2
  yld : ∀ (i : Nat) (ι2 : List Addr) (H2 : Hp) (S2 : R.St) (x : V) (H' : Hp), Ltr K ι H S lks ι2 H2 S2 → i < ds.length → J.yld i H2 x H' → Ext ι2 H2 ι2 H' ∧ RH K ι2 H' S2 ∧ ∃ d, ds[i]? = some d ∧ RV K ι2 H' d x
  stop : ∀ (i : Nat) (ι2 : List Addr) (H2 : Hp) (S2 : R.St), Ltr K ι H S lks ι2 H2 S2 → ds.length ≤ i → J.stop i H2
  lks : ∀ l ∈ lks, l < S.len
def LfI (K : PySem.W.Frag) (ι : List Addr) (H : Hp) (Q : List D × List Nat → R.St → Prop) (J : It) (H' : Hp) : Prop := ∃ ds lks ι' S', Ext ι H ι' H' ∧ RH K ι' H' S' ∧ Q (ds, lks) S' ∧ Wk K J ds lks ι' H' S'
def tI (K : PySem.W.Frag) (cf : CF) (cl : CL) : TI := fun σ H R => ∃ δ ι S Q, RS K ι H δ σ ∧ RH K ι H S ∧ W (evL cf cl δ S) Q ∧ ∀ J H', LfI K ι H Q J H' → R J H'
theorem PI.imp {X : Cx} {tg e : Expr} {t t' : TI} (h : PI X tg e t) (i : ∀ σ H Q, t' σ H Q → t σ H Q) : PI X tg e t' := fun pins s σ H Q I q => h pins s σ H Q I (i σ H Q q)
def iSeq (K : PySem.W.Frag) (tl : TE) : TI := fun σ H R => tl σ H fun x H1 => ∃ a, x = .ref a ∧ (((∃ xs, SqL K H1 a xs) ∧ R (Itl K a) H1) ∨ ((∃ xs, SqT K H1 a xs) ∧ R (Itt K a) H1))
section
variable {T : Tab} {cf : CF} {k : Nat} {N : List Str} {sc : Scope} {X : Cx} {pos p : Pos} {tg : Expr}
theorem pi_seq {l : Expr} {tl : TE} (hl : PE X l tl) : PI X tg l (iSeq X.K tl) := by
  intro pins s σ H R I h
  refine thn (hl pins s σ H _ I h) fun v s1 ⟨x, H1, I1, r1, q1⟩ => ?_
  obtain ⟨a, rfl, q1⟩ := q1
  cases r1
  rcases q1 with ⟨⟨xs, hq⟩, q⟩ | ⟨⟨xs, hq⟩, q⟩
  · obtain ⟨its, rv, pl, hz⟩ := I1.list hq
    refine wpAny_pyIter_list pl.isList ?_
    refine ⟨s1.heap.objs.size, [s1.heap.objs.size], _, _, H1, rfl, I1.kept (t' := s1.toks) fun b o e => Heap.get?_push_of_some _ e, turn_list a _, ⟨_, Heap.get?_push_size _ rfl, rfl, rfl⟩, fun b hb => ?_, q⟩
    have e : b = s1.heap.objs.size := by simpa using hb
    subst e
    exact I1.fpOk (Nat.le_refl _) (I1.hok.fresh (Nat.le_refl _))
  · obtain ⟨its, rv, pl, hz⟩ := I1.tuple hq
    refine wpAny_pyIter_tuple (show s1.heap.IsTuple a its.toArray from pl) ?_
    refine ⟨s1.heap.objs.size, [s1.heap.objs.size], _, _, H1, rfl, I1.kept (t' := s1.toks) fun b o e => Heap.get?_push_of_some _ e, turn_tuple a _, ⟨_, Heap.get?_push_size _ rfl, rfl, rfl⟩, fun b hb => ?_, q⟩
    have e : b = s1.heap.objs.size := by simpa using hb
    subst e
    exact I1.fpOk (Nat.le_refl _) (I1.hok.fresh (Nat.le_refl _))
theorem wk_list {K : PySem.W.Frag} {ι : List Addr} {H : Hp} {S : R.St} {a : Addr} {ds : List D} {lks : List Nat} (hl : ∀ l ∈ lks, l < S.len)
    (h : ∀ ι2 H2 S2, Ltr K ι H S lks ι2 H2 S2 → ∃ xs, SqL K H2 a xs ∧ RVs K ι2 H2 ds xs ∧ ∀ ys, SqL K H2 a ys → True) : Wk K (Itl K a) ds lks ι H S where
  go := fun i ι2 H2 S2 lt hi => by
    obtain ⟨xs, hq, rr, _⟩ := h ι2 H2 S2 lt
    exact ⟨xs, xs[i]'(by rw [rr.length]; exact hi), hq, List.getElem?_eq_getElem _⟩
  yld := fun i ι2 H2 S2 x H' lt hi y => by
    obtain ⟨xs, hq, rr, _⟩ := h ι2 H2 S2 lt
    obtain ⟨rfl, y⟩ := y
    obtain ⟨d, e, r⟩ := rr.get' (y xs hq)
    exact ⟨Ext.refl _ _, lt.rh, d, e, r⟩
  stop := fun i ι2 H2 S2 lt hi => by
    obtain ⟨xs, hq, rr, _⟩ := h ι2 H2 S2 lt
    exact ⟨xs, hq, by rw [rr.length]; exact hi⟩
  lks := hl
theorem wk_tup {K : PySem.W.Frag} {ι : List Addr} {H : Hp} {S : R.St} {a : Addr} {ds : List D} {lks : List Nat} {xs : List V} (hl : ∀ l ∈ lks, l < S.len) (e : H a = some (.tup xs)) (rr : RVs K ι H ds xs) : Wk K (Itt K a) ds lks ι H S where
  go := fun i ι2 H2 S2 lt hi => ⟨xs, xs[i]'(by rw [rr.length]; exact hi), SqT.of (lt.ext.kp.tups _ _ e), List.getElem?_eq_getElem _⟩
  yld := fun i ι2 H2 S2 x H' lt hi y => by
    obtain ⟨rfl, y⟩ := y
    obtain ⟨d, e, r⟩ := (rr.ext lt.ext).get' (y xs (SqT.of (lt.ext.kp.tups _ _ e)))
    exact ⟨Ext.refl _ _, lt.rh, d, e, r⟩
  stop := fun i ι2 H2 S2 lt hi => ⟨xs, SqT.of (lt.ext.kp.tups _ _ e), by rw [rr.length]; exact hi⟩
  lks := hl
/-- a list or tuple that has come is walked -/
theorem si_seq {cl : CL} {e : Expr} (he : PE X e (tL X.K cf cl)) (hlk : ∀ {δ : Ev} {S : R.St} {Q : List D × List Nat → R.St → Prop}, W (evL cf cl δ S) Q → W (evL cf cl δ S) fun r S' => (∀ l ∈ r.2, l < S'.len) ∧ Q r S') : PI X tg e (tI X.K cf cl) := by
  refine PI.imp (pi_seq he) fun σ H R ⟨δ, ι, S, Q, hs, hh, w, q⟩ => ?_
  refine tL.run hs hh (hlk w) fun ds lks v ι1 H1 S1 x1 hs1 hh1 sq w1 => ?_
  obtain ⟨hl, w1⟩ := w1
  obtain ⟨a, xs, rfl, rr, kd⟩ := sq
  refine ⟨a, rfl, ?_⟩
  cases kd with
  | tmp h e => exact .inl ⟨⟨xs, SqL.of e⟩, q _ _ ⟨ds, lks, ι1, S1, x1, hh1, w1, wk_list hl fun ι2 H2 S2 lt => ⟨xs, SqL.of (lt.ext.keep h e (by simp)), rr.ext lt.ext, fun _ _ => trivial⟩⟩⟩
  | fix e => exact .inl ⟨⟨xs, e.sq⟩, q _ _ ⟨ds, lks, ι1, S1, x1, hh1, w1, wk_list hl fun ι2 H2 S2 lt => ⟨xs, (e.kp lt.ext.kp).sq, rr.ext lt.ext, fun _ _ => trivial⟩⟩⟩
  | tup e => exact .inr ⟨⟨xs, SqT.of e⟩, q _ _ ⟨ds, lks, ι1, S1, x1, hh1, w1, wk_tup hl e rr⟩⟩
  | own l hm hi hg e =>
    refine .inl ⟨⟨xs, SqL.of e⟩, q _ _ ⟨ds, lks, ι1, S1, x1, hh1, w1, wk_list hl fun ι2 H2 S2 lt => ?_⟩⟩
    obtain ⟨b, h2, zs, hz, rz⟩ := lt.rh.obj l (.lst ds) ((lt.lck l hm).trans hg)
    rw [pre_get lt.ext.pre hi] at h2; cases h2
    exact ⟨zs, SqL.of hz, rz, fun _ _ => trivial⟩
theorem lk_val {ce : CE} {δ : Ev} {S : R.St} {Q : List D × List Nat → R.St → Prop} (h : W (evL cf (.val ce) δ S) Q) : W (evL cf (.val ce) δ S) fun r S' => (∀ l ∈ r.2, l < S'.len) ∧ Q r S' := by
  simp only [evL, W_bind] at h ⊢
  refine h.mono fun x S1 h1 => ?_
  obtain ⟨ds, e, h2⟩ := W_lift' h1
  rw [e]
  refine ⟨fun l hl => ?_, h2⟩
  cases x with
  | ref l' =>
    simp [lkOf] at hl
    subst hl
    simp only [seqOf] at e
    split at e
    · rename_i e2; exact get_lt e2
    · cases e
  | _ => simp [lkOf] at hl
theorem lk_comp {n : Nat} {js g : List Nat} {it : CL} {c e : CE} {δ : Ev} {S : R.St} {Q : List D × List Nat → R.St → Prop} (h : W (evL cf (.comp n js g it c e) δ S) Q) : W (evL cf (.comp n js g it c e) δ S) fun r S' => (∀ l ∈ r.2, l < S'.len) ∧ Q r S' := by
  simp only [evL, W_bind] at h ⊢
  refine h.mono fun ds S1 h1 => h1.mono fun r S2 h2 => ?_
  split at h2
  · rename_i c; rw [if_pos c]; exact ⟨fun l hl => by simp at hl, h2⟩
  · exact h2.elim
theorem wk_range {K : PySem.W.Frag} {ι : List Addr} {H : Hp} {S : R.St} (lo : Int) (n : Nat) : Wk K (Itr lo n) ((List.range n).map fun (j : Nat) => D.int (lo + j)) [] ι H S where
  go := fun i ι2 H2 S2 lt hi => by show i < n; simpa using hi
  yld := fun i ι2 H2 S2 x H' lt hi y => by
    obtain ⟨rfl, rfl⟩ := y
    have hi : i < n := by simpa using hi
    exact ⟨Ext.refl _ _, lt.rh, .int (lo + i), by simp [hi], rfl⟩
  stop := fun i ι2 H2 S2 lt hi => by show n ≤ i; simpa using hi
  lks := fun l hl => by simp at hl
theorem si_rng1 {ca : CE} {a : Expr} (hg : Gl X "range" ∧ X.mg "range" = none) (ha : PE X a (tE X.K cf ca)) (hst : noStar a = true) : PI X tg (.Call (.Name "range" p) [a] [] pos) (tI X.K cf (.rng1 ca)) := by
  refine PI.imp (pi_range1 hg.1 hg.2 (one_arg ha hst) (star_of hst [] X.env)) fun σ H R ⟨δ, ι, S, Q, hs, hh, w, q⟩ => ?_
  simp only [evL, W_bind] at w
  refine tE.run hs hh w fun d v ι1 H1 S1 x1 hs1 hh1 r1 w1 => ?_
  cases d with
  | int j =>
    obtain rfl : v = .int j := r1
    dsimp only at w1
    split at w1
    · rename_i c
      have e : ((List.range j.toNat).map fun (k : Nat) => D.int k) = (List.range j.toNat).map fun (k : Nat) => D.int (0 + k) := by simp
      rw [e] at w1
      exact ⟨j, rfl, c.1, c.2, q _ _ ⟨_, [], ι1, S1, x1, hh1, w1, wk_range 0 j.toNat⟩⟩
    · exact w1.elim
  | _ => exact w1.elim
/-! ### two lists side by side -/
/-! ### targets -/
def tG (K : PySem.W.Frag) (is : List Nat) : TG := fun v σ H Qv => ∃ δ ι d δ', RS K ι H δ σ ∧ RV K ι H d v ∧ asgG is d δ = some δ' ∧ ∀ σ', RS K ι H δ' σ' → Qv σ' H
def tGs (K : PySem.W.Frag) (is : List Nat) : TGs := fun vs σ H Qv => ∃ δ ι ds, RS K ι H δ σ ∧ RVs K ι H ds vs ∧ ds.length = is.length ∧ ∀ σ', RS K ι H (asgAll is ds δ) σ' → Qv σ' H
theorem PG.imp {t t' : TG} (h : PG X tg t) (i : ∀ v σ H Q, t' v σ H Q → t v σ H Q) : PG X tg t' := fun pins s σ H v u Q I r q => h pins s σ H v u Q I r (i v σ H Q q)
theorem PGs.imp {es : List Expr} {t t' : TGs} (h : PGs X es t) (i : ∀ v σ H Q, t' v σ H Q → t v σ H Q) : PGs X es t' := fun pins s σ H v u Q I r q => h pins s σ H v u Q I r (i v σ H Q q)
theorem sg_name (G : Gd T cf k N sc X) {i : Nat} {x : Str} (hi : N[i]? = some x) (hl : isLoc sc x = true) : PG X (.Name x pos) (tG X.K [i]) := by
  refine PG.imp (pg_name (i := i) (by rw [G.nm]; exact G.nd) (by rw [G.nm]; exact hi) (G.lc hl).1 (G.lc hl).2) fun v σ H Qv ⟨δ, ι, d, δ', hs, r, e, q⟩ => ?_
  simp only [asgG] at e
  cases e
  exact q _ (hs.set r i)
/-- names of a tuple -/
def namesB (sc : Scope) (N : List Str) : List Nat → List Expr → Bool
  | [], [] => true
  | i :: is, .Name x _ :: es => (N[i]? == some x) && isLoc sc x && namesB sc N is es
  | _, _ => false
theorem sgs_names (G : Gd T cf k N sc X) : ∀ {is : List Nat} {es : List Expr}, namesB sc N is es = true → PGs X es (tGs X.K is) ∧ (assignEach es X.env).length = is.length ∧ (assignEach es X.env).findIdx? (·.1) = none
  | [], [], _ => ⟨PGs.imp pgs_nil fun v σ H Qv ⟨δ, ι, ds, hs, r, hl, q⟩ => by
      have : ds = [] := by simpa using hl
      subst this
      exact ⟨r, q σ (by simpa [asgAll] using hs)⟩, rfl, rfl⟩
  | [], _ :: _, h => by simp [namesB] at h
  | _ :: _, [], h => by simp [namesB] at h
  | i :: is, e :: es, h => by
    cases e with
    | Name x pos =>
      simp only [namesB, Bool.and_eq_true, beq_iff_eq] at h
      obtain ⟨h1, h2, h3⟩ := sgs_names G (is := is) (es := es) h.2
      refine ⟨PGs.imp (pgs_cons (pg_name (i := i) (by rw [G.nm]; exact G.nd) (by rw [G.nm]; exact h.1.1) (G.lc h.1.2).1 (G.lc h.1.2).2) h1) fun v σ H Qv ⟨δ, ι, ds, hs, r, hl, q⟩ => ?_, ?_, ?_⟩
      · cases ds with
        | nil => simp at hl
        | cons d ds =>
          obtain ⟨v1, vr, rfl, r1, r2⟩ := r
          refine ⟨v1, vr, rfl, ?_⟩
          exact ⟨δ.set i (some d), ι, ds, hs.set r1 i, r2, by simpa using hl, fun σ' hs' => q σ' (by simpa [asgAll] using hs')⟩
      · show ((false, _) :: assignEach es X.env).length = _
        simp [h2]
      · show ((false, _) :: assignEach es X.env).findIdx? _ = _
        simp [List.findIdx?_cons, h3]
    | _ => simp [namesB] at h
theorem asgG_tup {is : List Nat} {d : D} {δ δ' : Ev} (h2 : 2 ≤ is.length) (e : asgG is d δ = some δ') : ∃ ds, d = .tup ds ∧ ds.length = is.length ∧ δ' = asgAll is ds δ := by
  match is, h2 with
  | a :: b :: t, _ =>
    cases d with
    | tup ds =>
      simp only [asgG] at e
      split at e
      · rename_i c; cases e; exact ⟨ds, rfl, c, rfl⟩
      · cases e
    | _ => cases e
theorem sg_tup (G : Gd T cf k N sc X) {is : List Nat} {es : List Expr} {j : Nat} (h : namesB sc N is es = true) (h2 : 2 ≤ is.length) : PG X (.Tuple es j pos) (tG X.K is) := by
  obtain ⟨h1, hn, hst⟩ := sgs_names G h
  refine PG.imp (pg_tup G.calm h1 hn hst) fun v σ H Qv ⟨δ, ι, d, δ', hs, r, e, q⟩ => ?_
  obtain ⟨ds, rfl, c, rfl⟩ := asgG_tup h2 e
  obtain ⟨a, xs, rfl, ha, rr⟩ := r
  exact ⟨a, xs, rfl, SqT.of ha, by rw [rr.length]; exact c, δ, ι, ds, hs, rr, c, q⟩
/-! ### a list of nobody's grows -/
theorem Ext.tmp {ι ι' : List Addr} {H H' : Hp} {p : Addr} {vs us : List V} (x : Ext ι H ι' H') (hn : H p = none) (e : H' p = some (.lst vs)) : Ext ι H ι' (upd H' p (.lst us)) := by
  refine ⟨x.pre, x.kp.trans (.same (Tups.upd_lst e) (fun b o u h => ?_) fun b ps h => ?_), fun b o hb eb => ?_⟩
  · rw [upd_ne]; exact h
    rintro rfl
    rw [e] at h; cases h
  · rw [upd_ne]; exact h
    rintro rfl
    rw [e] at h; cases h
  · obtain ⟨h1, h2⟩ := x.rest b o hb eb
    refine ⟨?_, h2⟩
    rw [upd_ne]; exact h1
    rintro rfl
    rw [hn] at eb; cases eb
theorem Kp.tmp {H : Hp} {p : Addr} {vs us : List V} (e : H p = some (.lst vs)) : Kp H (upd H p (.lst us)) := .same (Tups.upd_lst e) (fun b o u h => by
    rw [upd_ne]; exact h
    rintro rfl
    rw [e] at h; cases h) fun b ps h => by
    rw [upd_ne]; exact h
    rintro rfl
    rw [e] at h; cases h
theorem RH.tmp {K : PySem.W.Frag} {ι : List Addr} {H : Hp} {S : R.St} {p : Addr} {vs us : List V} (hh : RH K ι H S) (hp : p ∉ ι) (e : H p = some (.lst vs)) : RH K ι (upd H p (.lst us)) S :=
  ⟨hh.len, hh.nd, fun l o q => by
    obtain ⟨a, h1, h2, hm⟩ := hh.mem q
    exact ⟨a, h1, h2.up (List.prefix_refl _) (Kp.tmp e) (upd_ne fun z => hp (z ▸ hm))⟩, (Kp.tmp e).tab hh.tab⟩
theorem RS.up {K : PySem.W.Frag} {ι ι' : List Addr} {H H' : Hp} {δ : Ev} {σ : L2.St} (h : RS K ι H δ σ) (hp : ι <+: ι') (hk : Kp H H') : RS K ι' H' δ σ :=
  ⟨h.1, fun i d e => let ⟨v, e1, r⟩ := h.2 i d e; ⟨v, e1, r.up hp hk⟩⟩
theorem RH.lk {K : PySem.W.Frag} {ι : List Addr} {H : Hp} {S : R.St} (hh : RH K ι H S) (ks : List Nat) : RH K ι H { S with lk := ks } := ⟨hh.len, hh.nd, fun l o e => hh.obj l o e, hh.tab⟩
theorem RS.csl {K : PySem.W.Frag} {ι : List Addr} {H : Hp} {δ : Ev} {σ : L2.St} (h : RS K ι H δ σ) (nt : Nat) (js : List Nat) : RS K ι H (R.csl nt js δ) (L2.csl nt js σ) := by
  refine ⟨by simp [R.csl, L2.csl], fun i d e => ?_⟩
  unfold R.csl at e
  unfold L2.csl
  by_cases hi : i < nt
  · rw [List.getElem?_append_left (by simpa using hi), List.getElem?_replicate] at e
    rw [if_pos hi] at e
    cases e
  · rw [List.getElem?_append_right (by simpa using hi)] at e ⊢
    simp only [List.length_replicate, List.getElem?_map] at e ⊢
    cases ej : js[i - nt]? with
    | none => rw [ej] at e; cases e
    | some j =>
      rw [ej] at e
      simp only [Option.map_some, Option.some.injEq] at e ⊢
      have e2 : δ[j]? = some (some d) := by
        cases z : δ[j]? with
        | none => rw [z] at e; cases e
        | some o => rw [z] at e; simp at e; rw [e]
      obtain ⟨v, ev, r⟩ := h.2 j d e2
      exact ⟨v, by rw [ev]; rfl, r⟩
theorem drop_cons {α : Type} {xs : List α} {i : Nat} {x : α} (h : xs[i]? = some x) : xs.drop i = x :: xs.drop (i + 1) := by
  obtain ⟨h1, h2⟩ := List.getElem?_eq_some_iff.mp h
  rw [List.drop_eq_getElem_cons h1, h2]
/-- behind i turns of a comprehension -/
def CInv (K : PySem.W.Frag) (cf : CF) (g : List Nat) (c e : CE) (Q : List D × List Nat → R.St → Prop) (ds : List D) (lks : List Nat) (ι1 : List Addr) (H1 : Hp) (S1 : R.St) (p : Addr) (i : Nat) (σ' : L2.St) (H' : Hp) : Prop :=
  i ≤ ds.length ∧ ∃ δ' ι' S' acc vs, RS K ι' H' δ' σ' ∧ Ltr K ι1 H1 S1 lks ι' H' S' ∧ S'.lk = lks ++ S1.lk ∧ S1.len ≤ S'.len ∧ p ∉ ι' ∧ H' p = some (.lst vs) ∧ RVs K ι' H' acc vs ∧
    W (turnsC g (evT cf c) (evE cf e) (ds.drop i) δ' S') fun rest S2 => (acc ++ rest).length ≤ 16777216 ∧ Q (acc ++ rest, []) { S2 with lk := S1.lk }
theorem comp_imp {nt : Nat} {js is : List Nat} {it : CL} {c e : CE} {σ : L2.St} {H : Hp} {Qv : VK} (hcf : CFok cf) (h : tLt X.K cf (.comp nt js is it c e) σ H Qv) : tComp nt js (tI X.K cf it) (tG X.K is) (tT X.K cf c) (tE X.K cf e) σ H Qv := by
  obtain ⟨δ, ι, S, Q, hs, hh, w, q⟩ := h
  simp only [evL, W_bind] at w
  refine ⟨δ, ι, S, _, hs, hh, w, fun J H1 ⟨ds, lks, ι1, S1, x1, hh1, w1, wk⟩ => ?_⟩
  dsimp only at w1
  unfold locked at w1
  rw [W_bind] at w1
  intro p hp
  have hpi := hh1.fresh hp
  refine ⟨fun i m σ' H' => m = ds.length - i ∧ CInv X.K cf is c e Q ds lks ι1 H1 S1 p i σ' H', ⟨_, rfl, Nat.zero_le _, R.csl nt js δ, ι1, { S1 with lk := lks ++ S1.lk }, [], [], ((hs.ext x1).csl _ _).up (List.prefix_refl _) (Kp.new hp _), ⟨Ext.new hp _, (hh1.lk _).new hp _, fun l _ => rfl⟩, rfl, Nat.le_refl _, hpi, upd_same, rfl, ?_⟩, ?_⟩
  · refine w1.mono fun rest S2 w2 => ?_
    simp only [W_ok] at w2
    split at w2
    · rename_i c; exact ⟨by simpa using c, by simpa using w2⟩
    · exact w2.elim
  rintro i m σ' H' ⟨rfl, hle, δ', ι', S', acc, vs, hs', lt, hlk, hln, hpn, hpv, ra, wt⟩
  rcases Nat.lt_or_eq_of_le hle with hlt | rfl
  · refine .inr ⟨wk.go i ι' H' S' lt hlt, CInv X.K cf is c e Q ds lks ι1 H1 S1 p (i + 1), fun σ2 H2 h => ⟨_, by omega, rfl, h⟩, fun x H2 hy => ?_⟩
    obtain ⟨x2, hh2, d, hd, rd⟩ := wk.yld i ι' H' S' x H2 lt hlt hy
    have hs2 := hs'.ext x2
    have hp2 := x2.keep hpn hpv (by simp)
    rw [drop_cons hd] at wt
    simp only [turnsC] at wt
    cases ea : asgG is d δ' with
    | none => rw [ea] at wt; exact wt.elim
    | some δ2 =>
      rw [ea] at wt
      dsimp only at wt
      rw [W_bind] at wt
      refine ⟨δ', ι', d, δ2, hs2, rd, ea, fun σ2 hs3 => ?_⟩
      refine tT.run hs3 hh2 (evT_F hcf c δ2 S' _ wt) fun b ι3 H3 S3 x3 hs4 hh3 w3 => ?_
      obtain ⟨w3, f3⟩ := w3
      have hp3 := x3.keep hpn hp2 (by simp)
      have hpn3 := (x3.rest p _ hpn hp2).2
      have keep : ∀ {S4 : R.St}, Frm S' S4 → S4.lk = lks ++ S1.lk ∧ S1.len ≤ S4.len ∧ ∀ l ∈ lks, S4.get l = S1.get l := fun f => ⟨f.lk.trans hlk, Nat.le_trans hln f.lens, fun l hl =>
        (f.same l (by rw [hlk]; exact List.mem_append_left _ hl) (Nat.lt_of_lt_of_le (wk.lks l hl) hln)).trans (lt.lck l hl)⟩
      cases b with
      | false =>
        simp only [Bool.false_eq_true, if_false] at w3 ⊢
        obtain ⟨k1, k2, k3⟩ := keep f3
        exact ⟨hlt, δ2, ι3, S3, acc, vs, hs4, ⟨(lt.ext.trans x2).trans x3, hh3, k3⟩, k1, k2, hpn3, hp3, (ra.ext x2).ext x3, w3⟩
      | true =>
        simp only [if_true] at w3 ⊢
        rw [W_bind] at w3
        refine tE.run hs4 hh3 (evE_F hcf e δ2 S3 _ w3) fun z v ι4 H4 S4 x4 hs5 hh4 rz w4 => ?_
        obtain ⟨w4, f4⟩ := w4
        obtain ⟨k1, k2, k3⟩ := keep (f3.trans f4)
        have hp4 := x4.keep hpn3 hp3 (by simp)
        have hpn4 := (x4.rest p _ hpn3 hp3).2
        rw [W_bind] at w4
        have ra4 := ((ra.ext x2).ext x3).ext x4
        have hlen : acc.length < 16777216 := by
          obtain ⟨rest, S5, _, w5⟩ := W_ok' w4
          have := w5.1
          simp at this
          omega
        refine ⟨vs, hp4, by rw [ra4.length, sizeLine_eq]; exact hlen, hlt, δ2, ι4, S4, acc ++ [z], vs ++ [v], hs5.up (List.prefix_refl _) (Kp.tmp hp4), ⟨(((lt.ext.trans x2).trans x3).trans x4).tmp hp hp4, hh4.tmp hpn4 hp4, k3⟩, k1, k2, hpn4, upd_same, ?_, ?_⟩
        · exact (RVs.append (es := [z]) (us := [v]) ra4 ⟨v, [], rfl, rz, rfl⟩).up (List.prefix_refl _) (Kp.tmp hp4)
        · refine w4.mono fun rest S5 w5 => ?_
          simp only [W_ok] at w5
          simpa using w5
  · refine .inl ⟨wk.stop _ ι' H' S' lt (Nat.le_refl _), ?_⟩
    rw [List.drop_length] at wt
    simp only [turnsC, W_ok, List.append_nil] at wt
    exact q _ _ ⟨acc, ι', { S' with lk := S1.lk }, p, vs, x1.trans lt.ext, rfl, ra, hpn, hpv, lt.rh.lk _, back_none hh1 x1 hp, wt.2⟩
end
end R

end
section
/-! The interpreter is sound: statements. -/
namespace R
open PySem PySem.Spec PyProof.Rows L2
variable [Mks]
def LfS (K : PySem.W.Frag) (ι : List Addr) (H : Hp) (Q : Fl → R.St → Prop) (E : Ends) : Prop := ∀ f ι' H' S', Ext ι H ι' H' → RH K ι' H' S' → Q f S' → (match f with
  | .nx δ' => ∀ σ', RS K ι' H' δ' σ' → E.nx σ' H'
  | .rt d => ∀ v, RV K ι' H' d v → E.rt v H')
def tS (K : PySem.W.Frag) (cf : CF) (cs : CS) : TS := fun E σ H => ∃ δ ι S Q, RS K ι H δ σ ∧ RH K ι H S ∧ W (exS cf cs δ S) Q ∧ LfS K ι H Q E
theorem LfS.up {K : PySem.W.Frag} {ι ι1 : List Addr} {H H1 : Hp} {Q : Fl → R.St → Prop} {E : Ends} (h : LfS K ι H Q E) (x : Ext ι H ι1 H1) : LfS K ι1 H1 Q E := fun f ι' H' S' x' hh q => h f ι' H' S' (x.trans x') hh q
theorem PSs.imp {X : Cx} {st : List Stmt} {t t' : TS} (h : PSs X st t) (i : ∀ E σ H, t' E σ H → t E σ H) : PSs X st t' := fun pins s σ H E I q => h pins s σ H E I (i E σ H q)
section
variable {T : Tab} {cf : CF} {k : Nat} {N : List Str} {sc : Scope} {X : Cx} {pos p : Pos} {rest : List Stmt}
theorem ss_nil : PSs X [] (tS X.K cf .nil) := PSs.imp pss_nil fun E σ H ⟨δ, ι, S, Q, hs, hh, w, l⟩ => by
  simp only [exS, W_ok] at w
  exact l _ ι H S (Ext.refl _ _) hh w σ hs
theorem ss_asg (G : Gd T cf k N sc X) {i : Nat} {x : Str} {ce : CE} {e : Expr} {r : CS} (hi : N[i]? = some x) (hl : isLoc sc x = true) (he : PE X e (tE X.K cf ce)) (hc : notComp e = true) (hr : PSs X rest (tS X.K cf r)) :
    PSs X (.Assign [.Name x p] e pos :: rest) (tS X.K cf (.asg i ce r)) := by
  refine PSs.imp (pss_cons (ps_set (i := i) (by rw [G.nm]; exact G.nd) (by rw [G.nm]; exact hi) (G.lc hl).1 he (swap_of hc _ _ _) (G.lc hl).2) hr) fun E σ H ⟨δ, ι, S, Q, hs, hh, w, l⟩ => ?_
  simp only [exS, W_bind] at w
  refine tE.run hs hh w fun d v ι1 H1 S1 x1 hs1 hh1 r1 w1 => ?_
  exact ⟨δ.set i (some d), ι1, S1, Q, hs1.set r1 i, hh1, w1, l.up x1⟩
theorem ss_asgC (G : Gd T cf k N sc X) {i : Nat} {x : Str} {ce : CE} {e : Expr} {r : CS} (hi : N[i]? = some x) (hps : ∃ t, PS X (.Assign [.Name x p] e pos) (tAsg t (gName i)) ∧ ∀ σ H Qv, tE X.K cf ce σ H Qv → t σ H Qv) (hr : PSs X rest (tS X.K cf r)) :
    PSs X (.Assign [.Name x p] e pos :: rest) (tS X.K cf (.asg i ce r)) := by
  obtain ⟨t, hp, ht⟩ := hps
  refine PSs.imp (pss_cons hp hr) fun E σ H ⟨δ, ι, S, Q, hs, hh, w, l⟩ => ?_
  simp only [exS, W_bind] at w
  refine ht _ _ _ (tE.run hs hh w fun d v ι1 H1 S1 x1 hs1 hh1 r1 w1 => ?_)
  exact ⟨δ.set i (some d), ι1, S1, Q, hs1.set r1 i, hh1, w1, l.up x1⟩
theorem ss_expr {ce : CE} {e : Expr} {r : CS} (he : PE X e (tE X.K cf ce)) (hc : notComp e = true) (hr : PSs X rest (tS X.K cf r)) : PSs X (.Expr e pos :: rest) (tS X.K cf (.expr ce r)) := by
  refine PSs.imp (pss_cons (ps_expr he (swap_of hc _ _ _)) hr) fun E σ H ⟨δ, ι, S, Q, hs, hh, w, l⟩ => ?_
  simp only [exS, W_bind] at w
  refine tE.run hs hh w fun d v ι1 H1 S1 x1 hs1 hh1 r1 w1 => ?_
  exact ⟨δ, ι1, S1, Q, hs1, hh1, w1, l.up x1⟩
theorem ss_ret {ce : CE} {e : Expr} {r : CS} (he : PE X e (tE X.K cf ce)) (hr : PSs X rest (tS X.K cf r)) : PSs X (.Return (some e) pos :: rest) (tS X.K cf (.ret ce r)) := by
  refine PSs.imp (pss_cons (ps_ret he) hr) fun E σ H ⟨δ, ι, S, Q, hs, hh, w, l⟩ => ?_
  simp only [exS, W_bind, W_ok] at w
  refine tE.run hs hh w fun d v ι1 H1 S1 x1 hs1 hh1 r1 w1 => ?_
  exact l _ _ _ _ x1 hh1 w1 v r1
theorem ss_if {cc : CE} {c : Expr} {a b : List Stmt} {ca cb r : CS} (hc : PT X c (tT X.K cf cc)) (ha : PSs X a (tS X.K cf ca)) (hb : PSs X b (tS X.K cf cb)) (hr : PSs X rest (tS X.K cf r)) : PSs X (.If c a b pos :: rest) (tS X.K cf (.ifS cc ca cb r)) := by
  refine PSs.imp (pss_cons (ps_if hc ha hb) hr) fun E σ H ⟨δ, ι, S, Q, hs, hh, w, l⟩ => ?_
  simp only [exS, W_bind] at w
  refine tT.run hs hh w fun z ι1 H1 S1 x1 hs1 hh1 w1 => ?_
  have fin : LfS X.K ι1 H1 (fun f S2 => W (match f with | .nx δ' => exS cf r δ' S2 | .rt d => .ok (.rt d) S2) Q) { E with nx := tS X.K cf r E } := by
    intro f ι2 H2 S2 x2 hh2 q
    cases f with
    | nx δ' => exact fun σ' hs' => ⟨δ', ι2, S2, Q, hs', hh2, q, (l.up x1).up x2⟩
    | rt d => exact fun v rv => (l.up x1) _ _ _ _ x2 hh2 q v rv
  cases z with
  | true => exact ⟨δ, ι1, S1, _, hs1, hh1, w1, fin⟩
  | false => exact ⟨δ, ι1, S1, _, hs1, hh1, w1, fin⟩
/-- behind i turns of a loop -/
def FInv (K : PySem.W.Frag) (cf : CF) (g : List Nat) (b : CS) (Qf : Fl → R.St → Prop) (ds : List D) (lks : List Nat) (ι1 : List Addr) (H1 : Hp) (S1 : R.St) (i : Nat) (σ' : L2.St) (H' : Hp) : Prop :=
  i ≤ ds.length ∧ ∃ δ' ι' S', RS K ι' H' δ' σ' ∧ Ltr K ι1 H1 S1 lks ι' H' S' ∧ S'.lk = lks ++ S1.lk ∧ S1.len ≤ S'.len ∧ W (turnsF g (exS cf b) (ds.drop i) δ' S') fun f S2 => Qf f { S2 with lk := S1.lk }
theorem ss_for (G : Gd T cf k N sc X) {is : List Nat} {it : CL} {cb r : CS} {tg iter : Expr} {body : List Stmt} (hi : PI X tg iter (tI X.K cf it)) (hg : PG X tg (tG X.K is)) (hb : PSs X body (tS X.K cf cb)) (hset : notSet iter = true) (hr : PSs X rest (tS X.K cf r)) :
    PSs X (.For tg iter body [] pos :: rest) (tS X.K cf (.forS is it cb r)) := by
  have hp : PassesOwn (model X.prog X.w) X.A X.env X.xe := by rw [G.xe]; exact PassesOwn.never
  refine PSs.imp (pss_cons (ps_for hp G.calm hi hg hb (fold_of hset X.env)) hr) fun E σ H ⟨δ, ι, S, Q, hs, hh, w, l⟩ => ?_
  simp only [exS, W_bind] at w
  refine ⟨δ, ι, S, _, hs, hh, w, fun J H1 ⟨ds, lks, ι1, S1, x1, hh1, w1, wk⟩ => ?_⟩
  dsimp only at w1
  unfold locked at w1
  rw [W_bind] at w1
  simp only [W_ok] at w1
  refine ⟨fun i m σ' H' => m = ds.length - i ∧ FInv X.K cf is cb (fun f S2 => W (match f with | .nx δ' => exS cf r δ' S2 | .rt d => .ok (.rt d) S2) Q) ds lks ι1 H1 S1 i σ' H', ⟨_, rfl, Nat.zero_le _, δ, ι1, { S1 with lk := lks ++ S1.lk }, hs.ext x1, ⟨Ext.refl _ _, hh1.lk _, fun l _ => rfl⟩, rfl, Nat.le_refl _, w1⟩, ?_⟩
  rintro i m σ' H' ⟨rfl, hle, δ', ι', S', hs', lt, hlk, hln, wt⟩
  have l1 := l.up (x1.trans lt.ext)
  rcases Nat.lt_or_eq_of_le hle with hlt | rfl
  · refine .inr ⟨wk.go i ι' H' S' lt hlt, FInv X.K cf is cb _ ds lks ι1 H1 S1 (i + 1), fun σ2 H2 h => ⟨_, by omega, rfl, h⟩, fun x H2 hy => ?_⟩
    obtain ⟨x2, hh2, d, hd, rd⟩ := wk.yld i ι' H' S' x H2 lt hlt hy
    rw [drop_cons hd] at wt
    simp only [turnsF] at wt
    cases ea : asgG is d δ' with
    | none => rw [ea] at wt; exact wt.elim
    | some δ2 =>
      rw [ea] at wt
      dsimp only at wt
      rw [W_bind] at wt
      refine ⟨δ', ι', d, δ2, hs'.ext x2, rd, ea, fun σ2 hs3 => ⟨δ2, ι', S', _, hs3, hh2, exS_F G.tab.frm cb δ2 S' _ wt, ?_⟩⟩
      rintro f ι3 H3 S3 x3 hh3 ⟨w3, f3⟩
      have k1 : S3.lk = lks ++ S1.lk := f3.lk.trans hlk
      have k3 : ∀ l ∈ lks, S3.get l = S1.get l := fun l hl => (f3.same l (by rw [hlk]; exact List.mem_append_left _ hl) (Nat.lt_of_lt_of_le (wk.lks l hl) hln)).trans (lt.lck l hl)
      cases f with
      | nx δ3 => exact fun σ3 hs4 => ⟨hlt, δ3, ι3, S3, hs4, ⟨(lt.ext.trans x2).trans x3, hh3, k3⟩, k1, Nat.le_trans hln f3.lens, w3⟩
      | rt z => exact fun v rv => l1 _ _ _ _ (x2.trans x3) (hh3.lk _) w3 v rv
  · refine .inl ⟨wk.stop _ ι' H' S' lt (Nat.le_refl _), ?_⟩
    rw [List.drop_length] at wt
    simp only [turnsF, W_ok] at wt
    exact ⟨δ', ι', { S' with lk := S1.lk }, Q, hs', lt.rh.lk _, wt, l1⟩
theorem ss_setIx (G : Gd T cf k N sc X) {ca cb ce : CE} {a b e : Expr} {r : CS} (ha : PE X a (tE X.K cf ca)) (hb : PE X b (tE X.K cf cb)) (he : PE X e (tE X.K cf ce)) (hc : notComp e = true) (hr : PSs X rest (tS X.K cf r)) :
    PSs X (.Assign [.Subscript a b p] e pos :: rest) (tS X.K cf (.setIx ca cb ce r)) := by
  refine PSs.imp (pss_cons (ps_dput (by have := G.hu; omega) ha hb he (swap_of hc _ _ _)) hr) fun E σ H ⟨δ, ι, S, Q, hs, hh, w, l⟩ => ?_
  simp only [exS, W_bind] at w
  refine tE.run hs hh w fun d v ι1 H1 S1 x1 hs1 hh1 r1 w1 => ?_
  refine tE.run hs1 hh1 w1 fun x vx ι2 H2 S2 x2 hs2 hh2 r2 w2 => ?_
  refine tE.run hs2 hh2 w2 fun y vy ι3 H3 S3 x3 hs3 hh3 r3 w3 => ?_
  cases ed : dPut S3 x y d with
  | none => rw [ed] at w3; exact w3.elim
  | some S4 =>
    rw [ed] at w3
    unfold dPut at ed
    cases x with
    | ref i =>
      obtain ⟨p, h1, rfl⟩ := r2.ext x3
      dsimp only at ed
      cases e : S3.get i with
      | none => rw [e] at ed; cases ed
      | some ob =>
        rw [e] at ed
        obtain ⟨b, h2, h3⟩ := hh3.obj _ _ e
        rw [h1] at h2; cases h2
        cases ob with
        | dtp kvs =>
          obtain ⟨nd, ws, ha, rk⟩ := h3
          dsimp only at ed
          cases ek : keyOf y with
          | none => rw [ek] at ed; cases ed
          | some k =>
            rw [ek] at ed
            dsimp only [Option.bind_some] at ed
            split at ed
            · rename_i c
              obtain ⟨b, rfl, hb⟩ := key_ok r3 ek
              have rv := r1.ext (x2.trans x3)
              have xw := Ext.wr hh3 e h1 (.dT (putK ws (kI k) v))
              refine ⟨p, _, rfl, DPut.t ha hb (by rw [rk.length, sizeLine_eq]; exact c), δ, ι3, S4, Q, hs3.ext xw, hh3.wr e h1 ed ⟨putP_nodup nd, _, upd_same, ?_⟩, w3, l.up (((x1.trans x2).trans x3).trans xw)⟩
              exact (rk.put k rv nd).up xw.pre xw.kp
            · cases ed
        | _ => cases ed
    | _ => cases ed
theorem ss_whl (G : Gd T cf k N sc X) {cc : CE} {cb r : CS} {c : Expr} {body : List Stmt} (hc : PT X c (tT X.K cf cc)) (hb : PSs X body (tS X.K cf cb)) (hr : PSs X rest (tS X.K cf r)) :
    PSs X (.While c body [] pos :: rest) (tS X.K cf (.whl cc cb r)) := by
  have hp : PassesOwn (model X.prog X.w) X.A X.env X.xe := by rw [G.xe]; exact PassesOwn.never
  refine PSs.imp (pss_cons (ps_while hp hc hb) hr) fun E σ H ⟨δ, ι, S, Q, hs, hh, w, l⟩ => ?_
  simp only [exS, W_bind] at w
  refine ⟨fun m σ' H' => ∃ δ' ι' S', RS X.K ι' H' δ' σ' ∧ RH X.K ι' H' S' ∧ Ext ι H ι' H' ∧ W (turnsW (evT cf cc) (exS cf cb) m δ' S') (fun f S2 => W (match f with | .nx δ' => exS cf r δ' S2 | .rt d => .ok (.rt d) S2) Q), ⟨100000, δ, ι, S, hs, hh, Ext.refl _ _, w⟩, ?_⟩
  rintro m σ' H' ⟨δ', ι', S', hs', hh', x', w'⟩
  cases m with
  | zero => exact w'.elim
  | succ m =>
    simp only [turnsW, W_bind] at w'
    refine tT.run hs' hh' w' fun z ι1 H1 S1 x1 hs1 hh1 w1 => ?_
    have l1 := l.up (x'.trans x1)
    cases z with
    | false => exact ⟨δ', ι1, S1, Q, hs1, hh1, w1, l1⟩
    | true =>
      simp only [if_true, W_bind] at w1 ⊢
      refine ⟨fun σ2 H2 => ∃ δ2 ι2 S2, RS X.K ι2 H2 δ2 σ2 ∧ RH X.K ι2 H2 S2 ∧ Ext ι H ι2 H2 ∧ W (turnsW (evT cf cc) (exS cf cb) m δ2 S2) (fun f S2 => W (match f with | .nx δ' => exS cf r δ' S2 | .rt d => .ok (.rt d) S2) Q), fun σ2 H2 h => ⟨m, by omega, h⟩, δ', ι1, S1, _, hs1, hh1, w1, ?_⟩
      intro f ι2 H2 S2 x2 hh2 q
      cases f with
      | nx δ2 => exact fun σ2 hs2 => ⟨δ2, ι2, S2, hs2, hh2, (x'.trans x1).trans x2, q⟩
      | rt d => exact fun v rv => l1 _ _ _ _ x2 hh2 q v rv
end
end R

end
section
/-! The interpreter is sound: the text is looked at, and the whole. -/
namespace R
open PySem PySem.Spec PyProof.Rows L2
variable [Mks]
def isTmp : CL → Bool | .comp .. => true | _ => false
def isR1 : CL → Bool | .rng1 _ => true | _ => false
def isRng : CL → Bool | .rng1 _ => true | _ => false
def isZipL : CL → Bool | _ => false
def isTupE : Expr → Bool | .Tuple _ _ _ => true | _ => false
def tgsOf : Expr → List Str
  | .Name x _ => [x]
  | .Tuple es _ _ => es.filterMap fun | .Name x _ => some x | _ => none
  | _ => []
def compB (sc scope : Scope) (N : List Str) (js : List Nat) : Bool :=
  decide (scope.kind = .function) && scope.names.all (fun y => decide (y.2 ≠ .cell)) && scope.names.all (fun y => decide (y.2 ≠ .local) || decide (scope.names.lookup y.1 = some .local))
    && scope.names.all (fun y => decide (y.2 ≠ .free) || decide (sc.names.lookup y.1 = some .cell) || decide (sc.names.lookup y.1 = some .free)) && js.all (fun j => decide (scope.names.lookup (N.getD j "") = some .free) && decide (j < N.length))
def nmB (x : Str) : Bool := !(x == ("__debug__" : Str)) && !(x == ("__classdict__" : Str)) && !(x == ("__name__" : Str))
def tyB (t : String) (y : Str) : Bool := (t == "bool" && y == ("bool" : Str)) || (t == "int" && y == ("int" : Str)) || (t == "str" && y == ("str" : Str)) || (t == "list" && y == ("list" : Str)) || (t == "tuple" && y == ("tuple" : Str)) || (t == "dict" && y == ("dict" : Str))
def biB : Bi → Str → Nat → Bool
  | .len, x, n => x == ("len" : Str) && n == 1
  | .abs, x, n => x == ("abs" : Str) && n == 1
  | .max2, x, n => x == ("max" : Str) && n == 2
  | .min2, x, n => x == ("min" : Str) && n == 2
  | .isin _, _, _ => false
/-! ### the text is read -/
def rdName : Expr → Option Str | .Name x _ => some x | _ => none
def rdConst : Expr → Option Const | .Constant c _ _ => some c | _ => none
def rdBin : Expr → Option (Expr × Operator × Expr) | .BinOp l o r _ => some (l, o, r) | _ => none
def rdUn : Expr → Option (UnaryOp × Expr) | .UnaryOp o x _ => some (o, x) | _ => none
def rdCmp : Expr → Option (Expr × List CmpOp × List Expr) | .Compare l os rs _ => some (l, os, rs) | _ => none
def rdBool : Expr → Option (BoolOp × List Expr × Pos) | .BoolOp o vs p => some (o, vs, p) | _ => none
def rdIf : Expr → Option (Expr × Expr × Expr) | .IfExp t x y _ => some (t, x, y) | _ => none
def rdTup : Expr → Option (List Expr) | .Tuple xs _ _ => some xs | _ => none
def rdList : Expr → Option (List Expr) | .List xs _ => some xs | _ => none
def rdDict0 : Expr → Bool | .Dict ks vs _ => ks.isEmpty && vs.isEmpty | _ => false
def rdSub : Expr → Option (Expr × Expr) | .Subscript x i _ => some (x, i) | _ => none
def rdCall : Expr → Option (Expr × List Expr × List Keyword × Pos) | .Call f as ks p => some (f, as, ks, p) | _ => none
def rdAttr : Expr → Option (Expr × Str × Pos) | .Attribute o x p => some (o, x, p) | _ => none
def rdLC : Expr → Option (Expr × List Comprehension × Scope × Pos) | .ListComp e gs sc p => some (e, gs, sc, p) | _ => none
section
variable {e l r x y i f : Expr} {xs rs as : List Expr} {ks : List Keyword} {p : Pos}
theorem rdName_inv {n : Str} (h : rdName e = some n) : ∃ p, e = .Name n p := by cases e <;> first | (cases h; exact ⟨_, rfl⟩) | cases h
theorem rdConst_inv {c : Const} (h : rdConst e = some c) : ∃ j p, e = .Constant c j p := by cases e <;> first | (cases h; exact ⟨_, _, rfl⟩) | cases h
theorem rdBin_inv {o : Operator} (h : rdBin e = some (l, o, r)) : ∃ p, e = .BinOp l o r p := by cases e <;> first | (cases h; exact ⟨_, rfl⟩) | cases h
theorem rdUn_inv {o : UnaryOp} (h : rdUn e = some (o, x)) : ∃ p, e = .UnaryOp o x p := by cases e <;> first | (cases h; exact ⟨_, rfl⟩) | cases h
theorem rdCmp_inv {os : List CmpOp} (h : rdCmp e = some (l, os, rs)) : ∃ p, e = .Compare l os rs p := by cases e <;> first | (cases h; exact ⟨_, rfl⟩) | cases h
theorem rdBool_inv {o : BoolOp} (h : rdBool e = some (o, xs, p)) : e = .BoolOp o xs p := by cases e <;> first | (cases h; rfl) | cases h
theorem rdIf_inv (h : rdIf e = some (l, x, y)) : ∃ p, e = .IfExp l x y p := by cases e <;> first | (cases h; exact ⟨_, rfl⟩) | cases h
theorem rdTup_inv (h : rdTup e = some xs) : ∃ j p, e = .Tuple xs j p := by cases e <;> first | (cases h; exact ⟨_, _, rfl⟩) | cases h
theorem rdList_inv (h : rdList e = some xs) : ∃ p, e = .List xs p := by cases e <;> first | (cases h; exact ⟨_, rfl⟩) | cases h
theorem rdDict0_inv (h : rdDict0 e = true) : ∃ p, e = .Dict [] [] p := by
  cases e with
  | Dict ks vs p =>
    cases ks with
    | cons _ _ => cases h
    | nil =>
      cases vs with
      | cons _ _ => cases h
      | nil => exact ⟨_, rfl⟩
  | _ => cases h
theorem rdSub_inv (h : rdSub e = some (x, i)) : ∃ p, e = .Subscript x i p := by cases e <;> first | (cases h; exact ⟨_, rfl⟩) | cases h
theorem rdCall_inv (h : rdCall e = some (f, as, ks, p)) : e = .Call f as ks p := by cases e <;> first | (cases h; rfl) | cases h
theorem rdAttr_inv {n : Str} (h : rdAttr e = some (x, n, p)) : e = .Attribute x n p := by cases e <;> first | (cases h; rfl) | cases h
theorem rdLC_inv {gs : List Comprehension} {sc : Scope} (h : rdLC e = some (x, gs, sc, p)) : e = .ListComp x gs sc p := by cases e <;> first | (cases h; rfl) | cases h
end
theorem any_inv {α : Type} {o : Option α} {f : α → Bool} (h : o.any f = true) : ∃ x, o = some x ∧ f x = true := by
  cases o with
  | none => cases h
  | some x => exact ⟨x, rfl, h⟩
def one {α : Type} : List α → Option α | [x] => some x | _ => none
theorem one_inv {α : Type} {xs : List α} {x : α} (h : one xs = some x) : xs = [x] := by
  match xs, h with
  | [y], h => cases h; rfl
def two {α : Type} : List α → Option (α × α) | [x, y] => some (x, y) | _ => none
theorem two_inv {α : Type} {xs : List α} {x y : α} (h : two xs = some (x, y)) : xs = [x, y] := by
  match xs, h with
  | [a, b], h => cases h; rfl
/-- f(..) by a name, no keywords -/
def rdCallN (e : Expr) : Option (Str × List Expr) := (rdCall e).bind fun q => if q.2.2.1.isEmpty then (rdName q.1).map fun x => (x, q.2.1) else none
theorem rdCallN_inv {e : Expr} {x : Str} {as : List Expr} (h : rdCallN e = some (x, as)) : ∃ p2 p, e = .Call (.Name x p2) as [] p := by
  unfold rdCallN at h
  cases q : rdCall e with
  | none => rw [q] at h; cases h
  | some z =>
    obtain ⟨f, bs, ks, p⟩ := z
    rw [q] at h
    dsimp only [Option.bind_some] at h
    split at h
    · rename_i c
      cases q2 : rdName f with
      | none => rw [q2] at h; cases h
      | some y =>
        rw [q2] at h
        obtain ⟨p2, rfl⟩ := rdName_inv q2
        cases ks with
        | cons _ _ => cases c
        | nil => cases h; exact ⟨p2, p, rdCall_inv q⟩
    · cases h
/-- f(e) -/
def rdCall1 (e : Expr) : Option (Str × Expr) := (rdCallN e).bind fun q => (one q.2).map fun a => (q.1, a)
theorem rdCall1_inv {e a : Expr} {x : Str} (h : rdCall1 e = some (x, a)) : ∃ p2 p, e = .Call (.Name x p2) [a] [] p := by
  unfold rdCall1 at h
  cases q : rdCallN e with
  | none => rw [q] at h; cases h
  | some z =>
    obtain ⟨y, bs⟩ := z
    rw [q] at h
    dsimp only [Option.bind_some] at h
    cases q2 : one bs with
    | none => rw [q2] at h; cases h
    | some b =>
      rw [q2] at h
      cases h
      rw [one_inv q2] at q
      exact rdCallN_inv q
/-- o.m(e) -/
def rdMeth (e : Expr) : Option (Expr × Str × Pos × Expr × Pos) := (rdCall e).bind fun q => if q.2.2.1.isEmpty then (rdAttr q.1).bind fun a => (one q.2.1).map fun y => (a.1, a.2.1, a.2.2, y, q.2.2.2) else none
theorem rdMeth_inv {e o a : Expr} {x : Str} {ap cp : Pos} (h : rdMeth e = some (o, x, ap, a, cp)) : e = .Call (.Attribute o x ap) [a] [] cp := by
  unfold rdMeth at h
  cases q : rdCall e with
  | none => rw [q] at h; cases h
  | some z =>
    obtain ⟨f, bs, ks, p⟩ := z
    rw [q] at h
    dsimp only [Option.bind_some] at h
    split at h
    · rename_i c
      cases q2 : rdAttr f with
      | none => rw [q2] at h; cases h
      | some y =>
        obtain ⟨o', x', ap'⟩ := y
        rw [q2] at h
        dsimp only [Option.bind_some] at h
        cases q3 : one bs with
        | none => rw [q3] at h; cases h
        | some b =>
          rw [q3] at h
          cases h
          cases ks with
          | cons _ _ => cases c
          | nil => rw [rdCall_inv q, rdAttr_inv q2, one_inv q3]
    · cases h
def fnB (T : Tab) (f j : Nat) (x : Str) : Bool := match T.fns[f]? with | some (y, _, nd) => (y == x) && decide (j ≤ nd) | none => false
def conG (T : Tab) (d : D) (x : Str) : Bool := match T.cons.lookup x with | some d' => eqC d' d | none => false
def isConE : CE → Bool | .con _ => true | _ => false
def isCompL : CL → Bool | .comp .. => true | _ => false
def isTrueT : CE → Bool | .tst (.con (.bl true)) => true | _ => false
def oneEs : CEs → Bool | .cons _ .nil => true | _ => false
def nilEs : CEs → Bool | .nil => true | _ => false
def mtN : Mt → Str → Bool
  | .append, x => x == ("append" : Str)
  | .popAt, x => x == ("pop" : Str)
  | .count, x => x == ("count" : Str)
def isinT : Bi → Option String | .isin t => some t | _ => none
/-- the target of a loop -/
def tgB (sc : Scope) (N : List Str) (g : List Nat) (tg : Expr) : Bool := match rdName tg with
  | some x => (match one g with | some i => (N[i]? == some x) && isLoc sc x | none => false)
  | none => (rdTup tg).any fun es => decide (2 ≤ g.length) && namesB sc N g es
mutual
def chkE (T : Tab) : CE → List Str → Scope → Expr → Bool
  | .loc i, N, sc, e => (rdName e).any fun x => (N[i]? == some x) && isVis sc x && nmB x
  | .con d, _, sc, e => (rdConst e).any (fun c => conB d c) || (rdName e).any fun x => isGl sc x && conG T d x && nmB x
  | .tst _, _, _, _ => false
  | .bin op a b, N, sc, e => (rdBin e).any fun q => decide (q.2.1 = op) && chkE T a N sc q.1 && chkE T b N sc q.2.2
  | .neg a, N, sc, e => (rdUn e).any fun q => decide (q.1 = .USub) && chkE T a N sc q.2
  | .nt a, N, sc, e => (rdUn e).any fun q => decide (q.1 = .Not) && chkE T a N sc q.2
  | .cmp op a b, N, sc, e => (rdCmp e).any fun q => decide (q.2.1 = [op]) && (one q.2.2).any fun r => notSet r && chkE T a N sc q.1 && chkE T b N sc r
  | .and a b, N, sc, e => (rdBool e).any fun q => decide (q.1 = .And) && (match q.2.1 with
      | x :: y :: rest => chkE T a N sc x && (if rest.isEmpty then chkE T b N sc y else chkE T b N sc (.BoolOp .And (y :: rest) q.2.2))
      | _ => false)
  | .or a b, N, sc, e => (rdBool e).any fun q => decide (q.1 = .Or) && (match q.2.1 with
      | x :: y :: rest => chkE T a N sc x && (if rest.isEmpty then chkE T b N sc y else chkE T b N sc (.BoolOp .Or (y :: rest) q.2.2))
      | _ => false)
  | .ite c a b, N, sc, e => (rdIf e).any fun q => chkT T c N sc q.1 && chkE T a N sc q.2.1 && chkE T b N sc q.2.2
  | .tup es, N, sc, e => (rdTup e).any fun xs => chkEs T es N sc xs
  | .lst es, N, sc, e => (rdList e).any fun xs => chkEs T es N sc xs
  | .dnew, _, _, e => rdDict0 e
  | .dnewT, _, _, e => rdDict0 e
  | .dget1 a b, N, sc, e => (rdMeth e).any fun q => (q.2.1 == ("get" : Str)) && noStar q.2.2.2.1 && notSup q.1 && (q.2.2.1.endLine == q.2.2.2.2.line) && chkE T a N sc q.1 && chkE T b N sc q.2.2.2.1
  | .dcopy a, N, sc, e => (rdCall1 e).any fun q => (q.1 == ("dict" : Str)) && bltB T sc q.1 && noStar q.2 && chkE T a N sc q.2
  | .dix a b, N, sc, e => (rdSub e).any fun q => notSlice q.2 && chkE T a N sc q.1 && chkE T b N sc q.2
  | .dpop a b, N, sc, e => (rdMeth e).any fun q => (q.2.1 == ("pop" : Str)) && noStar q.2.2.2.1 && notSup q.1 && (q.2.2.1.endLine == q.2.2.2.2.line) && chkE T a N sc q.1 && chkE T b N sc q.2.2.2.1
  | .ix a b, N, sc, e => (rdSub e).any fun q => notSlice q.2 && chkE T a N sc q.1 && chkE T b N sc q.2
  | .call f j es, N, sc, e => (rdCallN e).any fun q => isGl sc q.1 && nmB q.1 && fnB T f j q.1 && (!q.2.isEmpty || nilEs es) && chkEs T es N sc q.2
  | .bi b es, N, sc, e => (rdCallN e).any fun q => bltB T sc q.1 && nmB q.1 && (match isinT b with
      | some t => (two q.2).any fun z => (rdName z.2).any fun y => (q.1 == ("isinstance" : Str)) && tyB t y && bltB T sc y && nmB y && oneEs es && chkEs T es N sc [z.1]
      | none => biB b q.1 q.2.length && !q.2.isEmpty && chkEs T es N sc q.2)
  | .mt m o es, N, sc, e => (rdMeth e).any fun q => mtN m q.2.1 && notSup q.1 && (q.2.2.1.endLine == q.2.2.2.2.line) && oneEs es && chkE T o N sc q.1 && chkEs T es N sc [q.2.2.2.1]
  | .mkL l, N, sc, e => if isCompL l then (if (rdLC e).isSome then chkL T l N sc e else (rdCall1 e).any fun q => (q.1 == ("list" : Str)) && bltB T sc q.1 && noStar q.2 && chkL T l N sc q.2)
      else (rdCall1 e).any fun q => (q.1 == ("list" : Str)) && bltB T sc q.1 && noStar q.2 && (!(isRng l) || isR1 l) && chkL T l N sc q.2
  | .mkT l, N, sc, e => (rdCall1 e).any fun q => (q.1 == ("tuple" : Str)) && bltB T sc q.1 && noStar q.2 && !(isRng l) && chkL T l N sc q.2
  | .all l, N, sc, e => (rdCall1 e).any fun q => (q.1 == ("all" : Str)) && bltB T sc q.1 && noStar q.2 && !(isRng l) && chkL T l N sc q.2
def chkEs (T : Tab) : CEs → List Str → Scope → List Expr → Bool
  | .nil, _, _, es => es.isEmpty
  | .cons a r, N, sc, es => (match es with | [] => false | e :: es => noStar e && chkE T a N sc e && chkEs T r N sc es)
def chkT (T : Tab) : CE → List Str → Scope → Expr → Bool
  | .cmp op a b, N, sc, e => (rdCmp e).any fun q => decide (q.2.1 = [op]) && (one q.2.2).any fun r => notSet r && chkE T a N sc q.1 && chkE T b N sc r
  | .nt a, N, sc, e => (rdUn e).any fun q => decide (q.1 = .Not) && chkT T a N sc q.2
  | .and a b, N, sc, e => (rdBool e).any fun q => decide (q.1 = .And) && (match q.2.1 with
      | x :: y :: rest => chkT T a N sc x && (if rest.isEmpty then chkT T b N sc y else chkT T b N sc (.BoolOp .And (y :: rest) q.2.2))
      | _ => false)
  | .or a b, N, sc, e => (rdBool e).any fun q => decide (q.1 = .Or) && (match q.2.1 with
      | x :: y :: rest => chkT T a N sc x && (if rest.isEmpty then chkT T b N sc y else chkT T b N sc (.BoolOp .Or (y :: rest) q.2.2))
      | _ => false)
  | .tst a, N, sc, e => plainT e && chkE T a N sc e
  | _, _, _, _ => false
def chkL (T : Tab) : CL → List Str → Scope → Expr → Bool
  | .val a, N, sc, e => notSet e && chkE T a N sc e
  | .rng1 a, N, sc, e => (rdCall1 e).any fun q => (q.1 == ("range" : Str)) && bltB T sc q.1 && noStar q.2 && chkE T a N sc q.2
  | .comp nt js g it c e, N, sc, ex => (rdLC ex).any fun q => (one q.2.1).any fun z => decide (z.is_async = 0) && compB sc q.2.2.1 N js && (notSet z.iter && !(isZipL it)) && chkL T it N sc z.iter && decide ((tgsOf z.target).length = nt) && decide ((capN N (tgsOf z.target) js).Nodup)
      && tgB q.2.2.1 (capN N (tgsOf z.target) js) g z.target
      && (if z.ifs.isEmpty then isTrueT c else (one z.ifs).any fun t => chkT T c (capN N (tgsOf z.target) js) q.2.2.1 t)
      && chkE T e (capN N (tgsOf z.target) js) q.2.2.1 q.1
end
def rdAsg : Stmt → Option (Expr × Expr × Pos) | .Assign tgs v p => (one tgs).map fun t => (t, v, p) | _ => none
def rdIfS : Stmt → Option (Expr × List Stmt × List Stmt) | .If e a b _ => some (e, a, b) | _ => none
def rdFor : Stmt → Option (Expr × Expr × List Stmt) | .For tg it b els _ => if els.isEmpty then some (tg, it, b) else none | _ => none
def rdRet : Stmt → Option Expr | .Return v _ => v | _ => none
def rdExp : Stmt → Option Expr | .Expr v _ => some v | _ => none
def rdWhl : Stmt → Option (Expr × List Stmt) | .While c b els _ => if els.isEmpty then some (c, b) else none | _ => none
section
variable {s : Stmt} {e v tg it : Expr} {a b : List Stmt} {p : Pos}
theorem rdAsg_inv (h : rdAsg s = some (tg, v, p)) : s = .Assign [tg] v p := by
  cases s with
  | Assign tgs v p =>
    simp only [rdAsg] at h
    cases q : one tgs with
    | none => rw [q] at h; cases h
    | some t => rw [q] at h; cases h; rw [one_inv q]
  | _ => cases h
theorem rdIfS_inv (h : rdIfS s = some (e, a, b)) : ∃ p, s = .If e a b p := by cases s <;> first | (cases h; exact ⟨_, rfl⟩) | cases h
theorem rdFor_inv (h : rdFor s = some (tg, it, b)) : ∃ p, s = .For tg it b [] p := by
  cases s with
  | For tg it b els p =>
    simp only [rdFor] at h
    cases els with
    | nil => cases h; exact ⟨_, rfl⟩
    | cons _ _ => cases h
  | _ => cases h
theorem rdWhl_inv (h : rdWhl s = some (e, a)) : ∃ p, s = .While e a [] p := by
  cases s with
  | While c b els p =>
    simp only [rdWhl] at h
    cases els with
    | nil => cases h; exact ⟨_, rfl⟩
    | cons _ _ => cases h
  | _ => cases h
theorem rdRet_inv (h : rdRet s = some e) : ∃ p, s = .Return (some e) p := by
  cases s with
  | Return v p => simp only [rdRet] at h; subst h; exact ⟨_, rfl⟩
  | _ => cases h
theorem rdExp_inv (h : rdExp s = some e) : ∃ p, s = .Expr e p := by cases s <;> first | (cases h; exact ⟨_, rfl⟩) | cases h
end
def chkS (T : Tab) : CS → List Str → Scope → List Stmt → Bool
  | .nil, _, _, st => st.isEmpty
  | .asg i e r, N, sc, st => (match st with | [] => false | s :: rest => (rdAsg s).any fun q => (rdName q.1).any fun x => (N[i]? == some x) && isLoc sc x && chkE T e N sc q.2.1 && chkS T r N sc rest)
  | .setIx a b e r, N, sc, st => (match st with | [] => false | s :: rest => (rdAsg s).any fun q => (rdSub q.1).any fun z => notComp q.2.1 && chkE T a N sc z.1 && chkE T b N sc z.2 && chkE T e N sc q.2.1 && chkS T r N sc rest)
  | .whl c b r, N, sc, st => (match st with | [] => false | s :: rest => (rdWhl s).any fun q => chkT T c N sc q.1 && chkS T b N sc q.2 && chkS T r N sc rest)
  | .ifS c t u r, N, sc, st => (match st with | [] => false | s :: rest => (rdIfS s).any fun q => chkT T c N sc q.1 && chkS T t N sc q.2.1 && chkS T u N sc q.2.2 && chkS T r N sc rest)
  | .forS g l b r, N, sc, st => (match st with | [] => false | s :: rest => (rdFor s).any fun q => notSet q.2.1 && chkL T l N sc q.2.1 && chkS T b N sc q.2.2 && chkS T r N sc rest && (tgB sc N g q.1 && (isTupE q.1 || !(isZipL l))))
  | .ret e r, N, sc, st => (match st with | [] => false | s :: rest => (rdRet s).any fun v => chkE T e N sc v && chkS T r N sc rest)
  | .expr e r, N, sc, st => (match st with | [] => false | s :: rest => (rdExp s).any fun v => notComp v && chkE T e N sc v && chkS T r N sc rest)
end R

end
section
set_option maxHeartbeats 8000000
namespace R
open PySem PySem.Spec PyProof.Rows L2
variable [Mks]
section
variable {T : Tab} {cf : CF} {k : Nat} {N : List Str} {sc : Scope} {X : Cx}
theorem lookup_relab (env : Env) (x : Str) : ∀ {names : List (Str × NameKind)} {k0 : NameKind}, names.lookup x = some k0 → k0 ≠ .free → (names.map (relab env)).lookup x = some k0
  | [], _, h, _ => by simp at h
  | y :: r, k0, h, hk => by
    rw [List.map_cons]
    have f1 := relab_fst env y
    have f2 := relab_snd env y
    obtain ⟨n, k1⟩ := y
    generalize hz : relab env (n, k1) = z at *
    obtain ⟨zn, zk⟩ := z
    simp only at f1 f2
    subst f1
    rw [List.lookup_cons] at h ⊢
    cases hx : x == zn with
    | true =>
      rw [hx] at h
      have e : k1 = k0 := Option.some.inj h
      subst e
      rcases f2 with f2 | ⟨q, _⟩
      · show some zk = _; rw [f2]
      · exact absurd q hk
    | false =>
      rw [hx] at h
      exact lookup_relab env x h hk
theorem compB_ok (G : Gd T cf k N sc X) {scope : Scope} {js : List Nat} (h : compB sc scope N js = true) : CompOk X.env.scope scope X.N js := by
  unfold compB at h
  simp only [Bool.and_eq_true, List.all_eq_true, decide_eq_true_eq, Bool.or_eq_true] at h
  obtain ⟨⟨⟨⟨h1, h2⟩, h3⟩, h4⟩, h5⟩ := h
  refine ⟨h1, h2, fun y hy e => ?_, fun y hy e => ?_, fun j hj => ?_⟩
  · rcases h3 y hy with z | z
    · exact absurd e z
    · exact z
  · rcases h4 y hy with (z | z) | z
    · exact absurd e z
    · exact .inl (G.cell _ z)
    · exact (G.free _ z).symm
  · rw [G.nm]; exact h5 j hj
theorem gd_comp (G : Gd T cf k N sc X) {scope : Scope} {tgs : List Str} {js : List Nat} (ok : CompOk X.env.scope scope X.N js) (hn : (capN N tgs js).Nodup) (cl : List (Str × Addr)) (C : Addr) (fp : List Addr) (s : Shared) (H : Hp) (pn : List (Addr × Obj)) :
    Gd T cf k (capN N tgs js) scope (cxComp X (capN X.N tgs js) scope cl C fp s H pn) := by
  have names : (cxComp X (capN X.N tgs js) scope cl C fp s H pn).env.scope.names = scope.names.map (relab X.env) := relabel_names scope X.env
  have noc : ∀ x, scope.names.lookup x ≠ some .cell := fun x e => ok.nocell _ (PySem.mem_of_lookup e) rfl
  refine ⟨by rw [← G.nm], hn, fun x e => ?_, fun x e => absurd e (noc x), fun x e => ?_, fun x e => ?_, .inr noc, G.calm, rfl, G.room, G.tab⟩
  · rw [names]; exact lookup_relab _ _ e (by decide)
  · rw [names]; exact relab_lookup' _ _ _ e
  · rw [names]; exact lookup_relab _ _ e (by decide)
theorem nmB_ok {x : Str} (h : nmB x = true) : (x == ("__debug__" : Str)) = false ∧ (x == ("__classdict__" : Str)) = false ∧ x ≠ ("__name__" : Str) := by
  unfold nmB at h
  simp only [Bool.and_eq_true, Bool.not_eq_true'] at h
  exact ⟨h.1.1, h.1.2, fun e => by rw [e] at h; simp at h⟩
theorem tyB_ok {t : String} {y : Str} (h : tyB t y = true) : t ∈ ["bool", "int", "str", "list", "tuple", "dict"] ∧ bootBuiltins y = some (.type t) := by
  unfold tyB at h
  simp only [Bool.or_eq_true, Bool.and_eq_true, beq_iff_eq] at h
  rcases h with ((((⟨rfl, rfl⟩ | ⟨rfl, rfl⟩) | ⟨rfl, rfl⟩) | ⟨rfl, rfl⟩) | ⟨rfl, rfl⟩) | ⟨rfl, rfl⟩
  · exact ⟨by simp, bb_bool⟩
  · exact ⟨by simp, bb_int⟩
  · exact ⟨by simp, bb_str⟩
  · exact ⟨by simp, bb_list⟩
  · exact ⟨by simp, bb_tuple⟩
  · exact ⟨by simp, bb_dict⟩
theorem fn_of' {f j : Nat} {x : Str} (h : fnB T f j x = true) : ∃ ps nd, T.fns[f]? = some (x, ps, nd) ∧ j ≤ nd := by
  unfold fnB at h
  cases e : T.fns[f]? with
  | none => rw [e] at h; cases h
  | some q =>
    obtain ⟨y, ps, nd⟩ := q
    rw [e] at h
    simp only [Bool.and_eq_true, beq_iff_eq, decide_eq_true_eq] at h
    obtain ⟨rfl, h2⟩ := h
    exact ⟨ps, nd, rfl, h2⟩
theorem chkEs_star : ∀ {ces : CEs} {N : List Str} {sc : Scope} {es : List Expr}, chkEs T ces N sc es = true → es.all noStar = true
  | .nil, N, sc, es, h => by
    simp only [chkEs, List.isEmpty_iff] at h
    subst h; rfl
  | .cons a r, N, sc, es, h => by
    cases es with
    | nil => simp [chkEs] at h
    | cons e es =>
      simp only [chkEs, Bool.and_eq_true] at h
      simp [h.1.1, chkEs_star h.2]
theorem chkE_one {es : CEs} (h : oneEs es = true) : ∃ a, es = .cons a .nil := by
  cases es with
  | nil => cases h
  | cons a r =>
    cases r with
    | nil => exact ⟨a, rfl⟩
    | cons _ _ => cases h
theorem call_bi_ok (G : Gd T cf k N sc X) {b : Bi} {x : Str} {n : Nat} (h : biB b x n = true) : ∃ id, CallR X (.builtin id) (rB X.K fun S ds => R.bi S b ds) ∧ bootBuiltins x = some (.builtin id) := by
  cases b with
  | len => simp only [biB, Bool.and_eq_true, beq_iff_eq] at h; rw [h.1]; exact ⟨_, len_ok, bb_len⟩
  | abs => simp only [biB, Bool.and_eq_true, beq_iff_eq] at h; rw [h.1]; exact ⟨_, abs_ok, bb_abs⟩
  | max2 => simp only [biB, Bool.and_eq_true, beq_iff_eq] at h; rw [h.1]; exact ⟨_, max_ok G.calm, bb_max⟩
  | min2 => simp only [biB, Bool.and_eq_true, beq_iff_eq] at h; rw [h.1]; exact ⟨_, min_ok G.calm, bb_min⟩
  | isin t => simp [biB] at h
def LOk (T : Tab) (cf : CF) (k : Nat) (cl : CL) (X : Cx) (e : Expr) : Prop := (isRng cl = false → PE X e (tL X.K cf cl)) ∧ (isTmp cl = true → PE X e (tLt X.K cf cl)) ∧ (∀ tg, (isTupE tg || !(isZipL cl)) = true → PI X tg e (tI X.K cf cl)) ∧
  ∀ a, cl = .rng1 a → ∃ a' p2 p, e = .Call (.Name "range" p2) [a'] [] p ∧ (Gl X "range" ∧ X.mg "range" = none) ∧ PE X a' (tE X.K cf a) ∧ noStar a' = true
def EsOk (cf : CF) (ces : CEs) (X : Cx) (es : List Expr) : Prop := PA X es (tAs X.K cf ces) ∧ ∀ a r e es', ces = .cons a r → es = e :: es' → PE X e (tE X.K cf a)
theorem tg_ok {sc : Scope} {N : List Str} {X : Cx} {g : List Nat} {tg : Expr} (G : Gd T cf k N sc X) (h : tgB sc N g tg = true) : PG X tg (tG X.K g) := by
  unfold tgB at h
  split at h
  · rename_i x q
    obtain ⟨p, rfl⟩ := rdName_inv q
    split at h
    · rename_i i q2
      rw [one_inv q2]
      simp only [Bool.and_eq_true, beq_iff_eq] at h
      exact sg_name G h.1 h.2
    · cases h
  · replace h := any_inv h
    obtain ⟨es, q, h⟩ := h
    obtain ⟨j, p, rfl⟩ := rdTup_inv q
    simp only [Bool.and_eq_true, decide_eq_true_eq] at h
    exact sg_tup G h.2 h.1
theorem trueT_ok {c : CE} {X : Cx} (h : isTrueT c = true) : PTs X [] (tT X.K cf c) := by
  have hc : c = .tst (.con (.bl true)) := by
    cases c with
    | tst a =>
      cases a with
      | con d =>
        cases d with
        | bl b =>
          cases b with
          | true => rfl
          | false => cases h
        | _ => cases h
      | _ => cases h
    | _ => cases h
  subst hc
  intro pins s' σ H' Qv I q
  refine pts_nil pins s' σ H' Qv I ?_
  obtain ⟨δ, ι, S, Q, hs, hh, w, q⟩ := q
  simp only [evT, evE, bind_ok, tru, lift_some, W_ok] at w
  exact q _ _ ⟨ι, S, Ext.refl _ _, hh, w⟩
theorem str_eq {x y : Str} (h : (x == y) = true) : x = y := by simpa using h
mutual
theorem chkE_ok : ∀ (ce : CE) {N : List Str} {sc : Scope} {e : Expr} {X : Cx}, Gd T cf k N sc X → chkE T ce N sc e = true → PE X e (tE X.K cf ce)
  | .loc i, N, sc, e, X, G, h => by
    simp only [chkE] at h
    replace h := any_inv h
    obtain ⟨x, q, h⟩ := h
    obtain ⟨p, rfl⟩ := rdName_inv q
    simp only [Bool.and_eq_true, beq_iff_eq] at h
    obtain ⟨h1, h2, _⟩ := nmB_ok h.2
    exact se_loc G h.1.1 h.1.2 h1 h2
  | .con d, N, sc, e, X, G, h => by
    simp only [chkE] at h
    rw [Bool.or_eq_true] at h
    rcases h with h | h
    · replace h := any_inv h
      obtain ⟨c, q, h⟩ := h
      obtain ⟨j, p, rfl⟩ := rdConst_inv q
      exact se_con h
    · replace h := any_inv h
      obtain ⟨x, q, h⟩ := h
      obtain ⟨p, rfl⟩ := rdName_inv q
      simp only [Bool.and_eq_true] at h
      obtain ⟨h1, h2, _⟩ := nmB_ok h.2
      have h3 := h.1.2
      unfold conG at h3
      split at h3
      · rename_i d' e'
        exact se_glob G h.1.1 e' h3 h1
      · cases h3
  | .tst a, N, sc, e, X, G, h => by simp only [chkE] at h; cases h
  | .bin op a b, N, sc, e, X, G, h => by
    simp only [chkE] at h
    replace h := any_inv h
    obtain ⟨⟨l, o, r⟩, q, h⟩ := h
    obtain ⟨p, rfl⟩ := rdBin_inv q
    simp only [Bool.and_eq_true, decide_eq_true_eq] at h
    obtain ⟨⟨rfl, h1⟩, h2⟩ := h
    exact se_bin (chkE_ok a G h1) (chkE_ok b G h2)
  | .neg a, N, sc, e, X, G, h => by
    simp only [chkE] at h
    replace h := any_inv h
    obtain ⟨⟨o, x⟩, q, h⟩ := h
    obtain ⟨p, rfl⟩ := rdUn_inv q
    simp only [Bool.and_eq_true, decide_eq_true_eq] at h
    obtain ⟨rfl, h1⟩ := h
    exact se_neg (chkE_ok a G h1)
  | .nt a, N, sc, e, X, G, h => by
    simp only [chkE] at h
    replace h := any_inv h
    obtain ⟨⟨o, x⟩, q, h⟩ := h
    obtain ⟨p, rfl⟩ := rdUn_inv q
    simp only [Bool.and_eq_true, decide_eq_true_eq] at h
    obtain ⟨rfl, h1⟩ := h
    exact se_nt (chkE_ok a G h1)
  | .cmp op a b, N, sc, e, X, G, h => by
    simp only [chkE] at h
    replace h := any_inv h
    obtain ⟨⟨l, os, rs⟩, q, h⟩ := h
    obtain ⟨p, rfl⟩ := rdCmp_inv q
    rw [Bool.and_eq_true, decide_eq_true_eq] at h
    obtain ⟨e1, h⟩ := h
    replace h := any_inv h
    obtain ⟨r, q2, h⟩ := h
    cases one_inv q2
    cases e1
    simp only [Bool.and_eq_true] at h
    exact se_cmp G (chkE_ok a G h.1.2) (chkE_ok b G h.2) h.1.1
  | .and a b, N, sc, e, X, G, h => by
    simp only [chkE] at h
    replace h := any_inv h
    obtain ⟨⟨o, vs, p⟩, q, h⟩ := h
    cases rdBool_inv q
    rw [Bool.and_eq_true, decide_eq_true_eq] at h
    obtain ⟨e1, h⟩ := h
    cases e1
    dsimp only at h
    split at h
    · rename_i x y rest
      rw [Bool.and_eq_true] at h
      obtain ⟨h1, h2⟩ := h
      split at h2
      · rename_i c
        cases List.isEmpty_iff.mp c
        exact se_and (chkE_ok a G h1) (pe_one (chkE_ok b G h2))
      · exact se_and (chkE_ok a G h1) (chkE_ok b G h2)
    · cases h
  | .or a b, N, sc, e, X, G, h => by
    simp only [chkE] at h
    replace h := any_inv h
    obtain ⟨⟨o, vs, p⟩, q, h⟩ := h
    cases rdBool_inv q
    rw [Bool.and_eq_true, decide_eq_true_eq] at h
    obtain ⟨e1, h⟩ := h
    cases e1
    dsimp only at h
    split at h
    · rename_i x y rest
      rw [Bool.and_eq_true] at h
      obtain ⟨h1, h2⟩ := h
      split at h2
      · rename_i c
        cases List.isEmpty_iff.mp c
        exact se_or (chkE_ok a G h1) (pe_one (chkE_ok b G h2))
      · exact se_or (chkE_ok a G h1) (chkE_ok b G h2)
    · cases h
  | .ite c a b, N, sc, e, X, G, h => by
    simp only [chkE] at h
    replace h := any_inv h
    obtain ⟨⟨t, x, y⟩, q, h⟩ := h
    obtain ⟨p, rfl⟩ := rdIf_inv q
    simp only [Bool.and_eq_true] at h
    exact se_ite (chkT_ok c G h.1.1).1 (chkE_ok a G h.1.2) (chkE_ok b G h.2)
  | .tup es, N, sc, e, X, G, h => by
    simp only [chkE] at h
    replace h := any_inv h
    obtain ⟨xs, q, h⟩ := h
    obtain ⟨j, p, rfl⟩ := rdTup_inv q
    exact se_tup (chkEs_ok es G h).1
  | .lst es, N, sc, e, X, G, h => by
    simp only [chkE] at h
    replace h := any_inv h
    obtain ⟨xs, q, h⟩ := h
    obtain ⟨p, rfl⟩ := rdList_inv q
    exact se_lst (chkEs_ok es G h).1
  | .dnew, N, sc, e, X, G, h => by
    simp only [chkE] at h
    obtain ⟨p, rfl⟩ := rdDict0_inv h
    exact se_dnew
  | .dnewT, N, sc, e, X, G, h => by
    simp only [chkE] at h
    obtain ⟨p, rfl⟩ := rdDict0_inv h
    exact se_dnewT
  | .dget1 a b, N, sc, e, X, G, h => by
    simp only [chkE] at h
    replace h := any_inv h
    obtain ⟨⟨oe, x, ap, e1, cp⟩, q, h⟩ := h
    cases rdMeth_inv q
    simp only [Bool.and_eq_true] at h
    obtain ⟨⟨⟨⟨⟨hx, h1⟩, h2⟩, h3⟩, h4⟩, h5⟩ := h
    cases str_eq hx
    exact se_dget1 G (chkE_ok a G h4) (chkE_ok b G h5) h1 h2 h3
  | .dcopy a, N, sc, e, X, G, h => by
    simp only [chkE] at h
    replace h := any_inv h
    obtain ⟨⟨x, e1⟩, q, h⟩ := h
    obtain ⟨p2, p, rfl⟩ := rdCall1_inv q
    simp only [Bool.and_eq_true] at h
    obtain ⟨⟨⟨hx, h1⟩, h2⟩, h3⟩ := h
    cases str_eq hx
    exact se_dcopy (blt_of G h1) (chkE_ok a G h3) h2
  | .dix a b, N, sc, e, X, G, h => by
    simp only [chkE] at h
    replace h := any_inv h
    obtain ⟨⟨x, i⟩, q, h⟩ := h
    obtain ⟨p, rfl⟩ := rdSub_inv q
    simp only [Bool.and_eq_true] at h
    exact se_dix G (chkE_ok a G h.1.2) (chkE_ok b G h.2) (ix_of h.1.1)
  | .dpop a b, N, sc, e, X, G, h => by
    simp only [chkE] at h
    replace h := any_inv h
    obtain ⟨⟨oe, x, ap, e1, cp⟩, q, h⟩ := h
    cases rdMeth_inv q
    simp only [Bool.and_eq_true] at h
    obtain ⟨⟨⟨⟨⟨hx, h1⟩, h2⟩, h3⟩, h4⟩, h5⟩ := h
    cases str_eq hx
    exact se_dpop G (chkE_ok a G h4) (chkE_ok b G h5) h1 h2 h3
  | .ix a b, N, sc, e, X, G, h => by
    simp only [chkE] at h
    replace h := any_inv h
    obtain ⟨⟨x, i⟩, q, h⟩ := h
    obtain ⟨p, rfl⟩ := rdSub_inv q
    simp only [Bool.and_eq_true] at h
    exact se_ix (chkE_ok a G h.1.2) (chkE_ok b G h.2) h.1.1
  | .call f j es, N, sc, e, X, G, h => by
    simp only [chkE] at h
    replace h := any_inv h
    obtain ⟨⟨x, args⟩, q, h⟩ := h
    obtain ⟨p2, p, rfl⟩ := rdCallN_inv q
    simp only [Bool.and_eq_true, Bool.or_eq_true] at h
    obtain ⟨⟨⟨⟨h1, h2⟩, h3⟩, h4⟩, h5⟩ := h
    obtain ⟨n1, n2, n3⟩ := nmB_ok h2
    obtain ⟨ps, nd, hf, hj⟩ := fn_of' h3
    have ha := (chkEs_ok es G h5).1
    cases args with
    | nil =>
      have : es = .nil := by
        cases es with
        | nil => rfl
        | cons _ _ => rcases h4 with z | z <;> cases z
      rw [this]
      exact se_call0 G hf hj h1 n1
    | cons a as => exact se_call G hf hj h1 n1 ha (chkEs_star h5)
  | .bi b es, N, sc, e, X, G, h => by
    simp only [chkE] at h
    replace h := any_inv h
    obtain ⟨⟨x, args⟩, q, h⟩ := h
    obtain ⟨p2, p, rfl⟩ := rdCallN_inv q
    rw [Bool.and_eq_true, Bool.and_eq_true] at h
    obtain ⟨⟨h1, h2⟩, h3⟩ := h
    obtain ⟨n1, n2, n3⟩ := nmB_ok h2
    split at h3
    · rename_i t qt
      replace h3 := any_inv h3
      obtain ⟨⟨e1, e2⟩, q2, h3⟩ := h3
      cases two_inv q2
      replace h3 := any_inv h3
      obtain ⟨y, q3, h3⟩ := h3
      obtain ⟨p3, rfl⟩ := rdName_inv q3
      simp only [Bool.and_eq_true] at h3
      obtain ⟨⟨⟨⟨⟨hx, h4⟩, h5⟩, h6⟩, h7⟩, h8⟩ := h3
      cases str_eq hx
      obtain ⟨m1, m2, m3⟩ := nmB_ok h6
      obtain ⟨t1, t2⟩ := tyB_ok h4
      obtain ⟨a, ea⟩ := chkE_one h7
      have he := (chkEs_ok es G h8).2 a .nil e1 [] ea rfl
      have hst := chkEs_star h8
      have eb : b = .isin t := by
        cases b with
        | isin _ => cases qt; rfl
        | _ => cases qt
      rw [ea, eb]
      exact se_isin G (blt_of G h1) (blt_of G h5) t2 t1 m3 m1 he (by simpa using hst)
    · rw [Bool.and_eq_true, Bool.and_eq_true] at h3
      cases args with
      | nil => cases h3.1.2
      | cons a as =>
        obtain ⟨id, hc, hv⟩ := call_bi_ok G h3.1.1
        exact se_bi hc (blt_of G h1) hv (chkEs_ok es G h3.2).1 (chkEs_star h3.2) n3 n1
  | .mt m o es, N, sc, e, X, G, h => by
    simp only [chkE] at h
    replace h := any_inv h
    obtain ⟨⟨oe, x, ap, e1, cp⟩, q, h⟩ := h
    cases rdMeth_inv q
    simp only [Bool.and_eq_true] at h
    obtain ⟨⟨⟨⟨⟨h1, h2⟩, h3⟩, h4⟩, h5⟩, h6⟩ := h
    obtain ⟨a, ea⟩ := chkE_one h4
    have he := (chkEs_ok es G h6).2 a .nil e1 [] ea rfl
    have hst : noStar e1 = true := by simpa using chkEs_star h6
    rw [ea]
    cases m with
    | append =>
      cases str_eq h1
      exact se_mt PySem.F.slot_list_append PySem.F.type_list_append append_ok (chkE_ok o G h5) he hst h2 h3
    | popAt =>
      cases str_eq h1
      exact se_mt PySem.F.slot_list_pop PySem.F.type_list_pop popAt_ok (chkE_ok o G h5) he hst h2 h3
    | count =>
      cases str_eq h1
      exact se_mt PySem.F.slot_list_count PySem.F.type_list_count count_ok (chkE_ok o G h5) he hst h2 h3
  | .mkL l, N, sc, e, X, G, h => by
    simp only [chkE] at h
    split at h
    · rename_i c
      split at h
      · have ht : isTmp l = true := by
          cases l with
          | comp => rfl
          | _ => cases c
        exact PE.imp ((chkL_ok l G h).2.1 ht) fun σ H Qv q => mkC_imp q
      · replace h := any_inv h
        obtain ⟨⟨x, e1⟩, q, h⟩ := h
        obtain ⟨p2, p, rfl⟩ := rdCall1_inv q
        simp only [Bool.and_eq_true] at h
        obtain ⟨⟨⟨hx, h1⟩, h2⟩, h4⟩ := h
        cases str_eq hx
        have hr : isRng l = false := by
          cases l with
          | comp => rfl
          | _ => cases c
        exact se_mkL G (blt_of G h1) ((chkL_ok l G h4).1 hr) h2
    · replace h := any_inv h
      obtain ⟨⟨x, e1⟩, q, h⟩ := h
      obtain ⟨p2, p, rfl⟩ := rdCall1_inv q
      simp only [Bool.and_eq_true, Bool.or_eq_true, Bool.not_eq_true'] at h
      obtain ⟨⟨⟨⟨hx, h1⟩, h2⟩, h3⟩, h4⟩ := h
      cases str_eq hx
      have hl := chkL_ok l G h4
      rcases h3 with h3 | h3
      · exact se_mkL G (blt_of G h1) (hl.1 h3) h2
      · have : ∃ a, l = .rng1 a := by
          cases l with
          | rng1 a => exact ⟨a, rfl⟩
          | _ => cases h3
        obtain ⟨a, ea⟩ := this
        obtain ⟨a', p3, p4, rfl, hr, ha, hs⟩ := hl.2.2.2 a ea
        rw [ea]
        exact se_mkR1 G (blt_of G h1) hr ha hs
  | .mkT l, N, sc, e, X, G, h => by
    simp only [chkE] at h
    replace h := any_inv h
    obtain ⟨⟨x, e1⟩, q, h⟩ := h
    obtain ⟨p2, p, rfl⟩ := rdCall1_inv q
    simp only [Bool.and_eq_true, Bool.not_eq_true'] at h
    obtain ⟨⟨⟨⟨hx, h1⟩, h2⟩, h3⟩, h4⟩ := h
    cases str_eq hx
    exact se_mkT G (blt_of G h1) ((chkL_ok l G h4).1 h3) h2
  | .all l, N, sc, e, X, G, h => by
    simp only [chkE] at h
    replace h := any_inv h
    obtain ⟨⟨x, e1⟩, q, h⟩ := h
    obtain ⟨p2, p, rfl⟩ := rdCall1_inv q
    simp only [Bool.and_eq_true, Bool.not_eq_true'] at h
    obtain ⟨⟨⟨⟨hx, h1⟩, h2⟩, h3⟩, h4⟩ := h
    cases str_eq hx
    exact se_all G (blt_of G h1) ((chkL_ok l G h4).1 h3) h2
theorem chkEs_ok : ∀ (ces : CEs) {N : List Str} {sc : Scope} {es : List Expr} {X : Cx}, Gd T cf k N sc X → chkEs T ces N sc es = true → EsOk cf ces X es
  | .nil, N, sc, es, X, G, h => by
    simp only [chkEs, List.isEmpty_iff] at h
    subst h
    exact ⟨sa_nil, fun a r e es' z => nomatch z⟩
  | .cons a r, N, sc, es, X, G, h => by
    cases es with
    | nil => simp [chkEs] at h
    | cons e es =>
      simp only [chkEs, Bool.and_eq_true] at h
      have he := chkE_ok a G h.1.2
      exact ⟨sa_cons he (chkEs_ok r G h.2).1 h.1.1, fun a' r' e' es' z1 z2 => by cases z1; cases z2; exact he⟩
theorem chkT_ok : ∀ (ce : CE) {N : List Str} {sc : Scope} {e : Expr} {X : Cx}, Gd T cf k N sc X → chkT T ce N sc e = true → PT X e (tT X.K cf ce) ∧ ((∃ op v r p, e = .BoolOp op (v :: r) p) → PW X e (tT X.K cf ce))
  | .cmp op a b, N, sc, e, X, G, h => by
    simp only [chkT] at h
    replace h := any_inv h
    obtain ⟨⟨l, os, rs⟩, q, h⟩ := h
    obtain ⟨p, rfl⟩ := rdCmp_inv q
    rw [Bool.and_eq_true, decide_eq_true_eq] at h
    obtain ⟨e1, h⟩ := h
    replace h := any_inv h
    obtain ⟨r, q2, h⟩ := h
    cases one_inv q2
    cases e1
    simp only [Bool.and_eq_true] at h
    exact ⟨st_cmp G (chkE_ok a G h.1.2) (chkE_ok b G h.2) h.1.1, fun ⟨_, _, _, _, z⟩ => nomatch z⟩
  | .nt a, N, sc, e, X, G, h => by
    simp only [chkT] at h
    replace h := any_inv h
    obtain ⟨⟨o, x⟩, q, h⟩ := h
    obtain ⟨p, rfl⟩ := rdUn_inv q
    simp only [Bool.and_eq_true, decide_eq_true_eq] at h
    obtain ⟨rfl, h1⟩ := h
    exact ⟨st_nt (chkT_ok a G h1).1, fun ⟨_, _, _, _, z⟩ => nomatch z⟩
  | .and a b, N, sc, e, X, G, h => by
    simp only [chkT] at h
    replace h := any_inv h
    obtain ⟨⟨o, vs, p⟩, q, h⟩ := h
    cases rdBool_inv q
    rw [Bool.and_eq_true, decide_eq_true_eq] at h
    obtain ⟨e1, h⟩ := h
    cases e1
    dsimp only at h
    split at h
    · rename_i x y rest
      rw [Bool.and_eq_true] at h
      obtain ⟨h1, h2⟩ := h
      split at h2
      · rename_i c
        cases List.isEmpty_iff.mp c
        have w := st_and (pos := p) (chkT_ok a G h1).1 (pw_and1 (chkT_ok b G h2).1)
        exact ⟨w.pt, fun _ => w⟩
      · have w := st_and (chkT_ok a G h1).1 ((chkT_ok b G h2).2 ⟨_, _, _, _, rfl⟩)
        exact ⟨w.pt, fun _ => w⟩
    · cases h
  | .or a b, N, sc, e, X, G, h => by
    simp only [chkT] at h
    replace h := any_inv h
    obtain ⟨⟨o, vs, p⟩, q, h⟩ := h
    cases rdBool_inv q
    rw [Bool.and_eq_true, decide_eq_true_eq] at h
    obtain ⟨e1, h⟩ := h
    cases e1
    dsimp only at h
    split at h
    · rename_i x y rest
      rw [Bool.and_eq_true] at h
      obtain ⟨h1, h2⟩ := h
      split at h2
      · rename_i c
        cases List.isEmpty_iff.mp c
        have w := st_or (pos := p) (chkT_ok a G h1).1 (pw_or1 (chkT_ok b G h2).1)
        exact ⟨w.pt, fun _ => w⟩
      · have w := st_or (chkT_ok a G h1).1 ((chkT_ok b G h2).2 ⟨_, _, _, _, rfl⟩)
        exact ⟨w.pt, fun _ => w⟩
    · cases h
  | .tst a, N, sc, e, X, G, h => by
    simp only [chkT, Bool.and_eq_true] at h
    exact ⟨st_tst (chkE_ok a G h.2) h.1, fun ⟨_, _, _, _, z⟩ => by rw [z] at h; simp [plainT] at h⟩
  | .loc i, N, sc, e, X, G, h => absurd h Bool.false_ne_true
  | .con d, N, sc, e, X, G, h => absurd h Bool.false_ne_true
  | .bin op a b, N, sc, e, X, G, h => absurd h Bool.false_ne_true
  | .neg a, N, sc, e, X, G, h => absurd h Bool.false_ne_true
  | .ite c a b, N, sc, e, X, G, h => absurd h Bool.false_ne_true
  | .tup es, N, sc, e, X, G, h => absurd h Bool.false_ne_true
  | .lst es, N, sc, e, X, G, h => absurd h Bool.false_ne_true
  | .dnew, N, sc, e, X, G, h => absurd h Bool.false_ne_true
  | .dnewT, N, sc, e, X, G, h => absurd h Bool.false_ne_true
  | .dget1 a b, N, sc, e, X, G, h => absurd h Bool.false_ne_true
  | .dcopy a, N, sc, e, X, G, h => absurd h Bool.false_ne_true
  | .dix a b, N, sc, e, X, G, h => absurd h Bool.false_ne_true
  | .dpop a b, N, sc, e, X, G, h => absurd h Bool.false_ne_true
  | .ix a b, N, sc, e, X, G, h => absurd h Bool.false_ne_true
  | .call f j es, N, sc, e, X, G, h => absurd h Bool.false_ne_true
  | .bi b es, N, sc, e, X, G, h => absurd h Bool.false_ne_true
  | .mt m o es, N, sc, e, X, G, h => absurd h Bool.false_ne_true
  | .mkL l, N, sc, e, X, G, h => absurd h Bool.false_ne_true
  | .mkT l, N, sc, e, X, G, h => absurd h Bool.false_ne_true
  | .all l, N, sc, e, X, G, h => absurd h Bool.false_ne_true
theorem chkL_ok : ∀ (cl : CL) {N : List Str} {sc : Scope} {e : Expr} {X : Cx}, Gd T cf k N sc X → chkL T cl N sc e = true → LOk T cf k cl X e
  | .val a, N, sc, e, X, G, h => by
    simp only [chkL, Bool.and_eq_true] at h
    have hp := sl_val (chkE_ok a G h.2)
    exact ⟨fun _ => hp, fun z => (by cases z), fun tg _ => si_seq hp lk_val, fun a z => nomatch z⟩
  | .rng1 a, N, sc, e, X, G, h => by
    simp only [chkL] at h
    replace h := any_inv h
    obtain ⟨⟨x, e1⟩, q, h⟩ := h
    obtain ⟨p2, p, rfl⟩ := rdCall1_inv q
    simp only [Bool.and_eq_true] at h
    obtain ⟨⟨⟨hx, h1⟩, h2⟩, h3⟩ := h
    cases str_eq hx
    have he := chkE_ok a G h3
    exact ⟨fun z => (by cases z), fun z => (by cases z), fun tg _ => si_rng1 (blt_of G h1) he h2, fun a z => by cases z; exact ⟨e1, p2, p, rfl, blt_of G h1, he, h2⟩⟩
  | .comp nt js g it c e, N, sc, ex, X, G, h => by
    simp only [chkL] at h
    replace h := any_inv h
    obtain ⟨⟨elt, gs, scope, p⟩, q, h⟩ := h
    cases rdLC_inv q
    replace h := any_inv h
    obtain ⟨⟨tg, iter, ifs, asy⟩, q2, h⟩ := h
    cases one_inv q2
    rw [Bool.and_eq_true, Bool.and_eq_true, Bool.and_eq_true, Bool.and_eq_true, Bool.and_eq_true, Bool.and_eq_true, Bool.and_eq_true, Bool.and_eq_true, decide_eq_true_eq, decide_eq_true_eq, decide_eq_true_eq] at h
    obtain ⟨⟨⟨⟨⟨⟨⟨⟨h1, h2⟩, h3⟩, h4⟩, h5⟩, h6⟩, h7⟩, h8⟩, h9⟩ := h
    dsimp only at h1 h2 h3 h4 h5 h6 h7 h8 h9
    rw [Bool.and_eq_true] at h3
    subst h1 h5
    have ok := compB_ok G h2
    have G' := gd_comp G (tgs := tgsOf tg) ok h6
    have ht : ∀ cl C fp s H pn, PTs (cxComp X (capN X.N (tgsOf tg) js) scope cl C fp s H pn) ifs (tT X.K cf c) := fun cl C fp s H pn => by
      split at h8
      · rename_i ce
        cases List.isEmpty_iff.mp ce
        exact trueT_ok (X := cxComp X (capN X.N (tgsOf tg) js) scope cl C fp s H pn) h8
      · replace h8 := any_inv h8
        obtain ⟨t, q3, h8⟩ := h8
        cases one_inv q3
        exact pts_one (chkT_ok c (G' cl C fp s H pn) h8).1
    have hp : PE X (.ListComp elt [⟨tg, iter, ifs, 0⟩] scope p) (tLt X.K cf (.comp (tgsOf tg).length js g it c e)) :=
      PE.imp (pe_lcomp X.env.scope (tgsOf tg) js G.calm rfl ok ((chkL_ok it G h4).2.2.1 tg (by rw [h3.2, Bool.or_true])) (fun cl C fp s H pn => tg_ok (G' cl C fp s H pn) h7) ht (fun cl C fp s H pn => chkE_ok e (G' cl C fp s H pn) h9) (fold_of h3.1 X.env)) fun σ H Qv q => comp_imp G.tab.frm q
    exact ⟨fun _ => (PE.ofT hp), fun _ => hp, fun tg _ => si_seq (PE.ofT hp) lk_comp, fun a z => nomatch z⟩
end
end
end R

end
section
set_option maxHeartbeats 4000000
namespace R
open PySem PySem.Spec PyProof.Rows L2
variable [Mks]
section
variable {T : Tab} {cf : CF} {k : Nat}
/-- name = a comprehension -/
theorem ss_comp {N : List Str} {sc : Scope} {X : Cx} {rest : List Stmt} {p pos p2 : Pos} (G : Gd T cf k N sc X) {i : Nat} {x : Str} {l : CL} {elt : Expr} {gs : List Comprehension} {scope : Scope} {r : CS} (hi : N[i]? = some x) (hl : isLoc sc x = true) (h : chkE T (.mkL l) N sc (.ListComp elt gs scope p2) = true) (hr : PSs X rest (tS X.K cf r)) :
    PSs X (.Assign [.Name x p] (.ListComp elt gs scope p2) pos :: rest) (tS X.K cf (.asg i (.mkL l) r)) := by
  have hw : ∃ b, swapsWith (.ListComp elt gs scope p2) (some (.Name x p)) pos.line X.env = pure b := ⟨_, rfl⟩
  obtain ⟨b, hw⟩ := hw
  cases b with
  | false =>
    refine PSs.imp (pss_cons (ps_set (i := i) (by rw [G.nm]; exact G.nd) (by rw [G.nm]; exact hi) (G.lc hl).1 (chkE_ok (.mkL l) G h) hw (G.lc hl).2) hr) fun E σ H ⟨δ, ι, S, Q, hs, hh, w, lf⟩ => ?_
    simp only [exS, W_bind] at w
    refine tE.run hs hh w fun d v ι1 H1 S1 x1 hs1 hh1 r1 w1 => ?_
    exact ⟨δ.set i (some d), ι1, S1, Q, hs1.set r1 i, hh1, w1, lf.up x1⟩
  | true =>
    simp only [chkE] at h
    split at h
    · rename_i c0
      split at h
      · cases l with
        | comp nt js g it c e =>
          simp only [chkL] at h
          replace h := any_inv h
          obtain ⟨⟨elt', gs', scope', p'⟩, q, h⟩ := h
          cases rdLC_inv q
          replace h := any_inv h
          obtain ⟨⟨tg, iter, ifs, asy⟩, q2, h⟩ := h
          cases one_inv q2
          rw [Bool.and_eq_true, Bool.and_eq_true, Bool.and_eq_true, Bool.and_eq_true, Bool.and_eq_true, Bool.and_eq_true, Bool.and_eq_true, Bool.and_eq_true, decide_eq_true_eq, decide_eq_true_eq, decide_eq_true_eq] at h
          obtain ⟨⟨⟨⟨⟨⟨⟨⟨h1, h2⟩, h3⟩, h4⟩, h5⟩, h6⟩, h7⟩, h8⟩, h9⟩ := h
          dsimp only at h1 h2 h3 h4 h5 h6 h7 h8 h9
          rw [Bool.and_eq_true] at h3
          subst h1 h5
          have ok := compB_ok G h2
          have G' := gd_comp G (tgs := tgsOf tg) ok h6
          have ht : ∀ cl C fp s H pn, PTs (cxComp X (capN X.N (tgsOf tg) js) scope cl C fp s H pn) ifs (tT X.K cf c) := fun cl C fp s H pn => by
            split at h8
            · rename_i ce
              cases List.isEmpty_iff.mp ce
              exact trueT_ok (X := cxComp X (capN X.N (tgsOf tg) js) scope cl C fp s H pn) h8
            · replace h8 := any_inv h8
              obtain ⟨t, q3, h8⟩ := h8
              cases one_inv q3
              exact pts_one (chkT_ok c (G' cl C fp s H pn) h8).1
          have he : ∀ cl C fp s H pn, PE (cxComp X (capN X.N (tgsOf tg) js) scope cl C fp s H pn) elt (tE X.K cf e) := fun cl C fp s H pn => chkE_ok e (G' cl C fp s H pn) h9
          have hg : ∀ cl C fp s H pn, PG (cxComp X (capN X.N (tgsOf tg) js) scope cl C fp s H pn) tg (tG X.K g) := fun cl C fp s H pn => tg_ok (G' cl C fp s H pn) h7
          have hps := ps_setC (spos := pos) (py := p) (pos := p2) X.env.scope (tgsOf tg) js (i := i) (y := x) (by rw [G.nm]; exact G.nd) (by rw [G.nm]; exact hi) (G.lc hl).1 G.calm rfl ok ((chkL_ok it G h4).2.2.1 tg (by rw [h3.2, Bool.or_true])) hg ht he hw (fold_of h3.1 X.env) (G.lc hl).2
          exact ss_asgC G hi ⟨_, hps, fun σ H Qv q => comp_imp G.tab.frm (mkC_imp q)⟩ hr
        | _ => cases c0
      · cases h
    · cases h
theorem comp_is {v : Expr} (h : notComp v = false) {e : CE} {N : List Str} {sc : Scope} (hc : chkE T e N sc v = true) : ∃ l elt gs scope p, v = .ListComp elt gs scope p ∧ e = .mkL l := by
  cases v with
  | ListComp elt gs scope p =>
    cases e with
    | mkL l => exact ⟨l, elt, gs, scope, p, rfl, rfl⟩
    | _ => simp [chkE, rdName, rdConst, rdBin, rdUn, rdCmp, rdBool, rdIf, rdTup, rdList, rdDict0, rdSub, rdCallN, rdCall1, rdCall, rdMeth] at hc
  | SetComp => cases e <;> simp [chkE, rdName, rdConst, rdBin, rdUn, rdCmp, rdBool, rdIf, rdTup, rdList, rdDict0, rdSub, rdCallN, rdCall1, rdCall, rdMeth, rdLC, chkL] at hc
  | DictComp => cases e <;> simp [chkE, rdName, rdConst, rdBin, rdUn, rdCmp, rdBool, rdIf, rdTup, rdList, rdDict0, rdSub, rdCallN, rdCall1, rdCall, rdMeth, rdLC, chkL] at hc
  | _ => cases h
theorem chkS_ok : ∀ (cs : CS) {N : List Str} {sc : Scope} {st : List Stmt} {X : Cx}, Gd T cf k N sc X → chkS T cs N sc st = true → PSs X st (tS X.K cf cs)
  | .nil, N, sc, st, X, G, h => by
    simp only [chkS, List.isEmpty_iff] at h
    subst h
    exact ss_nil
  | .asg i e r, N, sc, st, X, G, h => by
    cases st with
    | nil => simp [chkS] at h
    | cons s rest =>
      simp only [chkS] at h
      replace h := any_inv h
      obtain ⟨⟨tg, v, pos⟩, q, h⟩ := h
      cases rdAsg_inv q
      replace h := any_inv h
      obtain ⟨x, q2, h⟩ := h
      obtain ⟨p, hx⟩ := rdName_inv q2
      dsimp only at hx
      subst hx
      simp only [Bool.and_eq_true, beq_iff_eq] at h
      obtain ⟨⟨⟨h1, h2⟩, h3⟩, h4⟩ := h
      have hr := chkS_ok r G h4
      cases hn : notComp v with
      | true => exact ss_asg G h1 h2 (chkE_ok e G h3) hn hr
      | false =>
        obtain ⟨l, elt, gs, scope, p2, rfl, rfl⟩ := comp_is hn h3
        exact ss_comp G h1 h2 h3 hr
  | .setIx a b e r, N, sc, st, X, G, h => by
    cases st with
    | nil => simp [chkS] at h
    | cons s rest =>
      simp only [chkS] at h
      replace h := any_inv h
      obtain ⟨⟨tg, v, pos⟩, q, h⟩ := h
      cases rdAsg_inv q
      replace h := any_inv h
      obtain ⟨⟨o, i⟩, q2, h⟩ := h
      obtain ⟨p, hx⟩ := rdSub_inv q2
      dsimp only at hx
      subst hx
      simp only [Bool.and_eq_true] at h
      obtain ⟨⟨⟨⟨h1, h2⟩, h3⟩, h4⟩, h5⟩ := h
      exact ss_setIx G (chkE_ok a G h2) (chkE_ok b G h3) (chkE_ok e G h4) h1 (chkS_ok r G h5)
  | .whl c b r, N, sc, st, X, G, h => by
    cases st with
    | nil => simp [chkS] at h
    | cons s rest =>
      simp only [chkS] at h
      replace h := any_inv h
      obtain ⟨⟨e, body⟩, q, h⟩ := h
      obtain ⟨p, rfl⟩ := rdWhl_inv q
      simp only [Bool.and_eq_true] at h
      exact ss_whl G (chkT_ok c G h.1.1).1 (chkS_ok b G h.1.2) (chkS_ok r G h.2)
  | .ifS c t u r, N, sc, st, X, G, h => by
    cases st with
    | nil => simp [chkS] at h
    | cons s rest =>
      simp only [chkS] at h
      replace h := any_inv h
      obtain ⟨⟨e, a, b⟩, q, h⟩ := h
      obtain ⟨p, rfl⟩ := rdIfS_inv q
      simp only [Bool.and_eq_true] at h
      exact ss_if (chkT_ok c G h.1.1.1).1 (chkS_ok t G h.1.1.2) (chkS_ok u G h.1.2) (chkS_ok r G h.2)
  | .forS g l b r, N, sc, st, X, G, h => by
    cases st with
    | nil => simp [chkS] at h
    | cons s rest =>
      simp only [chkS] at h
      replace h := any_inv h
      obtain ⟨⟨tg, it, body⟩, q, h⟩ := h
      obtain ⟨p, rfl⟩ := rdFor_inv q
      simp only [Bool.and_eq_true] at h
      obtain ⟨⟨⟨⟨h1, h2⟩, h3⟩, h4⟩, h5⟩ := h
      exact ss_for G ((chkL_ok l G h2).2.2.1 tg h5.2) (tg_ok G h5.1) (chkS_ok b G h3) h1 (chkS_ok r G h4)
  | .ret e r, N, sc, st, X, G, h => by
    cases st with
    | nil => simp [chkS] at h
    | cons s rest =>
      simp only [chkS] at h
      replace h := any_inv h
      obtain ⟨v, q, h⟩ := h
      obtain ⟨p, rfl⟩ := rdRet_inv q
      simp only [Bool.and_eq_true] at h
      exact ss_ret (chkE_ok e G h.1) (chkS_ok r G h.2)
  | .expr e r, N, sc, st, X, G, h => by
    cases st with
    | nil => simp [chkS] at h
    | cons s rest =>
      simp only [chkS] at h
      replace h := any_inv h
      obtain ⟨v, q, h⟩ := h
      obtain ⟨p, rfl⟩ := rdExp_inv q
      simp only [Bool.and_eq_true] at h
      exact ss_expr (chkE_ok e G h.1.2) h.1.1 (chkS_ok r G h.2)
/-! ### defs -/
theorem RS.start {K : PySem.W.Frag} {ι : List Addr} {H : Hp} {F : Fn} {N : List Str} {ds : List D} {vs : List V} (r : RVs K ι H ds vs) (hl : ds.length = F.np) (hn : F.nn = N.length) : RS K ι H (startE F ds) (L2.start N vs) := by
  have hlen := r.length
  refine ⟨by simp [startE, L2.start, hlen, hl, hn], fun i d e => ?_⟩
  unfold startE at e
  unfold L2.start
  by_cases hi : i < ds.length
  · rw [List.getElem?_append_left (by simpa using hi), List.getElem?_map] at e
    rw [List.getElem?_append_left (by simpa [hlen] using hi), List.getElem?_map]
    cases z : ds[i]? with
    | none => rw [z] at e; cases e
    | some d' =>
      rw [z] at e
      simp only [Option.map_some, Option.some.injEq] at e
      subst e
      obtain ⟨v, ev, rv⟩ := r.get z
      exact ⟨v, by rw [ev]; rfl, rv⟩
  · rw [List.getElem?_append_right (by simpa using hi), List.getElem?_replicate] at e
    split at e <;> cases e
/-- a def of the text -/
structure DefOk (K : PySem.W.Frag) (mg : Str → Option Value) (T : Tab) (Pg : List Fn) (fi : Nat) (x : Str) (ps : List Str) (nd : Nat) : Prop where
  ex : ∃ (F : Fn) (qual : Str) (st : Stmt) (dV : Value) (f : Addr) (fd : FuncData) (N : List Str), Pg[fi]? = some F ∧ F.prim = none ∧ FunV K x qual st dV f fd ∧ FnScope N ps (defScope st) ∧ chkS T F.body N (defScope st) (defBody st) = true ∧ F.np = ps.length ∧ F.nn = N.length ∧
    mg x = some (.ref f) ∧ ∀ j, j ≤ nd → Binds K fd ps (List.replicate j Value.none)
theorem prm_frm {S : R.St} {p : Prim} {ds : List D} {d : D} {T' : R.St} (h : prm S p ds = .ok d T') : Frm S T' := by
  unfold prm at h
  split at h
  · split at h
    · split at h
      · split at h
        · injection h with _ h2; rw [← h2]; exact Frm.push _ _
        · cases h
      · cases h
    · cases h
  · cases h
theorem frm_callF (Pg : List Fn) : ∀ n : Nat, CFok (callF Pg n)
  | 0, f, ds, S, d, T', h => by cases h
  | n + 1, f, ds, S, d, T', h => by
    simp only [callF] at h
    cases e : Pg[f]? with
    | none => rw [e] at h; cases h
    | some F =>
      rw [e] at h
      dsimp only at h
      split at h
      · cases ep : F.prim with
        | some p =>
          rw [ep] at h
          dsimp only at h
          split at h
          · exact prm_frm h
          · cases h
        | none =>
        rw [ep] at h
        dsimp only at h
        cases ex : exS (callF Pg n) F.body (startE F ds) S with
        | ok r T2 =>
          rw [ex] at h
          have hf := exS_F (cf := callF Pg n) (frm_callF Pg n) F.body (startE F ds) S (fun r' T3 => r' = r ∧ T3 = T2) (by rw [ex]; exact ⟨rfl, rfl⟩)
          rw [ex] at hf
          cases r with
          | nx δ => injection h with _ h2; rw [← h2]; exact hf.2
          | rt z => injection h with _ h2; rw [← h2]; exact hf.2
        | err z T2 => rw [ex] at h; cases h
        | bad => rw [ex] at h; cases h
      · cases h
variable {P : Program} {w : World} {K : PySem.W.Frag} {mg : Str → Option Value} {base : Heap} {Pg : List Fn}
theorem Vals.nons : ∀ j : Nat, Vals (List.replicate j .non) (List.replicate j Value.none)
  | 0 => .nil
  | j + 1 => .cons rfl (Vals.nons j)
theorem spF_len {n fi : Nat} {F : Fn} {ps : List Str} (hP : Pg[fi]? = some F) (hp : F.np = ps.length) {vs : List V} {H : Hp} {Q : VK} {E : XK} (h : spF K (callF Pg n) fi vs H Q E) : vs.length = ps.length := by
  obtain ⟨ι, S, ds, r, hh, w⟩ := h
  rw [r.length]
  cases n with
  | zero => exact w.elim
  | succ n =>
    simp only [callF, hP] at w
    split at w
    · rename_i c; rw [c, hp]
    · exact w.elim
/-- a def by the table of the level below -/
theorem def_ok {n fi : Nat} {x qual : Str} {st : Stmt} {dV : Value} {f : Addr} {fd : FuncData} {N ps : List Str} {F : Fn} (tab : TabOk T (callF Pg n) n P w K mg base) (FV : FunV K x qual st dV f fd) (hP : Pg[fi]? = some F) (S : FnScope N ps (defScope st)) (ck : chkS T F.body N (defScope st) (defBody st) = true) (hp : F.np = ps.length) (hn : F.nn = N.length) (hq : F.prim = none := by rfl) :
    FnOk P w K mg base CX0 (n + 1) f fd ps (spF K (callF Pg (n + 1)) fi) := by
  refine FV.ok S (fun vs H Q E h => spF_len hP hp h) fun cdv A outer s H vs Q E hr h => ?_
  obtain ⟨ι, S0, ds, r, hh, hw⟩ := h
  have G : Gd T (callF Pg n) n N (defScope st) (cxOf CX0 P w K mg base N qual (defScope st) f cdv A outer s H E).nox :=
    ⟨rfl, S.nd, fun x e => e, fun x e => e, fun x e => .inl e, fun x e => e, .inl fun _ => rfl, rfl, rfl, hr, tab⟩
  refine ⟨_, chkS_ok F.body G ck, ?_⟩
  simp only [callF, hP, hq] at hw
  split at hw
  · rename_i c
    rw [W_bind] at hw
    refine ⟨startE F ds, ι, S0, _, RS.start r c hn, hh, hw, ?_⟩
    intro fl ι' H' S' x' hh' q
    cases fl with
    | nx δ' => exact fun σ' hs' => q .non H' ι' x' rfl hh'
    | rt d => exact fun v rv => q v H' ι' x' rv hh'
  · exact hw.elim
/-- a def that is taken as a whole -/
structure PrimOk (P : Program) (w : World) (K : PySem.W.Frag) (mg : Str → Option Value) (base : Heap) (Pg : List Fn) (fi : Nat) (x : Str) (ps : List Str) (nd : Nat) : Prop where
  ex : ∃ (F : Fn) (p : Prim) (f : Addr) (fd : FuncData), Pg[fi]? = some F ∧ F.prim = some p ∧ F.np = ps.length ∧ mg x = some (.ref f) ∧ PySem.W.keepIn K (.ref f) = true ∧ (∀ j, j ≤ nd → Binds K fd ps (List.replicate j Value.none)) ∧
    ∀ n, 3 ≤ n → FnOk P w K mg base CX0 (n + 1) f fd ps (spF K (callF Pg (n + 1)) fi)
theorem tab_ok (hb : ∀ x, T.blt.contains x = true → mg x = none) (hc : ∀ x d, T.cons.lookup x = some d → scalD d = true ∧ ∃ u, mg x = some u ∧ RelV (sV d) u) (hd : ∀ fi x ps nd, T.fns[fi]? = some (x, ps, nd) → DefOk K mg T Pg fi x ps nd ∨ PrimOk P w K mg base Pg fi x ps nd) :
    ∀ n, TabOk T (callF Pg n) n P w K mg base := by
  intro n
  induction n with
  | zero =>
    refine ⟨hb, hc, fun fi x ps nd hf j hj => ?_, frm_callF Pg 0⟩
    rcases hd fi x ps nd hf with z | z
    · obtain ⟨F, qual, st, dV, f, fd, N, hP, hq, FV, S, ck, hp, hn, hm, hbd⟩ := z.ex
      refine ⟨f, fd, _, ⟨fun vs H Q E h => spF_len hP hp h, fun A outer s H args us vs Q E hr e0 b v h => ?_⟩, hm, FV.kp, hbd j hj, Vals.nons j⟩
      obtain ⟨ι, S, ds, r, hh, w⟩ := h
      exact w.elim
    · obtain ⟨F, p, f, fd, hP, hq, hp, hm, kp, hbd, ok⟩ := z.ex
      refine ⟨f, fd, _, ⟨fun vs H Q E h => spF_len hP hp h, fun A outer s H args us vs Q E hr e0 b v h => ?_⟩, hm, kp, hbd j hj, Vals.nons j⟩
      obtain ⟨ι, S, ds, r, hh, w⟩ := h
      exact w.elim
  | succ n ih =>
    refine ⟨hb, hc, fun fi x ps nd hf j hj => ?_, frm_callF Pg (n + 1)⟩
    rcases hd fi x ps nd hf with z | z
    · obtain ⟨F, qual, st, dV, f, fd, N, hP, hq, FV, S, ck, hp, hn, hm, hbd⟩ := z.ex
      refine ⟨f, fd, _, ?_, hm, FV.kp, hbd j hj, Vals.nons j⟩
      exact def_ok ih FV hP S ck hp hn hq
    · obtain ⟨F, p, f, fd, hP, hq, hp, hm, kp, hbd, ok⟩ := z.ex
      refine ⟨f, fd, _, ?_, hm, kp, hbd j hj, Vals.nons j⟩
      by_cases c : 3 ≤ n
      · exact ok n c
      · refine ⟨fun vs H Q E h => spF_len hP hp h, fun A outer s H args us vs Q E hr e0 b v h => ?_⟩
        obtain ⟨ι, S, ds, r, hh, w⟩ := h
        simp only [callF, hP, hq, c, if_false] at w
        split at w <;> exact w.elim
/-- the law, by the interpreter -/
theorem law_spT {k fi : Nat} {K : PySem.W.Frag} {H : Hp} {a : Addr} {ns : List Int} (hx : FixL K H a (ns.map V.int)) (tb : TB H)
    (law : W (callF Pg k fi [.fix (ns.map .int)] ⟨[], [], []⟩) fun d _ => d = .bl true) : spF K (callF Pg k) fi [.ref a] H (fun v _ => v = .bl true) fun _ _ _ => False := by
  refine ⟨[], ⟨[], [], []⟩, [.fix (ns.map .int)], ⟨.ref a, [], rfl, ⟨a, _, rfl, hx, RVs.ints ns⟩, rfl⟩, ⟨rfl, List.nodup_nil, fun l o e => (by simp [St.get] at e), tb⟩, ?_⟩
  obtain ⟨d, T', e, q⟩ := W_ok' law
  rw [e]
  intro v H' ι' x r hT
  subst q
  exact r
end
end R

end
section
/-! What the sort asks, and what comes out, where no two keys are alike. -/
namespace R
open PySem PySem.W PyProof.Rows
section
variable {n : Nat} {r : Nat → Int} {cmp : Nat → Nat → (Bool → Shared → Prop) → Shared → Prop} {s : Shared}
/-- the places of a row that holds 0 .. n - 1 -/
abbrev GP (n : Nat) (p : Array Nat) : Prop := p.Perm (List.range n).toArray
def kAt (r : Nat → Int) (p : Array Nat) (i : Nat) : Int := r (p.getD i 0)
def AscTo (r : Nat → Int) (p : Array Nat) (k : Nat) : Prop := ∀ i j, i < j → j < k → kAt r p i < kAt r p j
def DescTo (r : Nat → Int) (p : Array Nat) (k : Nat) : Prop := ∀ i j, i < j → j < k → kAt r p j < kAt r p i
theorem GP.size {p : Array Nat} (h : GP n p) : p.size = n := by
  have := h.size_eq
  simpa using this
theorem GP.list {p : Array Nat} (h : GP n p) : p.toList.Perm (List.range n) := by
  have := Array.perm_iff_toList_perm.mp h
  simpa using this
theorem getD_list (p : Array Nat) {i : Nat} (hi : i < p.size) : p.getD i 0 = p.toList[i]'(by simpa using hi) := by
  simp [Array.getD, hi]
theorem GP.lt {p : Array Nat} (h : GP n p) {i : Nat} (hi : i < n) : p.getD i 0 < n := by
  have hs := h.size
  rw [getD_list p (by omega)]
  exact List.mem_range.mp (h.list.mem_iff.mp (List.getElem_mem _))
theorem GP.inj {p : Array Nat} (h : GP n p) (hr : ∀ i j, i < n → j < n → r i = r j → i = j) {i j : Nat} (hi : i < n) (hj : j < n) (e : kAt r p i = kAt r p j) : i = j := by
  have e' := hr _ _ (h.lt hi) (h.lt hj) e
  have hs := h.size
  rw [getD_list p (by omega), getD_list p (by omega)] at e'
  have nd : p.toList.Nodup := h.list.nodup_iff.mpr List.nodup_range
  have pw := List.pairwise_iff_getElem.mp nd
  rcases Nat.lt_trichotomy i j with z | z | z
  · exact absurd e' (pw i j _ _ z)
  · exact z
  · exact absurd e'.symm (pw j i _ _ z)
theorem GP.tri {p : Array Nat} (h : GP n p) (hr : ∀ i j, i < n → j < n → r i = r j → i = j) {i j : Nat} (hi : i < n) (hj : j < n) (ne : i ≠ j) (c : ¬ kAt r p i < kAt r p j) : kAt r p j < kAt r p i := by
  have : kAt r p i ≠ kAt r p j := fun e => ne (h.inj hr hi hj e)
  omega
theorem AscTo.snoc {p : Array Nat} {k : Nat} (h : AscTo r p k) (h1 : 1 ≤ k) (c : kAt r p (k - 1) < kAt r p k) : AscTo r p (k + 1) := by
  intro i j hij hj
  by_cases e : j < k
  · exact h i j hij e
  · have : j = k := by omega
    subst this
    by_cases e' : i = j - 1
    · subst e'; exact c
    · have := h i (j - 1) (by omega) (by omega)
      omega
theorem DescTo.snoc {p : Array Nat} {k : Nat} (h : DescTo r p k) (h1 : 1 ≤ k) (c : kAt r p k < kAt r p (k - 1)) : DescTo r p (k + 1) := by
  intro i j hij hj
  by_cases e : j < k
  · exact h i j hij e
  · have : j = k := by omega
    subst this
    by_cases e' : i = j - 1
    · subst e'; exact c
    · have := h i (j - 1) (by omega) (by omega)
      omega

variable (hr : ∀ i j, i < n → j < n → r i = r j → i = j) (hc : ∀ i j (C : Bool → Shared → Prop), i < n → j < n → C (decide (r i < r j)) s → cmp i j C s)
include hr hc
theorem asc_wp {p : Array Nat} (g : GP n p) {Q : Nat → Shared → Prop} : ∀ (f a : Nat), 1 ≤ a → a + f ≤ n → AscTo r p a →
    (∀ m, a ≤ m → m ≤ a + f → AscTo r p m → (m = a + f ∨ kAt r p m < kAt r p (m - 1)) → Q m s) → (kas_asc p f a).kasWp cmp Q s
  | 0, a, _, _, h, q => q a (Nat.le_refl _) (Nat.le_refl _) h (.inl rfl)
  | f + 1, a, h1, h2, h, q => by
    refine hc _ _ _ (g.lt (by omega)) (g.lt (by omega)) ?_
    by_cases c : kAt r p a < kAt r p (a - 1)
    · have e : decide (r (p.getD a 0) < r (p.getD (a - 1) 0)) = true := decide_eq_true c
      show (if decide (r (p.getD a 0) < r (p.getD (a - 1) 0)) = true then KasT.ret a else kas_asc p f (a + 1)).kasWp cmp Q s
      rw [if_pos e]
      exact q a (Nat.le_refl _) (by omega) h (.inr c)
    · have e : ¬ decide (r (p.getD a 0) < r (p.getD (a - 1) 0)) = true := fun z => c (of_decide_eq_true z)
      show (if decide (r (p.getD a 0) < r (p.getD (a - 1) 0)) = true then KasT.ret a else kas_asc p f (a + 1)).kasWp cmp Q s
      rw [if_neg e]
      refine asc_wp g f (a + 1) (by omega) (by omega) (h.snoc h1 (g.tri hr (by omega) (by omega) (by omega) c)) fun m m1 m2 m3 m4 => q m (by omega) (by omega) m3 ?_
      rcases m4 with z | z
      · exact .inl (by omega)
      · exact .inr z
theorem desc_wp {p : Array Nat} (g : GP n p) {Q : Array Nat × Nat × Nat → Shared → Prop} : ∀ (f a : Nat), 1 ≤ a → a + f ≤ n → DescTo r p a →
    (∀ m, a ≤ m → m ≤ a + f → DescTo r p m → Q (p, m, 0) s) → (kas_desc f p a 0).kasWp cmp Q s
  | 0, a, _, _, h, q => q a (Nat.le_refl _) (Nat.le_refl _) h
  | f + 1, a, h1, h2, h, q => by
    refine hc _ _ _ (g.lt (by omega)) (g.lt (by omega)) ?_
    by_cases c : kAt r p a < kAt r p (a - 1)
    · have e : decide (r (p.getD a 0) < r (p.getD (a - 1) 0)) = true := decide_eq_true c
      rw [e]
      show (kas_desc f p (a + 1) 0).kasWp cmp Q s
      exact desc_wp g f (a + 1) (by omega) (by omega) (h.snoc h1 c) fun m m1 m2 m3 => q m (by omega) (by omega) m3
    · have e : decide (r (p.getD a 0) < r (p.getD (a - 1) 0)) = false := decide_eq_false c
      rw [e]
      refine hc _ _ _ (g.lt (by omega)) (g.lt (by omega)) ?_
      have c' := g.tri hr (by omega) (by omega) (by omega) c
      have e' : decide (r (p.getD (a - 1) 0) < r (p.getD a 0)) = true := decide_eq_true c'
      rw [e']
      exact q a (Nat.le_refl _) (by omega) h
omit hr hc in
theorem GP.rev {p : Array Nat} (g : GP n p) (i j : Nat) : GP n (kas_rev p i j) := (mirror_perm _ _ _ _).trans g
omit hr hc in
theorem kAt_rev {p : Array Nat} (g : GP n p) {m i : Nat} (hm : m ≤ n) (hi : i < m) : kAt r (kas_rev p 0 m) i = kAt r p (m - 1 - i) := by
  have hs := g.size
  have e := getElem?_mirror_all (xs := p) (i := 0) (j := m) (by omega) i
  unfold kAt kas_rev
  congr 1
  have a1 : (mirror p 0 m ((m - 0) / 2)).getD i 0 = ((mirror p 0 m ((m - 0) / 2))[i]?).getD 0 := by simp [Array.getD_eq_getD_getElem?]
  have a2 : p.getD (m - 1 - i) 0 = (p[m - 1 - i]?).getD 0 := by simp [Array.getD_eq_getD_getElem?]
  rw [a1, a2]
  congr 1
  rw [e]
  have h1 : 0 ≤ i ∧ i < m := ⟨Nat.zero_le _, hi⟩
  simp [h1, hi]
  try (congr 1; omega)
omit hr hc in
theorem DescTo.rev {p : Array Nat} {m : Nat} (g : GP n p) (hm : m ≤ n) (h : DescTo r p m) : AscTo r (kas_rev p 0 m) m := by
  intro i j hij hj
  rw [kAt_rev g hm (by omega), kAt_rev g hm hj]
  exact h _ _ (by omega) (by omega)
theorem count_wp {p : Array Nat} (g : GP n p) (h1 : 1 ≤ n) {Q : Nat × Array Nat → Shared → Prop} (q : ∀ m p', 1 ≤ m → m ≤ n → GP n p' → AscTo r p' m → Q (m, p') s) : (kas_count n p).kasWp cmp Q s := by
  unfold kas_count
  rw [KasT.kasWp_bind]
  refine asc_wp hr hc g (n - 1) 1 (Nat.le_refl _) (by omega) (fun i j _ _ => by omega) fun m m1 m2 m3 m4 => ?_
  by_cases e : m = n
  · subst e
    simp only [beq_self_eq_true, if_true]
    exact q m p m1 (Nat.le_refl _) g m3
  · rw [if_neg (by simpa using e)]
    have c := m4.resolve_left (by omega)
    by_cases e1 : m > 1
    · have := m3 (m - 1 - 1) (m - 1) (by omega) (by omega)
      rw [if_pos e1]
      refine hc _ _ _ (g.lt (by omega)) (g.lt (by omega)) ?_
      have c1 : kAt r p 0 < kAt r p (m - 1) := m3 0 (m - 1) (by omega) (by omega)
      have e2 : decide (r (p.getD 0 0) < r (p.getD (m - 1) 0)) = true := decide_eq_true c1
      rw [e2]
      exact q m p m1 (by omega) g m3
    · rw [if_neg e1]
      have e2 : m = 1 := by omega
      subst e2
      unfold kas_descPart
      rw [KasT.kasWp_bind]
      have d2 : DescTo r p (1 + 1) := by
        intro i j hij hj
        have : i = 0 ∧ j = 1 := by omega
        obtain ⟨rfl, rfl⟩ := this
        exact c
      refine desc_wp hr hc g (n - (1 + 1)) (1 + 1) (by omega) (by omega) d2 fun k k1 k2 k3 => ?_
      show (kas_tail3 k n p).kasWp cmp Q s
      unfold kas_tail3
      rw [KasT.kasWp_bind]
      refine asc_wp hr hc (g.rev 0 k) (n - k) k (by omega) (by omega) (k3.rev g (by omega)) fun j j1 j2 j3 _ => ?_
      exact q j _ (by omega) (by omega) (g.rev 0 k) j3
theorem place_wp {p : Array Nat} (g : GP n p) {k : Nat} (hk : k < n) (ha : AscTo r p k) {Q : Nat → Shared → Prop} : ∀ (f l t : Nat), l ≤ t → t ≤ k → t - l ≤ f → (∀ i, i < l → kAt r p i < kAt r p k) → (∀ i, t ≤ i → i < k → kAt r p k < kAt r p i) →
    (∀ l, l ≤ k → (∀ i, i < l → kAt r p i < kAt r p k) → (∀ i, l ≤ i → i < k → kAt r p k < kAt r p i) → Q l s) → (kas_place p k f l t).kasWp cmp Q s
  | 0, l, t, h1, h2, h3, a, b, q => q l (by omega) a fun i hi hik => b i (by omega) hik
  | f + 1, l, t, h1, h2, h3, a, b, q => by
    unfold kas_place
    by_cases e : l ≥ t
    · rw [if_pos e]
      exact q l (by omega) a fun i hi hik => b i (by omega) hik
    · rw [if_neg e]
      refine hc _ _ _ (g.lt hk) (g.lt (by omega)) ?_
      by_cases c : kAt r p k < kAt r p ((l + t) / 2)
      · have e' : decide (r (p.getD k 0) < r (p.getD ((l + t) / 2) 0)) = true := decide_eq_true c
        rw [e']
        refine place_wp g hk ha f l ((l + t) / 2) (by omega) (by omega) (by omega) a (fun i hi hik => ?_) q
        by_cases z : i = (l + t) / 2
        · rw [z]; exact c
        · have := ha ((l + t) / 2) i (by omega) hik
          omega
      · have e' : decide (r (p.getD k 0) < r (p.getD ((l + t) / 2) 0)) = false := decide_eq_false c
        rw [e']
        have c' := g.tri hr hk (by omega) (by omega) c
        refine place_wp g hk ha f ((l + t) / 2 + 1) t (by omega) h2 (by omega) (fun i hi => ?_) b q
        by_cases z : i = (l + t) / 2
        · rw [z]; exact c'
        · have := ha i ((l + t) / 2) (by omega) (by omega)
          omega
omit hr hc in
theorem kAt_bubble {p : Array Nat} (g : GP n p) {k l : Nat} (hk : k < n) (hl : l ≤ k) (i : Nat) : kAt r (bubble p k (k - l)) i = if i = l then kAt r p k else if l < i ∧ i ≤ k then kAt r p (i - 1) else kAt r p i := by
  have hs := g.size
  have e := getElem?_bubble (xs := p) (src := k) (by omega) (k - l) (by omega) i
  have a0 : ∀ (q : Array Nat) (j : Nat), q.getD j 0 = (q[j]?).getD 0 := fun q j => by simp [Array.getD_eq_getD_getElem?]
  unfold kAt
  rw [a0, e]
  have hl' : k - (k - l) = l := by omega
  rw [hl']
  split
  · rw [a0]
  · split
    · rw [a0]
    · rw [a0]
omit hr hc in
theorem bubble_asc {p : Array Nat} (g : GP n p) {k l : Nat} (hk : k < n) (hl : l ≤ k) (ha : AscTo r p k) (a : ∀ i, i < l → kAt r p i < kAt r p k) (b : ∀ i, l ≤ i → i < k → kAt r p k < kAt r p i) : AscTo r (bubble p k (k - l)) (k + 1) := by
  intro i j hij hj
  rw [kAt_bubble g hk hl, kAt_bubble g hk hl]
  by_cases i1 : i = l
  · rw [if_pos i1, if_neg (by omega), if_pos (by omega)]
    exact b _ (by omega) (by omega)
  · rw [if_neg i1]
    by_cases i2 : l < i ∧ i ≤ k
    · rw [if_pos i2, if_neg (by omega), if_pos (by omega)]
      exact ha _ _ (by omega) (by omega)
    · rw [if_neg i2]
      by_cases j1 : j = l
      · rw [if_pos j1]; exact a _ (by omega)
      · rw [if_neg j1]
        by_cases j2 : l < j ∧ j ≤ k
        · rw [if_pos j2]
          by_cases z : i = j - 1
          · omega
          · exact ha _ _ (by omega) (by omega)
        · rw [if_neg j2]; exact ha _ _ hij (by omega)
theorem bin_wp {Q : Array Nat → Shared → Prop} : ∀ (f k : Nat) (p : Array Nat), k + f = n → 1 ≤ k → GP n p → AscTo r p k → (∀ p', GP n p' → AscTo r p' n → Q p' s) → (kas_bin f p k).kasWp cmp Q s
  | 0, k, p, e, _, g, a, q => q p g (by rw [show n = k by omega]; exact a)
  | f + 1, k, p, e, h1, g, a, q => by
    unfold kas_bin
    rw [KasT.kasWp_bind]
    refine place_wp hr hc g (by omega) a k 0 k (by omega) (Nat.le_refl _) (by omega) (fun i hi => by omega) (fun i hi hik => by omega) fun l l1 l2 l3 => ?_
    exact bin_wp f (k + 1) _ (by omega) (by omega) ((bubble_perm _ _ _).trans g) (bubble_asc g (by omega) l1 a l2 l3) q
theorem sort_wp (h1 : 1 ≤ n) {Q : Array Nat → Shared → Prop} (q : ∀ p, GP n p → AscTo r p n → Q p s) : (kas_sort n).kasWp cmp Q s := by
  unfold kas_sort
  rw [KasT.kasWp_bind]
  refine count_wp hr hc (Array.Perm.refl _) h1 fun m p' m1 m2 g a => ?_
  show (if m < n then kas_bin (n - max m 1) p' (max m 1) else KasT.ret p').kasWp cmp Q s
  have em : max m 1 = m := by omega
  rw [em]
  by_cases e : m < n
  · rw [if_pos e]
    exact bin_wp hr hc (n - m) m p' (by omega) m1 g a q
  · rw [if_neg e]
    exact q p' g (by rw [show n = m by omega]; exact a)
end
end R

end
section
/-! A lambda's call. -/
namespace R
open PySem PySem.Spec PyProof.Rows L2
variable [Mks]
theorem lam_run {CX : CXT} {P : Program} {w : World} {K : PySem.W.Frag} {mg : Str → Option Value} {base : Heap} {k : Nat} {f c' : Addr} {name qual : Str} {params : Arguments} {body : Expr} {scope : Scope} {pm ct : Value} {N ps : List Str}
    {A : Around} {outer : List Env} {s : Shared} {H : Hp} {args : Args} {us : List Value} {vs : List V} {Q : VK} {E : XK} {t : TE} (S : FnScope N ps scope) (hr : Room (k + 1) A) (e0 : Env0 P w K mg base A outer s H)
    (ho : s.heap.get? f = some (PySem.W.kla_obj name qual params body scope [] pm c' ct)) (hcd : s.heap.CodeRec (.ref c') qual)
    (hb : BindsTo s (PySem.W.kla_fn name qual params body scope [] pm (.ref c') ct) args (ps.zip us)) (r : Vals vs us) (hl : vs.length = ps.length)
    (ht : Room k (A.deeper (envOfC qual scope s.heap.objs.size f (.ref c'))) → PE (cxOf CX P w K mg base N qual scope f (.ref c') A outer s H E) body t) (hq : t (start N vs) H Q) :
    codeAny (model P w) A (.call (.ref f) args) (CR CX outer P w H s Q E) s := by
  have lim : s.heap.NoLimit := e0.mod.nolimit.keeps fun b o e => (e0.bs b o e).1
  have kinds : ∀ y ∈ ps.zip us, scope.names.lookup y.1 = some .local ∨ (scope.names.lookup y.1 = some .cell ∧ ((cellsFrom (s.heap.objs.size + 1) scope.names []).lookup y.1).isSome = true) := fun ⟨x, v⟩ hy =>
    (S.par x (List.of_mem_zip hy).1).elim .inl fun q => .inr ⟨q, PySem.W.cellsFrom_some _ _ _ (.inl q)⟩
  refine PySem.W.kla_callFunE hr.depth ho rfl S.co S.gen rfl hcd (hb _ _ _ _ ?_)
  refine wpAny_newFunctionEnv_cells S.kind kinds fun env he s1 x => ?_
  subst he
  refine ⟨lim.keeps x.toInCall.keep, PySem.W.kla_codeExpr ?_⟩
  have I : Inv (cxOf CX P w K mg base N qual scope f (.ref c') A outer s H E) [] (start N vs) H s1 := inv_start S hr.hd e0 hl r x
  exact wpAny_mono (ht (hr.deeper _) [] s1 (start N vs) H _ I hq) (fun u s' ⟨v, H', J, rv, q⟩ => ⟨v, H', J.os, J.bare, J.base, J.hok, rv, q⟩) fun e s' hs => hs
end R

end
section
/-! The key of a row, as the sort asks for it. -/
namespace R
open PySem PySem.Spec PyProof.Rows L2
variable [Mks]
/-- (-row[1], row[0]) -/
def keyCE : CE := .tup (.cons (.neg (.ix (.loc 0) (.con (.int 1)))) (.cons (.ix (.loc 0) (.con (.int 0))) .nil))
def noTab : Tab := ⟨[], [], []⟩
def noCF : CF := fun _ _ _ => .bad
theorem noTab_ok {k : Nat} {P : Program} {w : World} {K : PySem.W.Frag} {mg : Str → Option Value} {base : Heap} : TabOk noTab noCF k P w K mg base :=
  ⟨fun x h => (by cases h), fun x d h => (by cases h), fun f x ps nd h => (by simp [noTab] at h), fun f ds S d T' h => (by cases h)⟩
theorem ev_key (S : R.St) (k v : Int) : evE noCF keyCE [some (.tup [.int k, .int v])] S = .ok (.tup [.int (-v), .int k]) S := by
  simp [keyCE, evE, evEs, lift, Out.bind, seqOf, atI, ixN]
/-- a function object that was made in a body: its object and its code are known -/
structure LamAt (H : Hp) (f : Addr) (name qual : Str) (params : Arguments) (body : Expr) (scope : Scope) : Prop where
  ex : ∃ (pm ct : Value) (c' : Addr) (oc : Obj) (vs : Array Value) (t : Tok), H f = some (.frz (PySem.W.kla_obj name qual params body scope [] pm c' ct) (.own 0)) ∧ H c' = some (.frz oc (.own 0)) ∧ oc.data = .fields vs ∧ vs[1]? = some (.str qual t)
theorem LamAt.up {H H' : Hp} {f : Addr} {name qual : Str} {params : Arguments} {body : Expr} {scope : Scope} (L : LamAt H f name qual params body scope) (k : Kp H H') : LamAt H' f name qual params body scope := by
  obtain ⟨pm, ct, c', oc, vs, t, h1, h2, h3⟩ := L.ex
  exact ⟨pm, ct, c', oc, vs, t, k.frzs _ _ _ h1, k.frzs _ _ _ h2, h3⟩
theorem rh_nil {K : PySem.W.Frag} {H : Hp} (tb : TB H) : RH K [] H ⟨[], [], []⟩ := ⟨rfl, List.nodup_nil, fun l o h => (by simp [St.get] at h), tb⟩
theorem key_call {X : Cx} {pins : List (Addr × Obj)} {σ : L2.St} {H : Hp} {s : Shared} {A' : Around} {f a : Addr} {name qual : Str} {params : Arguments} {body : Expr} {scope : Scope} {k v : Int} {u : Value} (I : Inv X pins σ H s) (hr : Room 1 A')
    (e0 : Env0 X.prog X.w X.K X.mg X.base A' X.stack s H) (L : LamAt H f name qual params body scope) (hs : FnScope ["row"] ["row"] scope)
    (hb : ∀ (pm cd ct : Value), bindArgs (PySem.W.kla_fn name qual params body scope [] pm cd ct) ⟨[u], []⟩ = pure [(("row" : Str), u)]) (ck : chkE noTab keyCE ["row"] scope body = true)
    (tb : TB H) (ha : H a = some (.tup [.int k, .int v])) (hu : L2.RelV (.ref a) u) :
    wpAny (model X.prog X.w) A' (call (.ref f) [u]) (fun y s' => ∃ b H', y = .ref b ∧ Inv X pins σ H' s' ∧ H' b = some (.tup [.int (-v), .int k]) ∧ Ext [] H [] H' ∧ Un (frs X.stack) [] H H' s.heap s'.heap) (fun _ _ => False) s := by
  obtain ⟨pm, ct, c', oc, vs, t, h1, h2, h3, h4⟩ := L.ex
  have of := (I.hok f _ h1).1
  have oo := (I.hok c' _ h2).1
  refine wpAny_call (codeAny_mono (lam_run (CX := CX0) (E := fun _ _ _ => False) (Q := fun w H' => ∃ b, w = V.ref b ∧ H' b = some (.tup [.int (-v), .int k]) ∧ Ext [] H [] H') (vs := [V.ref a]) (us := [u]) (t := tE X.K noCF keyCE) hs hr e0 of ⟨c', oc, vs, t, rfl, oo, h3, h4⟩
    (.of_eq (hb pm _ ct)) (.cons hu .nil) rfl (fun hr' => PE.nox (chkE_ok keyCE (T := noTab) (k := 0) ⟨rfl, hs.nd, fun x e => e, fun x e => e, fun x e => .inl e, fun x e => e, .inl fun _ => rfl, rfl, rfl, hr', noTab_ok⟩ ck)) ?_) fun r s' q => ?_)
  · refine ⟨[some (.tup [.int k, .int v])], [], ⟨[], [], []⟩, fun d S => d = .tup [.int (-v), .int k], ⟨rfl, fun i d hi => ?_⟩, rh_nil tb, by rw [ev_key]; exact rfl, ?_⟩
    · match i, hi with
      | 0, hi => cases hi; exact ⟨.ref a, rfl, a, _, rfl, ha, _, _, rfl, rfl, _, _, rfl, rfl, rfl⟩
      | j + 1, hi => simp at hi
    · rintro w H' ⟨d, ι', S', x, rv, hh, rfl⟩
      obtain ⟨b, xs, rfl, hx, p1, p2, rfl, q1, p3, p4, rfl, q3, q4⟩ := rv
      cases q1; cases q3; cases q4
      exact ⟨b, rfl, hx, x.cut⟩
  · cases r with
    | error e => exact q.elim
    | ok fl =>
      cases fl with
      | ret y =>
        obtain ⟨w, H', os, bare, un, hok, rv, b, rfl, hb', x⟩ := q
        cases y with
        | ref z =>
          have : z = b := by simpa [L2.RelV] using rv
          exact ⟨b, H', by rw [this], I.call' os un hok bare (fun b z => absurd z (by simp)), hb', x, un⟩
        | _ => simp [L2.RelV] at rv
      | _ => exact q.elim
end R

end
section
/-! sorted(.., key = ..): the tree of list.sort, over the layer. -/
namespace R
open PySem PySem.Spec PyProof.Rows L2
variable [Mks]
section
variable {X : Cx} {pins : List (Addr × Obj)} {σ : L2.St} {H H' : Hp} {s : Shared}
/-- an object that nobody but the code at hand knows -/
structure Own (X : Cx) (pins : List (Addr × Obj)) (b : Addr) : Prop where
  new : X.s₀.heap.objs.size ≤ b
  loc : b ≠ X.env.locals
  cel : ∀ x c, X.env.cells.lookup x = some c → c ≠ b
  pin : ∀ p ∈ X.pn ++ pins, p.1 ≠ b
theorem Own.fresh (I : Inv X pins σ H s) {b : Addr} (h : s.heap.objs.size ≤ b) : Own X pins b := by
  refine ⟨Nat.le_trans I.sz h, fun e => ?_, fun x c e z => ?_, fun p hp z => ?_⟩
  · exact absurd (Nat.lt_of_lt_of_le I.lt h) (by rw [e]; exact Nat.lt_irrefl _)
  · obtain ⟨v, o, ho, _⟩ := I.cell x c e
    exact absurd (Nat.lt_of_lt_of_le (Heap.lt_size ho) h) (by rw [z]; exact Nat.lt_irrefl _)
  · exact absurd (Nat.lt_of_lt_of_le (Heap.lt_size (I.pin p hp).1) h) (by rw [z]; exact Nat.lt_irrefl _)
theorem Own.stk (o : Own X pins b) (I : Inv X pins σ H s) : b ∉ frs X.stack := fun hb => by
  rcases List.mem_cons.mp (I.stkSub b hb) with e | e
  · exact o.loc e
  · obtain ⟨_, ob, ho, _⟩ := I.ok.funs.mem e
    exact absurd (Nat.lt_of_lt_of_le (Heap.lt_size ho) o.new) (Nat.lt_irrefl _)
/-- only objects of one's own are changed -/
theorem inv_touch {h' : Heap} {g' : Array GenState} {t' : Nat} {d' : Drawn} {ch : List Addr} (I : Inv X pins σ H s) (ow : ∀ b ∈ ch, Own X pins b) (hn : ∀ b ∈ ch, H b = none) (k : ∀ b o, b ∉ ch → s.heap.get? b = some o → h'.get? b = some o) (hg : AllBare g') :
    Inv X pins σ H { s with heap := h', gens := g', drawn := d', toks := t' } := by
  refine I.call (ch := ch) ⟨fun b o e n _ hx => k b o hx e, fun b o e n _ hx => ⟨o.slots, k b o hx e⟩, fun b o _ n _ => n, fun b o e hx => ⟨o, k b o hx e⟩, fun _ _ e => e, fun _ _ _ e => e, fun b ps e => ⟨#[], by rw [e]; simp⟩⟩ ?_ hg fun b hb => ⟨.inr (ow b hb).new, (ow b hb).loc, (ow b hb).cel, (ow b hb).pin⟩
  intro a o e
  refine (I.hok a o e).stay (fun b u hb q => k b u (fun z => ?_) q) (fun _ q => q) fun _ _ q => q
  have := hn b z
  rcases hb with rfl | hb
  · rw [e] at this; cases this
  · rw [hb] at this; cases this
end
/-- a list as it lies -/
abbrev LstAt (s : Shared) (a : Addr) (vs : List Value) (e : Nat) : Prop := s.heap.get? a = some (seqObj "list" vs.toArray e)
theorem put_list {s : Shared} {a : Addr} {vs us : List Value} {e : Nat} (h : LstAt s a vs e) (g : Array Value → Array Value) (hg : g vs.toArray = us.toArray) : ∃ e', LstAt { s with heap := s.heap.update a (Obj.mapSeq g) } a us e' :=
  ⟨_, by have := get?_update_seq h g; rw [hg] at this; exact this⟩
theorem put_else {s : Shared} {a b : Addr} {o : Obj} {g : Obj → Obj} (n : b ≠ a) (h : s.heap.get? b = some o) : (s.heap.update a g).get? b = some o := by
  rw [Heap.get?_update_ne _ _ _ _ n]; exact h
/-- the keys that were asked for -/
structure KeyL (rows : List (Int × Int)) (H : Hp) (ks : List Value) (i : Nat) : Prop where
  len : ks.length = i
  at_ : ∀ (j : Nat) (k : Value), ks[j]? = some k → ∃ (b : Addr) (r : Int × Int), rows[j]? = some r ∧ k = Value.ref b ∧ H b = some (.tup [.int (-r.2), .int r.1])
theorem KeyL.snoc {rows : List (Int × Int)} {H H' : Hp} {ks : List Value} {i : Nat} {b : Addr} {r : Int × Int} (K : KeyL rows H ks i) (x : Ext [] H [] H') (hr : rows[i]? = some r) (hb : H' b = some (.tup [.int (-r.2), .int r.1])) : KeyL rows H' (ks ++ [.ref b]) (i + 1) := by
  refine ⟨by simp [K.len], fun j k hj => ?_⟩
  by_cases h : j < ks.length
  · rw [List.getElem?_append_left h] at hj
    obtain ⟨c, q, h1, h2, h3⟩ := K.at_ j k hj
    exact ⟨c, q, h1, h2, x.kp.tups _ _ h3⟩
  · rw [List.getElem?_append_right (by omega)] at hj
    have : j = ks.length := by
      have := (List.getElem?_eq_some_iff.mp hj).1
      simp at this; omega
    subst this
    simp at hj
    exact ⟨b, r, by rw [K.len]; exact hr, hj.symm, hb⟩
section
variable {X : Cx} {pins : List (Addr × Obj)} {σ : L2.St} {H : Hp} {s : Shared} {A' : Around} {f D kS : Addr} {name qual : Str} {params : Arguments} {body : Expr} {scope : Scope} {rows : List (Int × Int)}
/-- what is true between two keys -/
structure KJ (X : Cx) (pins : List (Addr × Obj)) (σ : L2.St) (H : Hp) (D kS : Addr) (e1 : Nat) (rows : List (Int × Int)) (i : Nat) (s' : Shared) : Prop where
  ex : ∃ H' ks e, Inv X pins σ H' s' ∧ Ext [] H [] H' ∧ H' D = none ∧ H' kS = none ∧ LstAt s' D [] e1 ∧ LstAt s' kS ks e ∧ KeyL rows H' ks i
theorem kj_turn {e1 i : Nat} {a : Addr} {r : Int × Int} (hr : Room 1 A') (e0 : ∀ H s, Inv X pins σ H s → Env0 X.prog X.w X.K X.mg X.base A' X.stack s H) (L : LamAt H f name qual params body scope) (hs : FnScope ["row"] ["row"] scope)
    (hb : ∀ (pm cd ct u : Value), bindArgs (PySem.W.kla_fn name qual params body scope [] pm cd ct) ⟨[u], []⟩ = pure [(("row" : Str), u)]) (ck : chkE noTab keyCE ["row"] scope body = true) (tb : TB H)
    (oD : Own X pins D) (oK : Own X pins kS) (ne : D ≠ kS) (ha : H a = some (.tup [.int r.1, .int r.2])) (hri : rows[i]? = some r) (hi : i < 64) {s' : Shared} (J : KJ X pins σ H D kS e1 rows i s') {items : Array Value} :
    wpAny (model X.prog X.w) A' (do
      match ← (call (.ref f) [.ref a]).attempt with
      | .ok k => Builtin.List.listUpdate (.ref kS) (·.push k); pure (ForInStep.yield PUnit.unit)
      | .error e =>
        rule "list.sort.key-raised"
        let made ← Builtin.List.listItems (.ref kS)
        Builtin.List.listUpdate (.ref kS) fun _ => #[]
        letGo made.toList.reverse [e]
        Builtin.List.listUpdate (.ref D) fun _ => items; throw e) (fun q s'' => q = .yield ⟨⟩ ∧ KJ X pins σ H D kS e1 rows (i + 1) s'') (fun _ _ => False) s' := by
  obtain ⟨H1, ks, e, I, x, d1, k1, lD, lK, kl⟩ := J.ex
  refine wpAny_bind (wpAny_attempt (wpAny_mono (key_call I hr (e0 _ _ I) (L.up x.kp) hs (fun pm cd ct => hb pm cd ct _) ck (x.kp.tab tb) (x.kp.tups _ _ ha) (show L2.RelV (.ref a) (.ref a) from rfl)) ?_ fun _ _ z => z.elim))
  rintro y s2 ⟨b, H2, rfl, I2, hb2, x2, un⟩
  have D2 := un.keep D _ lD d1 (oD.stk I) (by simp)
  have K2 := un.keep kS _ lK k1 (oK.stk I) (by simp)
  have hz : ks.length = i := kl.len
  show wpAny _ _ (Builtin.List.listUpdate (.ref kS) (·.push (.ref b)) >>= fun _ => pure (ForInStep.yield PUnit.unit)) _ _ s2
  refine wpAny_bind (listUpdate_at K2 rfl (wpAny_pure ⟨rfl, ?_⟩) (by rw [List.size_toArray, sizeLine_eq]; omega) (by rw [Array.size_push, List.size_toArray, sizeLine_eq]; omega))
  obtain ⟨e', l'⟩ := put_list (us := ks ++ [.ref b]) K2 (·.push (.ref b)) (by simp)
  refine ⟨H2, ks ++ [.ref b], e', ?_, x.trans x2, un.free D _ lD d1 (by simp), un.free kS _ lK k1 (by simp), put_else ne D2, l', kl.snoc x2 hri hb2⟩
  exact inv_touch I2 (ch := [kS]) (fun b hb => by rw [List.mem_singleton.mp hb]; exact oK) (fun b hb => by rw [List.mem_singleton.mp hb]; exact un.free kS _ lK k1 (by simp)) (fun b o hb q => put_else (by simpa using hb) q) I2.bare
end
end R

end
section
/-! sorted(.., key = ..): the order, the end. -/
namespace R
open PySem PySem.Spec PyProof.Rows L2
variable [Mks]
/-- a number that stands as the key stands -/
def rkOf (M : Int) (a : Int × Int) : Int := -a.2 * (2 * M + 1) + a.1
theorem rk_lt {M : Int} {a b : Int × Int} (ha : -M ≤ a.1 ∧ a.1 ≤ M) (hb : -M ≤ b.1 ∧ b.1 ≤ M) : rkOf M a < rkOf M b ↔ (-a.2 < -b.2 ∨ (a.2 = b.2 ∧ a.1 < b.1)) := by
  unfold rkOf
  constructor
  · intro h
    by_cases e : a.2 = b.2
    · rw [e] at h; exact .inr ⟨e, by omega⟩
    · by_cases c : -a.2 < -b.2
      · exact .inl c
      · have c' : -b.2 + 1 ≤ -a.2 := by omega
        have := Int.mul_le_mul_of_nonneg_right c' (show (0 : Int) ≤ 2 * M + 1 by omega)
        rw [Int.add_mul] at this
        omega
  · rintro (c | ⟨e, c⟩)
    · have c' : -a.2 + 1 ≤ -b.2 := by omega
      have := Int.mul_le_mul_of_nonneg_right c' (show (0 : Int) ≤ 2 * M + 1 by omega)
      rw [Int.add_mul] at this
      omega
    · rw [e]; omega
theorem rk_bound : ∀ rows : List (Int × Int), ∃ M : Int, ∀ r ∈ rows, -M ≤ r.1 ∧ r.1 ≤ M
  | [] => ⟨0, fun r h => by cases h⟩
  | a :: rows => by
    obtain ⟨M, h⟩ := rk_bound rows
    refine ⟨max M (max a.1 (-a.1)), fun r hr => ?_⟩
    rcases List.mem_cons.mp hr with rfl | hr
    · omega
    · have := h r hr
      omega
/-- a row of numbers that is in order is the one -/
theorem tally_eq {rows out : List (Int × Int)} (hp : out.Perm rows) (ho : out.Pairwise fun a b => rowLe a b = true) : out = tallyL rows := by
  refine List.Perm.eq_of_pairwise (le := fun a b => rowLe a b = true) (fun a b _ _ h1 h2 => ?_) ho (List.pairwise_mergeSort (fun a b c h1 h2 => ?_) (fun a b => ?_) rows) (hp.trans (List.mergeSort_perm rows rowLe).symm)
  · obtain ⟨a1, a2⟩ := a; obtain ⟨b1, b2⟩ := b
    simp only [rowLe, decide_eq_true_eq] at h1 h2
    have e1 : a1 = b1 := by omega
    have e2 : a2 = b2 := by omega
    rw [e1, e2]
  · simp only [rowLe, decide_eq_true_eq] at h1 h2 ⊢; omega
  · simp only [rowLe, Bool.or_eq_true, decide_eq_true_eq]; omega
theorem perm_map {α : Type} {xs : List α} {p : List Nat} (d : α) (hp : p.Perm (List.range xs.length)) : (p.map fun i => xs.getD i d).Perm xs := by
  have h := hp.map fun i => xs.getD i d
  refine h.trans (List.Perm.of_eq ?_)
  apply List.ext_getElem
  · simp
  · intro i h1 h2
    simp [h2]
/-- what the sort's places say of the rows -/
theorem asc_rows {rows : List (Int × Int)} {M : Int} (hM : ∀ r ∈ rows, -M ≤ r.1 ∧ r.1 ≤ M) {p : Array Nat} (g : GP rows.length p) (a : AscTo (fun i => rkOf M (rows.getD i (0, 0))) p rows.length) :
    (p.toList.map fun i => rows.getD i (0, 0)) = tallyL rows := by
  refine tally_eq (perm_map _ g.list) ?_
  rw [List.pairwise_map, List.pairwise_iff_getElem]
  intro i j hi hj hij
  have hs := g.size
  have hi' : i < p.size := by simpa using hi
  have hj' : j < p.size := by simpa using hj
  have h := a i j hij (by omega)
  unfold kAt at h
  rw [getD_list p hi', getD_list p hj'] at h
  have mem : ∀ k, k < rows.length → rows.getD k (0, 0) ∈ rows := fun k hk => by
    rw [List.getD_eq_getElem?_getD, List.getElem?_eq_getElem hk]; exact List.getElem_mem hk
  have li : p.toList[i] < rows.length := by rw [← getD_list p hi']; exact g.lt (by omega)
  have lj : p.toList[j] < rows.length := by rw [← getD_list p hj']; exact g.lt (by omega)
  have := (rk_lt (hM _ (mem _ li)) (hM _ (mem _ lj))).mp h
  simp only [rowLe, decide_eq_true_eq]
  omega
end R

end
section
/-! sorted(.., key = ..): two keys compared, the whole tree. -/
namespace R
open PySem PySem.Spec PyProof.Rows L2
variable [Mks]
section
variable {X : Cx} {pins : List (Addr × Obj)} {σ : L2.St} {H : Hp} {s : Shared} {A' : Around} {D kS : Addr} {rows : List (Int × Int)}
/-- a key as it lies -/
theorem key_obj {h : Heap} {b : Addr} {x y : Int} {P : Program} {w : World} (ok : HOk P w H h) (e : H b = some (.tup [.int x, .int y])) : ∃ (o : Obj) (t u : Tok) (n : Nat), h.get? b = some o ∧ o.cls = .type "tuple" ∧ o.data = .seq #[.int x t, .int y u] n := by
  obtain ⟨_, its, r, o, h1, h2, n, h3⟩ := ok b _ e
  cases r with
  | cons r1 r =>
    cases r with
    | cons r2 r =>
      cases r with
      | nil =>
        obtain ⟨t, rfl⟩ := r1
        obtain ⟨u, rfl⟩ := r2
        exact ⟨o, t, u, n, h1, h2, h3⟩
/-- two keys -/
theorem key_lt {b c : Addr} {x y x' y' : Int} (ok : HOk X.prog X.w H s.heap) (e : H b = some (.tup [.int x, .int y])) (e' : H c = some (.tup [.int x', .int y'])) {Q : Bool → Shared → Prop} {E : Value → Shared → Prop}
    (q : Q (decide (x < x' ∨ (x = x' ∧ y < y'))) s) : wpAny (model X.prog X.w) A' (keyLt' (tuples' true) (.ref b) (.ref c)) Q E s := by
  obtain ⟨o, t, u, n, h1, _, h3⟩ := key_obj ok e
  obtain ⟨o', t', u', n', h1', _, h3'⟩ := key_obj ok e'
  refine PySem.W.kat_lt h1 h3 h1' h3' (PySem.W.kat_cons (wpAny_eqBool_int ?_))
  by_cases d : x = x'
  · have ed : (x == x') = true := by simpa using d
    rw [ed]
    refine PySem.W.kat_yes (PySem.W.kat_cons (wpAny_eqBool_int ?_))
    by_cases d2 : y = y'
    · have ed2 : (y == y') = true := by simpa using d2
      rw [ed2]
      refine PySem.W.kat_yes (PySem.W.kat_nil ?_)
      have : decide (x < x' ∨ (x = x' ∧ y < y')) = decide ((#[Value.int x t, Value.int y u] : Array Value).size < (#[Value.int x' t', Value.int y' u'] : Array Value).size) := by
        rw [decide_eq_false (by omega)]; rfl
      rw [this] at q
      exact q
    · have ed2 : (y == y') = false := by simpa using d2
      rw [ed2]
      refine PySem.W.kat_no (PySem.W.kat_one _ _ (wpAny_lt_int ?_))
      have : decide (x < x' ∨ (x = x' ∧ y < y')) = decide (y < y') := by
        by_cases z : y < y'
        · rw [decide_eq_true z, decide_eq_true (.inr ⟨d, z⟩)]
        · rw [decide_eq_false z, decide_eq_false (by omega)]
      rw [this] at q
      exact q
  · have ed : (x == x') = false := by simpa using d
    rw [ed]
    refine PySem.W.kat_no (oneLt_int ?_)
    have : decide (x < x' ∨ (x = x' ∧ y < y')) = decide (x < x') := by
      by_cases z : x < x'
      · rw [decide_eq_true z, decide_eq_true (.inl z)]
      · rw [decide_eq_false z, decide_eq_false (by omega)]
    rw [this] at q
    exact q
/-- the kind of the keys -/
theorem key_tups {h : Heap} {P : Program} {w : World} (ok : HOk P w H h) : ∀ (ks : List Value), (∀ k ∈ ks, ∃ b x y, k = Value.ref b ∧ H b = some (.tup [.int x, .int y])) → ∃ fs : List Value, PySem.W.KatTups h ks fs ∧ fs.length = ks.length ∧ ∀ v ∈ fs, ∃ n t, v = Value.int n t
  | [], _ => ⟨[], PySem.W.KatTups.nil, rfl, fun v h => by cases h⟩
  | k :: ks, hk => by
    obtain ⟨fs, h1, h2, h3⟩ := key_tups ok ks fun k h => hk k (List.mem_cons_of_mem _ h)
    obtain ⟨b, x, y, rfl, e⟩ := hk k List.mem_cons_self
    obtain ⟨o, t, u, n, g1, g2, g3⟩ := key_obj ok e
    refine ⟨.int x t :: fs, PySem.W.KatTups.cons g1 g2 g3 rfl h1, by simp [h2], fun v hv => ?_⟩
    rcases List.mem_cons.mp hv with rfl | hv
    · exact ⟨x, t, rfl⟩
    · exact h3 v hv
theorem key_kind {ks : List Value} (ok : HOk X.prog X.w H s.heap) (hk : ∀ k ∈ ks, ∃ b x y, k = Value.ref b ∧ H b = some (.tup [.int x, .int y])) (h1 : 1 ≤ ks.length) {Q : SortKind → Shared → Prop} {E : Value → Shared → Prop} (q : Q (tuples' true) s) :
    wpAny (model X.prog X.w) A' (keyKind' ks.toArray) Q E s := by
  obtain ⟨fs, t1, t2, t3⟩ := key_tups ok ks hk
  refine PySem.W.kat_kind (T := .type "int") t1 (by omega) (fun v hv => ?_) rfl q
  obtain ⟨n, t, rfl⟩ := t3 v hv
  exact .now
/-- the end of the sort: what is left -/
structure KEnd (X : Cx) (pins : List (Addr × Obj)) (σ : L2.St) (H : Hp) (D : Addr) (out : List Value) (s' : Shared) : Prop where
  ex : ∃ H' e, Inv X pins σ H' s' ∧ Ext [] H [] H' ∧ H' D = none ∧ LstAt s' D out e
theorem tail_wp {st : SortSt} {out : List Value} {e1 i : Nat} {P : PySem.Fin → Shared → Prop} {E : Value → Shared → Prop} (hout : (arrOf st).map (·.2) = out.toArray) (hz : out.length < 64) (hi : i < 64) (hf : failedOf st = none) (oD : Own X pins D) (oK : Own X pins kS) (ne : D ≠ kS)
    (J : KJ X pins σ H D kS e1 rows i s) (h : ∀ s', KEnd X pins σ H D out s' → P (.done (.ret .none)) s') : wpAny (model X.prog X.w) A' (ksk_tail D false e1 (.ref kS) st) P E s := by
  obtain ⟨H1, ks, e, I, x, d1, k1, lD, lK, kl⟩ := J.ex
  have hk : ks.length < 64 := by rw [kl.len]; exact hi
  have I1 := inv_touch (h' := s.heap.update kS (Obj.mapSeq fun _ => #[])) (g' := s.gens) (t' := s.toks) (d' := s.drawn) (ch := [kS]) I (fun b hb => by rw [List.mem_singleton.mp hb]; exact oK) (fun b hb => by rw [List.mem_singleton.mp hb]; exact k1) (fun b o hb q => put_else (by simpa using hb) q) I.bare
  have lD1 : LstAt { s with heap := s.heap.update kS (Obj.mapSeq fun _ => #[]) } D [] e1 := put_else ne lD
  obtain ⟨e', lD2⟩ := put_list (us := out) lD1 (fun _ => out.toArray) rfl
  have I2 := inv_touch (h' := (s.heap.update kS (Obj.mapSeq fun _ => #[])).update D (Obj.mapSeq fun _ => out.toArray)) (g' := s.gens) (t' := s.toks) (d' := s.drawn) (ch := [D]) I1 (fun b hb => by rw [List.mem_singleton.mp hb]; exact oD) (fun b hb => by rw [List.mem_singleton.mp hb]; exact d1) (fun b o hb q => put_else (by simpa using hb) q) I.bare
  unfold ksk_tail
  rw [hout, hf]
  refine wpAny_bind (listUpdate_at lK rfl (wpAny_bind (wpAny_letGo (wpAny_bind (seqEpoch_at lD1 rfl (wpAny_bind (listUpdate_at lD1 rfl ?_ (by simp) (by simp only [Bool.false_eq_true, if_false, List.size_toArray, sizeLine_eq]; omega))))))) (by rw [List.size_toArray, sizeLine_eq]; omega) (by simp))
  simp only [bne_self_eq_false, Bool.false_eq_true, if_false]
  exact wpAny_pure (h _ ⟨H1, e', I2, x, d1, lD2⟩)
end
end R

end
section
/-! sorted(.., key = ..): the whole tree of list.sort. -/
namespace R
open PySem PySem.Spec PyProof.Rows L2
variable [Mks]
theorem getD_mem {α : Type} {xs : List α} {i : Nat} (d : α) (h : i < xs.length) : xs[i]? = some (xs.getD i d) := by
  rw [List.getD_eq_getElem?_getD, List.getElem?_eq_getElem h]; rfl
theorem rk_inj {rows : List (Int × Int)} {M : Int} (hM : ∀ r ∈ rows, -M ≤ r.1 ∧ r.1 ≤ M) (nd : (rows.map (·.1)).Nodup) {i j : Nat} (hi : i < rows.length) (hj : j < rows.length) (e : rkOf M (rows.getD i (0, 0)) = rkOf M (rows.getD j (0, 0))) : i = j := by
  have mi := List.mem_of_getElem? (getD_mem (0, 0) hi)
  have mj := List.mem_of_getElem? (getD_mem (0, 0) hj)
  have n1 : ¬ rkOf M (rows.getD i (0, 0)) < rkOf M (rows.getD j (0, 0)) := by omega
  have n2 : ¬ rkOf M (rows.getD j (0, 0)) < rkOf M (rows.getD i (0, 0)) := by omega
  rw [rk_lt (hM _ mi) (hM _ mj)] at n1
  rw [rk_lt (hM _ mj) (hM _ mi)] at n2
  have e1 : (rows.getD i (0, 0)).1 = (rows.getD j (0, 0)).1 := by omega
  have hi' : i < (rows.map (·.1)).length := by simpa using hi
  have hj' : j < (rows.map (·.1)).length := by simpa using hj
  have a1 : (rows.map (·.1))[i] = (rows.map (·.1))[j] := by
    have q1 : rows.getD i (0, 0) = rows[i] := by simp [hi]
    have q2 : rows.getD j (0, 0) = rows[j] := by simp [hj]
    rw [q1, q2] at e1
    simpa using e1
  have pw := List.pairwise_iff_getElem.mp nd
  rcases Nat.lt_trichotomy i j with z | z | z
  · exact absurd a1 (pw i j _ _ z)
  · exact z
  · exact absurd a1.symm (pw j i _ _ z)
section
variable {X : Cx} {pins : List (Addr × Obj)} {σ : L2.St} {H : Hp} {s : Shared} {A' : Around} {D kS f : Addr} {rows : List (Int × Int)} {name qual : Str} {params : Arguments} {body : Expr} {scope : Scope}
/-- the places of the outcome -/
structure Plc (rows : List (Int × Int)) (p : List Nat) : Prop where
  lt : ∀ i ∈ p, i < rows.length
  eq : (p.map fun i => rows.getD i (0, 0)) = tallyL rows
  perm : p.Perm (List.range rows.length)
theorem end_wp {vs : List Value} {e1 : Nat} {P : PySem.Fin → Shared → Prop} {E : Value → Shared → Prop} (hl : vs.length = rows.length) (h64 : rows.length < 64) (nd : (rows.map (·.1)).Nodup) (oD : Own X pins D) (oK : Own X pins kS) (ne : D ≠ kS)
    (J : KJ X pins σ H D kS e1 rows rows.length s) (h : ∀ p s', Plc rows p → KEnd X pins σ H D (p.map fun i => vs.getD i Value.none) s' → P (.done (.ret .none)) s') :
    wpAny (model X.prog X.w) A' (Builtin.List.listItems (.ref kS) >>= fun keys => ksk_end D false vs.toArray e1 (.ref kS) keys) P E s := by
  obtain ⟨H1, ks, e, I, x, d1, k1, lD, lK, kl⟩ := id J.ex
  refine wpAny_bind (listItems_at lK rfl ?_)
  unfold ksk_end
  simp only [Bool.false_eq_true, if_false]
  have klen : ks.length = vs.length := by rw [kl.len, hl]
  by_cases h2 : vs.toArray.size < 2
  · rw [if_pos h2, if_pos h2]
    have h2' : rows.length < 2 := by rw [← hl]; simpa using h2
    refine wpAny_bind (wpAny_pure (wpAny_bind ?_))
    rw [StateT.run_pure]
    have eo : (arrOf (SortSt.mk' general' (ks.toArray.zip vs.toArray) #[] 7 none)).map (·.2) = vs.toArray := by
      show ((ks.toArray.zip vs.toArray).map (·.2)) = vs.toArray
      apply Array.toList_inj.mp
      rw [Array.toList_map, ksk_zip]
      show (ks.zip vs).map Prod.snd = vs
      exact List.map_snd_zip (by omega)
    have er : ((List.range rows.length).map fun i => vs.getD i Value.none) = vs := by
      apply List.ext_getElem
      · simp [hl]
      · intro i g1 g2; simp [g2]
    refine wpAny_pure (tail_wp (i := rows.length) eo (by omega) h64 rfl oD oK ne J fun s' K => h (List.range rows.length) s' ⟨fun i hi => List.mem_range.mp hi, ?_, List.Perm.refl _⟩ (by rw [er]; exact K))
    refine tally_eq (perm_map _ (List.Perm.refl _)) ?_
    rw [List.pairwise_map, List.pairwise_iff_getElem]
    intro i j hi hj hij
    simp at hi hj
    omega
  · have h2' : 2 ≤ vs.length := by simpa using h2
    rw [if_neg h2, if_neg h2]
    have hk : ∀ k ∈ ks, ∃ b x y, k = Value.ref b ∧ H1 b = some (.tup [.int x, .int y]) := fun k hm => by
      obtain ⟨j, hj⟩ := List.mem_iff_getElem?.mp hm
      obtain ⟨b, r, _, q1, q2⟩ := kl.at_ j k hj
      exact ⟨b, _, _, q1, q2⟩
    refine wpAny_bind (key_kind I.hok hk (by omega) ?_)
    obtain ⟨M, hM⟩ := rk_bound rows
    refine wpAny_bind (wpAny_mono (PySem.W.kat_run (Q := fun st' s' => ∃ p : Array Nat, GP rows.length p ∧ AscTo (fun i => rkOf M (rows.getD i (0, 0))) p rows.length ∧ s' = s ∧ arrOf st' = p.map (PySem.W.kas_item (ks.toArray.zip vs.toArray)) ∧ failedOf st' = none)
      (G := fun p s' => GP rows.length p ∧ AscTo (fun i => rkOf M (rows.getD i (0, 0))) p rows.length ∧ s' = s) klen h2' (by omega) (fun p st' s' _ a2 a3 a4 => ⟨p, a4.1, a4.2.1, a4.2.2, a2, a3⟩) ?_) ?_ fun _ _ z => z)
    · rw [hl]
      refine sort_wp (r := fun i => rkOf M (rows.getD i (0, 0))) (fun i j hi hj e => rk_inj hM nd hi hj e) (fun i j C hi hj hC => ?_) (by omega) fun p g a => ⟨g, a, rfl⟩
      obtain ⟨b, r, b1, b2, b3⟩ := kl.at_ i _ (getD_mem Value.none (by omega))
      obtain ⟨c, r', c1, c2, c3⟩ := kl.at_ j _ (getD_mem Value.none (by omega))
      have er : rows.getD i (0, 0) = r := by rw [List.getD_eq_getElem?_getD, b1]; rfl
      have er' : rows.getD j (0, 0) = r' := by rw [List.getD_eq_getElem?_getD, c1]; rfl
      show wpAny (model X.prog X.w) A' (keyLt' (tuples' true) (ks.getD i Value.none) (ks.getD j Value.none)) C (fun _ _ => False) s
      rw [b2, c2]
      refine key_lt I.hok b3 c3 ?_
      have : decide (-r.2 < -r'.2 ∨ (-r.2 = -r'.2 ∧ r.1 < r'.1)) = decide (rkOf M r < rkOf M r') := by
        have q := rk_lt (hM r (List.mem_of_getElem? b1)) (hM r' (List.mem_of_getElem? c1))
        by_cases z : rkOf M r < rkOf M r'
        · rw [decide_eq_true z]; exact decide_eq_true (by have := q.mp z; omega)
        · rw [decide_eq_false z]; exact decide_eq_false fun w => z (q.mpr (by omega))
      rw [this]
      (try dsimp only at hC)
      rw [er, er'] at hC
      exact hC
    · rintro ⟨⟨⟩, st'⟩ s' ⟨p, g, a, rfl, ar, fl⟩
      refine tail_wp (i := rows.length) (PySem.W.kat_snds klen ar) ?_ h64 fl oD oK ne J fun s' K => h p.toList s' ⟨fun i hi => List.mem_range.mp (g.list.mem_iff.mp hi), asc_rows hM g a, g.list⟩ K
      rw [List.length_map, Array.length_toList, g.size]; exact h64
theorem rest_wp {as : List Addr} {e1 : Nat} {P : PySem.Fin → Shared → Prop} {E : Value → Shared → Prop} (hr : Room 1 A') (e0 : ∀ H s, Inv X pins σ H s → Env0 X.prog X.w X.K X.mg X.base A' X.stack s H) (L : LamAt H f name qual params body scope) (hs : FnScope ["row"] ["row"] scope)
    (hb : ∀ (pm cd ct u : Value), bindArgs (PySem.W.kla_fn name qual params body scope [] pm cd ct) ⟨[u], []⟩ = pure [(("row" : Str), u)]) (ck : chkE noTab keyCE ["row"] scope body = true) (tb : TB H)
    (hl : as.length = rows.length) (h64 : rows.length < 64) (nd : (rows.map (·.1)).Nodup) (oD : Own X pins D) (oK : Own X pins kS) (ne : D ≠ kS) (ha : ∀ (j : Nat) (a : Addr), as[j]? = some a → ∃ r : Int × Int, rows[j]? = some r ∧ H a = some (.tup [.int r.1, .int r.2]))
    (J : KJ X pins σ H D kS e1 rows 0 s) (h : ∀ p s', Plc rows p → KEnd X pins σ H D (p.map fun i => (as.map Value.ref).getD i Value.none) s' → P (.done (.ret .none)) s') :
    wpAny (model X.prog X.w) A' (ksk_rest D (.ref f) false (as.map Value.ref).toArray e1 (.ref kS)) P E s := by
  unfold ksk_rest
  refine wpAny_bind (wpAny_rule ?_)
  rw [List.forIn_toArray]
  refine wpAny_bind (ksk_fold (fun i s' => KJ X pins σ H D kS e1 rows i s') (as.map Value.ref) 0 s J (fun j v s' hj J' => ?_) fun s' J' => ?_)
  · rw [List.getElem?_map] at hj
    cases ej : as[j]? with
    | none => rw [ej] at hj; cases hj
    | some a =>
      rw [ej] at hj; cases hj
      obtain ⟨r, hr1, hr2⟩ := ha j a ej
      have hlt := (List.getElem?_eq_some_iff.mp hr1).1
      rw [Nat.zero_add] at J' ⊢
      exact wpAny_mono (kj_turn hr e0 L hs hb ck tb oD oK ne hr2 hr1 (by omega) J' (items := (as.map Value.ref).toArray)) (fun _ _ z => z) fun _ _ z => z.elim
  · rw [Nat.zero_add, List.length_map, hl] at J'
    exact end_wp (vs := as.map Value.ref) (by simpa using hl) h64 nd oD oK ne J' h
theorem tree_wp {as : List Addr} {n0 : Nat} {P : PySem.Fin → Shared → Prop} {E : Value → Shared → Prop} (I : Inv X pins σ H s) (hr : Room 1 A') (e0 : ∀ H s, Inv X pins σ H s → Env0 X.prog X.w X.K X.mg X.base A' X.stack s H) (L : LamAt H f name qual params body scope) (hs : FnScope ["row"] ["row"] scope)
    (hb : ∀ (pm cd ct u : Value), bindArgs (PySem.W.kla_fn name qual params body scope [] pm cd ct) ⟨[u], []⟩ = pure [(("row" : Str), u)]) (ck : chkE noTab keyCE ["row"] scope body = true) (tb : TB H)
    (hl : as.length = rows.length) (h64 : rows.length < 64) (nd : (rows.map (·.1)).Nodup) (oD : Own X pins D) (d0 : H D = none) (lD : LstAt s D (as.map Value.ref) n0) (ha : ∀ (j : Nat) (a : Addr), as[j]? = some a → ∃ r : Int × Int, rows[j]? = some r ∧ H a = some (.tup [.int r.1, .int r.2]))
    (h : ∀ p s', Plc rows p → KEnd X pins σ H D (p.map fun i => (as.map Value.ref).getD i Value.none) s' → P (.done (.ret .none)) s') : wpAny (model X.prog X.w) A' (ksk_tree D (.ref f) false) P E s := by
  obtain ⟨e1, l1⟩ := put_list (us := []) lD (fun _ => #[]) rfl
  have hD : D < s.heap.objs.size := Heap.lt_size lD
  have I1 := inv_touch (h' := s.heap.update D (Obj.mapSeq fun _ => #[])) (g' := s.gens) (t' := s.toks) (d' := s.drawn) (ch := [D]) I (fun b hb => by rw [List.mem_singleton.mp hb]; exact oD) (fun b hb => by rw [List.mem_singleton.mp hb]; exact d0) (fun b o hb q => put_else (by simpa using hb) q) I.bare
  have kp : ∀ (o1 o2 : Obj) b o, (s.heap.update D (Obj.mapSeq fun _ => #[])).get? b = some o → (((s.heap.update D (Obj.mapSeq fun _ => #[])).push o1).push o2).get? b = some o := fun o1 o2 b o q => Heap.get?_push_of_some _ (Heap.get?_push_of_some _ q)
  have sz : ∀ o1 : Obj, ((s.heap.update D (Obj.mapSeq fun _ => #[])).push o1).objs.size = s.heap.objs.size + 1 := fun o1 => by rw [size_push', Heap.size_update]
  have hlen : (as.map Value.ref).length < 64 := by rw [List.length_map, hl]; exact h64
  unfold ksk_tree
  refine wpAny_bind (listItems_at lD rfl (wpAny_bind (listUpdate_at lD rfl (wpAny_bind (seqEpoch_at l1 rfl (wpAny_bind (wpAny_newTuple (wpAny_bind (wpAny_newList (wpAny_holding ?_) (Nat.zero_le _))) (by rw [sizeLine_eq]; show (as.map Value.ref).length ≤ _; omega))))) (by rw [List.size_toArray, sizeLine_eq]; omega) (Nat.zero_le _))))
  have I2 := inv_touch (h' := ((s.heap.update D (Obj.mapSeq fun _ => #[])).push (seqObj "tuple" (as.map Value.ref).toArray 0)).push (seqObj "list" #[] 0)) (g' := s.gens) (t' := s.toks) (d' := s.drawn) (ch := []) I1 (fun b hb => by cases hb) (fun b hb => by cases hb) (fun b o _ q => kp _ _ b o q) I.bare
  have oK : Own X pins ((s.heap.update D (Obj.mapSeq fun _ => #[])).push (seqObj "tuple" (as.map Value.ref).toArray 0)).objs.size := by
    rw [sz]
    exact Own.fresh I (Nat.le_succ _)
  refine rest_wp (kS := ((s.heap.update D (Obj.mapSeq fun _ => #[])).push (seqObj "tuple" (as.map Value.ref).toArray 0)).objs.size) hr e0 L hs hb ck tb hl h64 nd oD oK (by rw [sz]; exact Nat.ne_of_lt (Nat.lt_succ_of_lt hD)) ha ?_ h
  exact ⟨H, [], 0, I2, Ext.refl _ _, d0, I.hok.fresh (by rw [sz]; exact Nat.le_succ _), kp _ _ _ _ l1, Heap.get?_push_size _ rfl, rfl, fun j k hj => by simp at hj⟩
end
end R

end
section
/-! sorted(d.items(), key = ..): the call. -/
namespace R
open PySem PySem.Spec PyProof.Rows L2
variable [Mks]
section
variable {X : Cx} {pins : List (Addr × Obj)} {σ : L2.St} {H H' : Hp} {s : Shared} {b : Addr} {o : HO}
/-- an object of one's own is told to the layer -/
theorem inv_track (I : Inv X pins σ H s) (ow : Own X pins b) (hn : H b = none) (ok : ObjOk X.prog X.w (upd H b o) s.heap b o) : Inv X pins σ (upd H b o) s := by
  have un : Un (frs X.stack) [b] H (upd H b o) s.heap s.heap := ⟨fun c q e _ _ _ => e, fun c q e _ _ _ => ⟨q.slots, e⟩, fun c q e n hx => by rw [upd_ne (by simpa using hx)]; exact n, fun c q e _ => ⟨q, e⟩,
    fun c xs q => by rw [upd_ne (ne_of_none q hn)]; exact q, fun c q u e => by rw [upd_ne (ne_of_none e hn)]; exact e, fun c ps q => ⟨#[], by rw [upd_ne (ne_of_none q hn), q]; simp⟩⟩
  refine I.call' rfl un ?_ I.bare fun c hc => ?_
  · intro a u e
    by_cases z : a = b
    · subst z; rw [upd_same] at e; cases e; exact ok
    · rw [upd_ne z] at e
      exact (I.hok a u e).stay (fun _ _ _ q => q) (fun c q => by rw [upd_ne (ne_of_none q hn)]; exact q) fun c xs q => by rw [upd_ne (ne_of_none q hn)]; exact q
  · rw [List.mem_singleton.mp hc]
    exact ⟨.inr ow.new, ow.loc, ow.cel, ow.pin⟩
theorem ext_new (hn : H b = none) : Ext [] H [] (upd H b o) :=
  ⟨List.prefix_refl _, Kp.new hn o, fun a u _ e => ⟨.inl (by rw [upd_ne (ne_of_none e hn)]; exact e), by simp⟩⟩
/-- rows of a dict, as tuples -/
theorem track_rows : ∀ (as : List Addr) (rows : List (Int × Int)) {H : Hp}, Inv X pins σ H s → as.length = rows.length → as.Pairwise (· < ·) → (∀ a ∈ as, Own X pins a ∧ H a = none) →
    (∀ (j : Nat) (a : Addr), as[j]? = some a → ∃ (r : Int × Int) (t u : Tok), rows[j]? = some r ∧ s.heap.get? a = some { cls := .type "tuple", data := .seq #[.int r.1 t, .int r.2 u] }) →
    ∃ H', Inv X pins σ H' s ∧ Ext [] H [] H' ∧ (∀ c, c ∉ as → H' c = H c) ∧ ∀ (j : Nat) (a : Addr), as[j]? = some a → ∃ r : Int × Int, rows[j]? = some r ∧ H' a = some (.tup [.int r.1, .int r.2])
  | [], rows, H, I, hl, _, _, _ => ⟨H, I, Ext.refl _ _, fun c _ => rfl, fun j a e => by simp at e⟩
  | a :: as, [], H, I, hl, _, _, _ => by simp at hl
  | a :: as, r :: rows, H, I, hl, hp, ho, hq => by
    obtain ⟨oa, na⟩ := ho a List.mem_cons_self
    obtain ⟨r', t, u, e1, e2⟩ := hq 0 a rfl
    cases e1
    have hp' := List.pairwise_cons.mp hp
    have I1 : Inv X pins σ (upd H a (.tup [.int r.1, .int r.2])) s := inv_track I oa na ⟨by simp [sizeLine_eq], [.int r.1 t, .int r.2 u], .cons ⟨t, rfl⟩ (.cons ⟨u, rfl⟩ .nil), _, e2, rfl, _, rfl⟩
    obtain ⟨H', J, x, k, q⟩ := track_rows as rows I1 (by simpa using hl) hp'.2 (fun c hc => ⟨(ho c (List.mem_cons_of_mem _ hc)).1, by
      rw [upd_ne (Nat.ne_of_gt (hp'.1 c hc))]; exact (ho c (List.mem_cons_of_mem _ hc)).2⟩) fun j c e => hq (j + 1) c (by simpa using e)
    refine ⟨H', J, (ext_new na).trans x, fun c hc => ?_, fun j c e => ?_⟩
    · rw [k c (fun z => hc (List.mem_cons_of_mem _ z)), upd_ne (fun z => hc (by rw [z]; exact List.mem_cons_self))]
    · cases j with
      | zero => cases e; exact ⟨r, rfl, x.kp.tups _ _ upd_same⟩
      | succ j => exact q j c (by simpa using e)
end
/-- a dict of whole numbers -/
def dRows (rows : List (Int × Int)) : List (Key × V) := rows.map fun r => (.inl r.1, .int r.2)
theorem kv_rows : ∀ {rows : List (Int × Int)} {vs : List (Key × Value)}, KV (dRows rows) vs → vs.length = rows.length ∧ ∀ (j : Nat) k v, vs[j]? = some (k, v) → ∃ (r : Int × Int) (t : Tok), rows[j]? = some r ∧ k = .inl r.1 ∧ v = .int r.2 t
  | [], vs, h => by
    cases h
    exact ⟨rfl, fun j k v e => by simp at e⟩
  | r :: rows, vs, h => by
    cases h with
    | cons h1 h2 =>
      rename_i q vs
      obtain ⟨a, c⟩ := kv_rows h2
      refine ⟨by simp [a], fun j k v e => ?_⟩
      cases j with
      | zero =>
        cases e
        obtain ⟨e1, t, e2⟩ := h1
        exact ⟨r, t, rfl, e1.symm, e2⟩
      | succ j => exact c j k v (by simpa using e)
section
variable {X : Cx} {pins : List (Addr × Obj)} {σ : L2.St} {H : Hp} {s : Shared} {d r f : Addr} {rows : List (Int × Int)} {name qual : Str} {params : Arguments} {body : Expr} {scope : Scope}
/-- what comes out -/
structure Tld (X : Cx) (pins : List (Addr × Obj)) (σ : L2.St) (H : Hp) (rows : List (Int × Int)) (D : Addr) (s' : Shared) : Prop where
  ex : ∃ (H' : Hp) (ts : List Addr), Inv X pins σ H' s' ∧ Ext [] H [] H' ∧ H D = none ∧ H' D = some (.lst (ts.map V.ref)) ∧ ts.length = rows.length ∧ ∀ (j : Nat) (t : Addr), ts[j]? = some t → ∃ q : Int × Int, (tallyL rows)[j]? = some q ∧ H' t = some (.tup [.int q.1, .int q.2])
theorem sorted_wp {Q : Value → Shared → Prop} {E : Value → Shared → Prop} (I : Inv X pins σ H s) (hh : X.A.handled = none) (hr : Room 1 X.A.in1.in1) (L : LamAt H f name qual params body scope) (hs : FnScope ["row"] ["row"] scope)
    (hb : ∀ (pm cd ct u : Value), bindArgs (PySem.W.kla_fn name qual params body scope [] pm cd ct) ⟨[u], []⟩ = pure [(("row" : Str), u)]) (ck : chkE noTab keyCE ["row"] scope body = true) (tb : TB H)
    (hd : H d = some (.dK (dRows rows))) (hv : s.heap.IsItemsView r d) (h64 : rows.length < 64) (q : ∀ D s', Tld X pins σ H rows D s' → Q (.ref D) s') :
    wpAny (model X.prog X.w) X.A (call (.builtin "sorted") [.ref r] [(Str.ofString "key", .ref f)]) Q E s := by
  obtain ⟨_, hsys, vs, kv, od, es, ep, ho, hex, hda, hko, hpr, hnd⟩ := I.hok d _ hd
  obtain ⟨vlen, vat⟩ := kv_rows kv
  have hm : s.heap.DictAt (mixKind X.prog X.w) d vs ep := ⟨od, es, ho, hex, hda, hko, hpr, hnd⟩
  refine call_function_entry_kw kind_sorted plain_sorted entry_sorted (ksk_s1 _ _) ?_
  unfold Builtin.«sorted»
  refine wpAny_bind (m := checkCount "sorted" 1 1 _) (wpAny_pure (wpAny_bind ?_))
  refine PySem.W.kdx_collect (A := X.A.in1) (knd := mixKind X.prog X.w) (kvs := vs) (ep := ep) hh hv hm (by rw [vlen, sizeLine_eq]; omega) fun h1 tk as keep alen kg => ?_
  have I1 : Inv X pins σ H { s with heap := h1, toks := tk } := inv_touch (g' := s.gens) (t' := tk) (d' := s.drawn) (ch := []) I (fun b hb => by cases hb) (fun b hb => by cases hb) (fun b o _ e => keep b o e) I.bare
  have pairs : ∀ (j : Nat) (a : Addr), as[j]? = some a → ∃ (p : Int × Int) (t u : Tok), rows[j]? = some p ∧ h1.get? a = some { cls := .type "tuple", data := .seq #[.int p.1 t, .int p.2 u] } := fun j a ha => by
    obtain ⟨key, k, x, e1, e2, e3⟩ := kg.pairs j a ha
    obtain ⟨p, t, p1, p2, p3⟩ := vat j k x e1
    subst p2 p3
    rw [mixKind_is] at e2
    rcases keyIs_shape e2 with ⟨i, u, z1, z2⟩ | ⟨x', u, z1, z2⟩
    · cases z1
      subst z2
      exact ⟨p, u, t, p1, e3⟩
    · cases z1
  obtain ⟨H1, I2, x1, out1, rowsAt⟩ := track_rows (s := { s with heap := h1, toks := tk }) as rows I1 (by rw [alen, vlen]) kg.rise (fun a ha => ⟨Own.fresh I (Nat.le_of_lt (kg.above a ha)), I.hok.fresh (Nat.le_of_lt (kg.above a ha))⟩) pairs
  have alen' : as.length = rows.length := by rw [alen, vlen]
  refine wpAny_bind (wpAny_newList ?_ (by rw [List.length_map, alen', sizeLine_eq]; omega))
  have I3 : Inv X pins σ H1 { s with heap := h1.push (seqObj "list" (as.map Value.ref).toArray 0), toks := tk } := inv_touch (s := { s with heap := h1, toks := tk }) (g' := s.gens) (t' := tk) (d' := s.drawn) (ch := []) I2 (fun b hb => by cases hb) (fun b hb => by cases hb) (fun b o _ e => Heap.get?_push_of_some _ e) I.bare
  have lD : LstAt { s with heap := h1.push (seqObj "list" (as.map Value.ref).toArray 0), toks := tk } h1.objs.size (as.map Value.ref) 0 := Heap.get?_push_size _ rfl
  have oD : Own X pins h1.objs.size := Own.fresh I2 (Nat.le_refl _)
  have dN : H1 h1.objs.size = none := I2.hok.fresh (Nat.le_refl _)
  have dN0 : H h1.objs.size = none := I1.hok.fresh (Nat.le_refl _)
  refine wpAny_bind (wpAny_holding (wpAny_call_entry_kw slot_list_sort ⟨_, lD, rfl⟩ entry_list_sort ?_ (ksk_l1 _ _)))
  refine tree_wp (D := h1.objs.size) (as := as) (rows := rows) I3 hr (fun H s J => J.env0.in1.in1) (L.up x1.kp) hs hb ck (x1.kp.tab tb) alen' h64 ?_ oD dN lD rowsAt fun p s' pl ke => ⟨_, rfl, ?_⟩
  · have hn : (vs.map (·.1)).Nodup := hnd
    have e : (vs.map (·.1)) = (rows.map (·.1)).map Sum.inl := by
      apply List.ext_getElem
      · simp [vlen]
      · intro i g1 g2
        have gi : i < vs.length := by simpa using g1
        obtain ⟨p, t, p1, p2, p3⟩ := vat i vs[i].1 vs[i].2 (by rw [List.getElem?_eq_getElem gi])
        have gr : i < rows.length := by omega
        rw [List.getElem?_eq_getElem gr] at p1
        cases p1
        simpa using p2
    rw [e] at hn
    rw [List.nodup_iff_pairwise_ne, List.pairwise_map] at hn
    exact hn.imp fun h z => h (by rw [z])
  · refine wpAny_pure ⟨_, rfl, q _ s' ?_⟩
    obtain ⟨H2, e, J, x2, dN2, lst⟩ := ke.ex
    have eo : (p.map fun i => (as.map Value.ref).getD i Value.none) = (p.map fun i => as.getD i 0).map Value.ref := by
      rw [List.map_map]
      refine List.map_congr_left fun i hi => ?_
      have := pl.lt i hi
      have gi : i < as.length := by omega
      simp [gi]
    rw [eo] at lst
    have plen : p.length = rows.length := by rw [pl.perm.length_eq]; simp
    have tup2 : ∀ (j : Nat) (t : Addr), (p.map fun i => as.getD i 0)[j]? = some t → ∃ q : Int × Int, (tallyL rows)[j]? = some q ∧ H2 t = some (.tup [.int q.1, .int q.2]) := fun j t hj => by
      rw [List.getElem?_map] at hj
      cases ej : p[j]? with
      | none => rw [ej] at hj; cases hj
      | some i =>
        rw [ej] at hj
        cases hj
        have hi := pl.lt i (List.mem_of_getElem? ej)
        obtain ⟨w, w1, w2⟩ := rowsAt i (as.getD i 0) (getD_mem 0 (by omega))
        refine ⟨w, ?_, x2.kp.tups _ _ w2⟩
        rw [← pl.eq, List.getElem?_map, ej]
        show some (rows.getD i (0, 0)) = some w
        rw [List.getD_eq_getElem?_getD, w1]
        rfl
    have dne : ∀ t o, H2 t = some o → t ≠ h1.objs.size := fun t o h => ne_of_none h dN2
    refine ⟨upd H2 h1.objs.size (.lst ((p.map fun i => as.getD i 0).map V.ref)), p.map fun i => as.getD i 0, inv_track J oD dN2 ⟨by simp [plen, sizeLine_eq]; omega, _, e, ?_, lst⟩, (x1.trans x2).trans (ext_new dN2), dN0, upd_same, by simp [plen], fun j t hj => ?_⟩
    · generalize (p.map fun i => as.getD i 0) = ts
      induction ts with
      | nil => exact .nil
      | cons t ts ih => exact .cons rfl ih
    · obtain ⟨w, w1, w2⟩ := tup2 j t hj
      exact ⟨w, w1, by rw [upd_ne (dne t _ w2)]; exact w2⟩
end
end R

end
section
/-! A lambda is made. -/
namespace R
open PySem PySem.Spec PyProof.Rows L2
variable [Mks]
/-- the module of the built-ins, as the globals name it -/
def BM (mg : Str → Option Value) (base : Heap) : Prop := ∃ (bm : Addr) (o : Obj), mg "__builtins__" = some (.ref bm) ∧ bm ≠ builtinsNs ∧ bm ≠ mainGlobals ∧ base.get? bm = some o ∧ o.cls = .type "module" ∧ o.dict = some builtinsNs ∧ o.data = .plain
/-- all but the table stays -/
structure StepT (P : Addr) (H H' : Hp) : Prop where
  rest : ∀ a o, a ≠ P → H a = some o → H' a = some o
  tab : ∀ ps, H P = some (.tbl ps) → ∃ more, H' P = some (.tbl (ps ++ more))
theorem StepT.refl (P : Addr) (H : Hp) : StepT P H H := ⟨fun _ _ _ e => e, fun ps e => ⟨#[], by rw [e]; simp⟩⟩
theorem codeAmong_old {pos : Pos} {l : List Value} {v a b c : Value} (h : TriplesOk l) (e : codeAmong pos (l ++ [a, b, c]) = some v) : codeAmong pos l = some v ∨ v = c := by
  induction l using codeAmong.induct (pos := pos) with
  | case1 line _ col _ c' rest cond =>
    simp only [List.cons_append, codeAmong, cond, if_true] at e ⊢
    exact .inl e
  | case2 line _ col _ c' rest cond ih =>
    simp only [List.cons_append, codeAmong, cond, if_false] at e ⊢
    exact ih (by simpa [TriplesOk] using h) e
  | case3 l hno =>
    cases l with
    | nil =>
      right
      unfold codeAmong at e
      split at e
      · rename_i h; simp at h; obtain ⟨_, _, rfl, rfl⟩ := h
        split at e
        · cases e; rfl
        · simp [codeAmong] at e
      · cases e
    | cons x l =>
      exfalso
      unfold TriplesOk at h
      split at h
      · rename_i h0; cases h0
      · rename_i h0; cases h0; exact hno _ _ _ _ _ _ rfl
      · exact h
section
variable {X : Cx} {pins : List (Addr × Obj)} {σ : L2.St} {H : Hp} {s : Shared} {c P : Addr} {params : Arguments} {body : Expr} {scope : Scope} {lpos : Pos}
theorem BM.at_ (b : BM X.mg X.base) (I : Inv X pins σ H s) {P : Addr} {o : HO} (hP : H P = some o) : s.heap.BuiltinsAt X.mg P := by
  obtain ⟨bm, ob, h1, h2, h3, h4, h5⟩ := b
  obtain ⟨k1, k2⟩ := I.bs bm ob h4
  exact ⟨bm, ob, h1, h2, h3, fun z => (by rw [z, hP] at k2; cases k2), k1, h5⟩
theorem lam_make {Q : Value → Shared → Prop} {E : Value → Shared → Prop} (I : Inv X pins σ H s) (bm : BM X.mg X.base) (hcode : X.env.code = .ref c) (hC : PySem.W.codeHdIn X.K c P = true) (tb : TabIn H P (X.env.qual ++ "<lambda>"))
    (hdef : defaultsOf params X.env = ([], [])) (hcl : closureFor scope X.env = pure [])
    (q : ∀ f H' s', Inv X pins σ H' s' → LamAt H' f "<lambda>" (X.env.qual ++ "<lambda>") params body scope → TabIn H' P (X.env.qual ++ "<lambda>") → StepT P H H' → Q (.ref f) s') :
    wpAny (model X.prog X.w) X.A (eval (.Lambda params body scope lpos) X.env) Q E s := by
  obtain ⟨ps, h1, h2, h3⟩ := tb
  have C := PySem.W.codeHd_of_K I.kIn hC
  have hP : s.heap.get? P = some (PySem.W.tabObj ps) := I.hok P _ h1
  have hb := bm.at_ I h1
  have hg : s.heap.Ns mainGlobals X.mg := I.mod.glob.keeps I.bk
  have hPl : P < s.heap.objs.size := Heap.lt_size hP
  refine PySem.W.kla_eval hdef ?_
  cases hf : codeAmong lpos ps.toList with
  | some cv =>
    obtain ⟨c', oc, vs, t, rfl, a2, a3, a4⟩ := h3 lpos cv hf
    refine PySem.W.kla_makeFunctionHit hcl I.ok.glob hg hcode C hP h2 hf hb fun ctv h' tk hk hsz => ?_
    have hn : H h'.objs.size = none := I.hok.fresh hsz
    have ow : Own X pins h'.objs.size := Own.fresh I hsz
    have I1 : Inv X pins σ H { s with heap := h'.push (PySem.W.kla_obj "<lambda>" (X.env.qual ++ "<lambda>") params body scope [] ((X.mg "__name__").getD .none) c' ctv), toks := tk } :=
      inv_touch (g' := s.gens) (t' := tk) (d' := s.drawn) (ch := []) I (fun b hb => by cases hb) (fun b hb => by cases hb) (fun b o _ e => Heap.get?_push_of_some _ (hk b o e)) I.bare
    have I2 := inv_track (o := .frz (PySem.W.kla_obj "<lambda>" (X.env.qual ++ "<lambda>") params body scope [] ((X.mg "__name__").getD .none) c' ctv) (.own 0)) I1 ow hn ⟨Heap.get?_push_size _ rfl, _, Heap.get?_push_size _ rfl⟩
    have st : ∀ a o, H a = some o → upd H h'.objs.size (.frz (PySem.W.kla_obj "<lambda>" (X.env.qual ++ "<lambda>") params body scope [] ((X.mg "__name__").getD .none) c' ctv) (.own 0)) a = some o := fun a o e => by rw [upd_ne (ne_of_none e hn)]; exact e
    refine q _ _ _ I2 ⟨_, ctv, c', oc, vs, t, upd_same, st _ _ a2, a3, a4⟩ ?_ ⟨fun a o _ e => st a o e, fun ps' e => ⟨#[], by rw [st _ _ e]; simp⟩⟩
    exact TabIn.up ⟨ps, h1, h2, h3⟩ (by rw [st _ _ h1, h1]) fun b o u e => st _ _ e
  | none =>
    have hgP : mainGlobals ≠ P := fun z => by
      obtain ⟨o, es, ep, e, hd, _⟩ := hg
      rw [z, hP] at e; cases e; cases hd
    refine PySem.W.kla_makeFunction hcl I.ok.glob hg hcode C hP h2 hf hgP hb fun c' ctv h' tk hx hge hlt hrec htb => ?_
    obtain ⟨c2, oc, vs, t, e2, hoc, hd, hv⟩ := hrec
    cases e2
    generalize hfo : PySem.W.kla_obj "<lambda>" (X.env.qual ++ "<lambda>") params body scope [] ((X.mg "__name__").getD .none) c' ctv = fo
    have hfr : (h'.push fo).get? h'.objs.size = some fo := by rw [← hfo]; exact Heap.get?_push_size _ rfl
    have hfn : H h'.objs.size = none := I.hok.fresh (Nat.le_trans hge (Nat.le_of_lt hlt))
    have hcn : H c' = none := I.hok.fresh hge
    have nPc : P ≠ c' := Nat.ne_of_lt (Nat.lt_of_lt_of_le hPl hge)
    have nPf : P ≠ h'.objs.size := Nat.ne_of_lt (Nat.lt_trans (Nat.lt_of_lt_of_le hPl hge) hlt)
    have ncf : c' ≠ h'.objs.size := Nat.ne_of_lt hlt
    have st : ∀ a o, a ≠ P → H a = some o → upd (upd (upd H P (.tbl (ps ++ #[rawInt lpos.line, rawInt lpos.col, .ref c']))) c' (.frz oc (.own 0))) h'.objs.size (.frz fo (.own 0)) a = some o := fun a o n e => by
      rw [upd_ne (ne_of_none e hfn), upd_ne (ne_of_none e hcn), upd_ne n]; exact e
    have atP : upd (upd (upd H P (.tbl (ps ++ #[rawInt lpos.line, rawInt lpos.col, .ref c']))) c' (.frz oc (.own 0))) h'.objs.size (.frz fo (.own 0)) P = some (.tbl (ps ++ #[rawInt lpos.line, rawInt lpos.col, .ref c'])) := by
      rw [upd_ne nPf, upd_ne nPc, upd_same]
    have atC : upd (upd (upd H P (.tbl (ps ++ #[rawInt lpos.line, rawInt lpos.col, .ref c']))) c' (.frz oc (.own 0))) h'.objs.size (.frz fo (.own 0)) c' = some (.frz oc (.own 0)) := by
      rw [upd_ne ncf, upd_same]
    have hno : ∀ a, H a = none → a ≠ P := fun a e z => by rw [z, h1] at e; cases e
    have keep : ∀ b o, b ≠ P → s.heap.get? b = some o → (h'.push fo).get? b = some o := fun b o n e => Heap.get?_push_of_some _ (hx b o n e)
    have inv : Inv X pins σ (upd (upd (upd H P (.tbl (ps ++ #[rawInt lpos.line, rawInt lpos.col, .ref c']))) c' (.frz oc (.own 0))) h'.objs.size (.frz fo (.own 0))) { s with heap := h'.push fo, toks := tk } := by
      refine I.call (g' := s.gens) (t' := tk) (d' := s.drawn) (ch := []) ⟨fun b o e n _ _ => keep b o (hno b n) e, fun b o e n _ _ => ⟨o.slots, keep b o (hno b n) e⟩, fun b o e n _ => ?_, fun b o e _ => ?_, fun b xs e => ?_, fun b o u e => ?_, fun b ps' e => ?_⟩ ?_ I.bare (fun b hb => by cases hb)
      · have hb := Heap.lt_size e
        rw [upd_ne (Nat.ne_of_lt (Nat.lt_trans (Nat.lt_of_lt_of_le hb hge) hlt)), upd_ne (Nat.ne_of_lt (Nat.lt_of_lt_of_le hb hge)), upd_ne (hno b n)]; exact n
      · by_cases z : b = P
        · subst z; exact ⟨_, Heap.get?_push_of_some _ htb⟩
        · exact ⟨o, keep b o z e⟩
      · exact st b _ (fun z => by rw [z, h1] at e; cases e) e
      · exact st b _ (fun z => by rw [z, h1] at e; cases e) e
      · by_cases z : b = P
        · subst z; rw [h1] at e; cases e; exact ⟨_, atP⟩
        · exact ⟨#[], by rw [st b _ z e]; simp⟩
      · intro a u e
        by_cases zf : a = h'.objs.size
        · subst zf; rw [upd_same] at e; cases e; exact ⟨hfr, _, hfr⟩
        · rw [upd_ne zf] at e
          by_cases zc : a = c'
          · subst zc; rw [upd_same] at e; cases e; exact ⟨Heap.get?_push_of_some _ hoc, _, Heap.get?_push_of_some _ hoc⟩
          · rw [upd_ne zc] at e
            by_cases zp : a = P
            · subst zp; rw [upd_same] at e; cases e; exact Heap.get?_push_of_some _ htb
            · rw [upd_ne zp] at e
              refine (I.hok a u e).stay (fun b o hb e' => keep b o ?_ e') (fun b e' => st b _ (fun z => by rw [z, h1] at e'; cases e') e') fun b xs e' => st b _ (fun z => by rw [z, h1] at e'; cases e') e'
              rcases hb with rfl | hb
              · exact zp
              · intro z; rw [z, h1] at hb; cases hb
    refine q _ _ _ inv ⟨_, ctv, c', oc, vs, t, by rw [upd_same, ← hfo], atC, hd, hv⟩ ?_ ⟨fun a o n e => st a o n e, fun ps' e => by rw [h1] at e; cases e; exact ⟨_, atP⟩⟩
    refine ⟨_, atP, ?_, fun pos v e => ?_⟩
    · have := TriplesOk_snoc lpos.line lpos.col (.ref c') ps.toList h2
      simpa using this
    · have e' : codeAmong pos (ps.toList ++ [rawInt lpos.line, rawInt lpos.col, .ref c']) = some v := by simpa using e
      rcases codeAmong_old h2 e' with z | z
      · obtain ⟨d, od, ws, u, a1, a2, a3⟩ := h3 pos v z
        exact ⟨d, od, ws, u, a1, st _ _ (fun y => by rw [y, h1] at a2; cases a2) a2, a3⟩
      · exact ⟨c', oc, vs, t, z, atC, hd, hv⟩
end
end R

end
section
/-! sorted(d.items(), key = lambda row: (-row[1], row[0])): the expression. -/
namespace R
open PySem PySem.Spec PyProof.Rows L2
variable [Mks]
structure M0 (X : Cx) (o : Expr) (m : Str) (apos cpos : Pos) : Prop where
  base : attributeBase o m X.env (eval o X.env) = eval o X.env
  few : ((backTo cpos (starEach [] X.env)).all (fun x => !x.1) && (backToKw cpos (keywordEach [] X.env)).all (fun x => x.1.isSome) && decide (([] : List Expr).length + ([] : List Keyword).length + (if ([] : List Keyword).isEmpty then 0 else 1) < 30)) = true
  line : (apos.endLine == cpos.line) = true
abbrev viewObj (d : Addr) : Obj := { cls := .type "dict_items", data := .fields #[.ref d] }
/-- d.items(): a view, known -/
def tItems (td : TE) : TE := fun σ H Q => td σ H fun x H1 => ∃ d rows, x = .ref d ∧ H1 d = some (.dK (dRows rows)) ∧ ∀ v, H1 v = none → Q (.ref v) (upd H1 v (.frz (viewObj d) (.own 0)))
theorem pe_items {X : Cx} {o : Expr} {apos cpos : Pos} {td : TE} (ho : PE X o td) (m : M0 X o "items" apos cpos) : PE X (.Call (.Attribute o "items" apos) [] [] cpos) (tItems td) := by
  intro pins s σ H Q I h
  refine wpAny_Call_method m.base m.few m.line PySem.F.plainAttrs_dict PySem.F.slot_dict_items PySem.F.type_dict_items (thn (ho pins s σ H _ I h) fun u s1 ⟨x, H1, I1, rx, d, rows, ex, hd, q1⟩ => ?_)
  subst ex
  obtain rfl : u = Value.ref d := rx
  obtain ⟨t1, t2, t3⟩ := isD_at I1 (.inl ⟨_, .inl hd⟩)
  obtain ⟨_, _, vs, _, hD⟩ := I1.hok d _ hd
  refine ⟨t1, t2, ?_⟩
  refine Calls.callWith_builtin rfl (PyProof.Rows.evalArgs_none ?_)
  refine PySem.call_meetsIn PySem.F.slot_dict_items hD.typeIs PySem.F.entry_dict_items (PySem.F.args_dict_items_1 _) (meets_dict_items (mixKind X.prog X.w) d t3) ⟨⟨vs, hD⟩, ?_⟩
  have hn : H1 s1.heap.objs.size = none := I1.hok.fresh (Nat.le_refl _)
  have I2 : Inv X pins σ H1 { s1 with heap := s1.heap.push (viewObj d) } := inv_touch (g' := s1.gens) (t' := s1.toks) (d' := s1.drawn) (ch := []) I1 (fun b hb => by cases hb) (fun b hb => by cases hb) (fun b o _ e => Heap.get?_push_of_some _ e) I1.bare
  have I3 := inv_track (o := .frz (viewObj d) (.own 0)) I2 (Own.fresh I1 (Nat.le_refl _)) hn ⟨Heap.get?_push_size _ rfl, _, Heap.get?_push_size _ rfl⟩
  exact ⟨.ref s1.heap.objs.size, _, I3, rfl, q1 _ hn⟩
/-- behind the view -/
def TallyK (Q : VK) (w : V) (H1 : Hp) : Prop := ∃ v d rows, w = .ref v ∧ H1 v = some (.frz (viewObj d) (.own 0)) ∧ H1 d = some (.dK (dRows rows)) ∧ rows.length < 64 ∧ TB H1 ∧
  ∀ (D : Addr) (H2 : Hp) (ts : List Addr), Ext [] H1 [] H2 → H1 D = none → H2 D = some (.lst (ts.map V.ref)) → ts.length = rows.length →
    (∀ (j : Nat) (t : Addr), ts[j]? = some t → ∃ r : Int × Int, (tallyL rows)[j]? = some r ∧ H2 t = some (.tup [.int r.1, .int r.2])) → Q (.ref D) H2
def tTally (td : TE) : TE := fun σ H Q => tItems td σ H (TallyK Q)
def oneK (k : VK) (vs : List V) (H : Hp) : Prop := match vs with | [w] => k w H | _ => False
theorem oneK_inv {k : VK} {vs : List V} {H : Hp} (h : oneK k vs H) : ∃ w, vs = [w] ∧ k w H := by
  unfold oneK at h
  split at h
  · exact ⟨_, rfl, h⟩
  · exact h.elim
/-- a step that only lets one table grow -/
theorem StepT.ext {P : Addr} {H H' : Hp} {ps : Array Value} (st : StepT P H H') (hP : H P = some (.tbl ps)) (tb : TB H') : Ext [] H [] H' := by
  have nP : ∀ a o, H a = some o → (∀ ps, o ≠ .tbl ps) → a ≠ P := fun a o e n z => by rw [z, hP] at e; cases e; exact n _ rfl
  refine ⟨List.prefix_refl _, ⟨fun a xs e => st.rest a _ (nP a _ e (by simp)) e, fun a o u e => st.rest a _ (nP a _ e (by simp)) e, fun _ => tb⟩, fun a o _ e => ⟨?_, by simp⟩⟩
  by_cases z : a = P
  · subst z
    obtain ⟨more, e'⟩ := st.tab ps hP
    rw [hP] at e; cases e
    exact .inr ⟨⟨_, rfl⟩, _, e'⟩
  · exact .inl (st.rest a o z e)
theorem tally_end {X : Cx} {pins : List (Addr × Obj)} {σ : L2.St} {H1 H2 : Hp} {s2 : Shared} {f v d : Addr} {q : Str} {params : Arguments} {body : Expr} {scope : Scope} {rows : List (Int × Int)} {Q : VK} (I2 : Inv X pins σ H2 s2) (hu : Room 1 X.A.in1.in1) (hs : FnScope ["row"] ["row"] scope)
    (hb : ∀ (pm cd ct u : Value), bindArgs (PySem.W.kla_fn "<lambda>" q params body scope [] pm cd ct) ⟨[u], []⟩ = pure [(("row" : Str), u)]) (ck : chkE noTab keyCE ["row"] scope body = true) (L : LamAt H2 f "<lambda>" q params body scope) (tb : TB H1) (x2 : Ext [] H1 [] H2)
    (hv : H1 v = some (.frz (viewObj d) (.own 0))) (hd : H1 d = some (.dK (dRows rows))) (h64 : rows.length < 64)
    (q1 : ∀ (D : Addr) (H2 : Hp) (ts : List Addr), Ext [] H1 [] H2 → H1 D = none → H2 D = some (.lst (ts.map V.ref)) → ts.length = rows.length → (∀ (j : Nat) (t : Addr), ts[j]? = some t → ∃ r : Int × Int, (tallyL rows)[j]? = some r ∧ H2 t = some (.tup [.int r.1, .int r.2])) → Q (.ref D) H2) :
    wpAny (model X.prog X.w) X.A (call (.builtin "sorted") [.ref v] [(Str.ofString "key", .ref f)]) (EP X pins σ Q) X.xe s2 := by
  have hv2 := x2.keep (by simp) hv (by simp)
  have hd2 := x2.keep (by simp) hd (by simp)
  have vw : s2.heap.IsItemsView v d := ⟨_, (I2.hok v _ hv2).1, rfl, rfl⟩
  refine sorted_wp I2 hu.hd hu L hs hb ck (x2.kp.tab tb) hd2 vw h64 fun D s3 tl => ?_
  obtain ⟨H3, ts, I3, x3, dn, dl, tl, tt⟩ := tl.ex
  refine ⟨.ref D, H3, I3, rfl, q1 D H3 ts (x2.trans x3) ?_ dl tl tt⟩
  cases e : H1 D with
  | none => rfl
  | some o =>
    exfalso
    have := (x2.rest D o (by simp) e).1
    rw [dn] at this
    rcases this with z | ⟨_, _, z⟩ <;> cases z
/-- a lambda -/
def tLam (q : Str) (params : Arguments) (body : Expr) (scope : Scope) : TE := fun σ H Q => TB H ∧ ∀ f H', LamAt H' f "<lambda>" q params body scope → Ext [] H [] H' → Q (.ref f) H'
section
variable {X : Cx} {o : Expr} {p apos cpos kpos lpos pos : Pos} {td : TE} {c P : Addr} {params : Arguments} {body : Expr} {scope : Scope}
/-- the code at hand makes functions: its table, and their name -/
structure Maker (X : Cx) (c P : Addr) : Prop where
  bm : BM X.mg X.base
  code : X.env.code = .ref c
  hd : PySem.W.codeHdIn X.K c P = true
  mem : (P, X.env.qual ++ "<lambda>") ∈ Mks.ts
  one : ∀ p ∈ Mks.ts, p.1 = P → p.2 = X.env.qual ++ "<lambda>"
theorem pe_lam (mk : Maker X c P) (hdef : defaultsOf params X.env = ([], [])) (hcl : closureFor scope X.env = pure []) : PE X (.Lambda params body scope lpos) (tLam (X.env.qual ++ "<lambda>") params body scope) := by
  intro pins s σ H Q I h
  obtain ⟨ps, hP, _⟩ := id (h.1 _ mk.mem)
  refine lam_make I mk.bm mk.code mk.hd (h.1 _ mk.mem) hdef hcl fun f H' s' J L T S => ⟨.ref f, H', J, rfl, h.2 f H' L (S.ext hP fun p hp => ?_)⟩
  by_cases z : p.1 = P
  · rw [mk.one p hp z, z]; exact T
  · obtain ⟨qs, hq, _⟩ := id (h.1 p hp)
    exact (h.1 p hp).up ((S.rest _ _ z hq).trans hq.symm) fun b o u e => S.rest b _ (fun y => by rw [y] at e; rw [hP] at e; cases e) e
theorem pe_tally (ho : PE X o td) (m : M0 X o "items" apos cpos) (hg : Gl X "sorted") (hm : X.mg "sorted" = none) (hu : Room 1 X.A.in1.in1) (mk : Maker X c P) (hdef : defaultsOf params X.env = ([], [])) (hcl : closureFor scope X.env = pure []) (hs : FnScope ["row"] ["row"] scope)
    (hb : ∀ (pm cd ct u : Value), bindArgs (PySem.W.kla_fn "<lambda>" (X.env.qual ++ "<lambda>") params body scope [] pm cd ct) ⟨[u], []⟩ = pure [(("row" : Str), u)]) (ck : chkE noTab keyCE ["row"] scope body = true) :
    PE X (.Call (.Name "sorted" p) [.Call (.Attribute o "items" apos) [] [] cpos] [⟨some "key", .Lambda params body scope lpos, kpos⟩] pos) (tTally td) := by
  intro pins s σ H Q I h
  refine wpAny_Call_Name_kw (ld_blt I hg hm (by rfl : bootBuiltins "sorted" = some (.builtin "sorted")) ?_ (by decide) (by decide))
  have ha : PA X [.Call (.Attribute o "items" apos) [] [] cpos] (tCons (tItems td) tNil) := pa_cons (pe_items ho m) pa_nil
  have hk : PK X [⟨some "key", .Lambda params body scope lpos, kpos⟩] (tCons (tLam (X.env.qual ++ "<lambda>") params body scope) tNil) := pk_cons (pe_lam mk hdef hcl) pk_nil
  refine PyProof.Rows.callWith_builtin_kwB rfl rfl (PyProof.Rows.evalArgs_kw2 rfl (thn (ha pos pins s σ H (oneK (TallyK Q)) I h) fun us s1 ⟨vs, H1, I1, r1, k1⟩ => ?_))
  obtain ⟨w, rfl, v, d, rows, ew, hv, hd, h64, tb, q1⟩ := oneK_inv k1
  subst ew
  obtain ⟨u, rfl, ru⟩ := Vals.one r1
  obtain rfl : u = Value.ref v := ru
  refine thn (hk pos pins s1 σ H1 (oneK fun w2 H2 => ∃ f, w2 = .ref f ∧ LamAt H2 f "<lambda>" (X.env.qual ++ "<lambda>") params body scope ∧ Ext [] H1 [] H2) I1 ⟨tb, fun f H2 L S => ⟨f, rfl, L, S⟩⟩) fun ws s2 ⟨zs, H2, I2, r2, k2⟩ => ?_
  obtain ⟨w2, rfl, f, ef, L, st⟩ := oneK_inv k2
  subst ef
  obtain ⟨u2, rfl, ru2⟩ := Vals.one r2
  obtain rfl : u2 = Value.ref f := ru2
  exact tally_end I2 hu hs hb ck L tb st hv hd h64 q1
end
end R

end
section
/-! The head of a law whose code makes functions: the tables stand, and grow. -/
namespace R
open PySem PySem.Spec PyProof.Rows L2
variable [Mks]
/-- the abstract heap at the law's start -/
def H0 (K : PySem.W.Frag) (a : Addr) (o : Obj) (xs : List V) : Hp := fun b => if b ∈ Mks.ts.map (·.1) then some (.tbl #[]) else if b = a then (match K.lookup a with | some _ => none | none => some (.frz o (.lst xs))) else none
theorem law_callT {P : Program} {w : World} {K : PySem.W.Frag} {mg mb : Str → Option Value} {k : Nat} {fa a : Addr} {fd : FuncData} {x : Str} {sp : Sp} {s₁ : Shared} {vs : List Value} {ns : List Int}
    (KX : K.In s₁.heap) (hns : s₁.heap.Ns mainGlobals mg) (hb : s₁.heap.Ns builtinsNs mb) (hbb : ∀ x : Str, x ≠ "__name__" → mb x = bootBuiltins x) (hlim : s₁.heap.NoLimit) (hg : s₁.gens = #[]) (bm : BM mg s₁.heap)
    (ha : s₁.heap.get? a = some { cls := .type "list", data := .seq vs.toArray }) (hi : IntsAre vs ns) (hl : ns.length ≤ sizeLine) (hr : Room k callerA)
    (tabs : ∀ p ∈ Mks.ts, s₁.heap.get? p.1 = some (PySem.W.tabObj #[]) ∧ K.lookup p.1 = none ∧ isCodeTable s₁.heap p.1)
    (F : ∀ base : Heap, K.In base → base.Ns mainGlobals mg → BM mg base → FnOk P w K mg base CX0 k fa fd [x] sp) (hbind : ∀ (s : Shared) (u : Value), BindsTo s fd ⟨[u], []⟩ [(x, u)])
    (hsp : ∀ H : Hp, FixL K H a (ns.map V.int) → TB H → sp [.ref a] H (fun v _ => v = .bl true) fun _ _ _ => False) :
    codeAny (model P w) callerA (.call (.ref fa) ⟨[.ref a], []⟩) (fun r s' => r = .ok (.ret (.bool true)) ∧ OldK s₁.heap s'.heap ∧ s'.os = s₁.os ∧ AllBare s'.gens) s₁ := by
  have rv := vals_ints hi
  have lenV := hi.length
  generalize hH : H0 K a { cls := .type "list", data := .seq vs.toArray } (ns.map V.int) = H
  have cs : ∀ b, H b = none ∨ ((∃ p ∈ Mks.ts, p.1 = b) ∧ H b = some (.tbl #[])) ∨ (b = a ∧ K.lookup a = none ∧ H b = some (.frz { cls := .type "list", data := .seq vs.toArray } (.lst (ns.map V.int)))) := fun b => by
    rw [← hH]
    unfold H0
    by_cases h1 : b ∈ Mks.ts.map (·.1)
    · obtain ⟨p, hp, e⟩ := List.mem_map.mp h1
      exact .inr (.inl ⟨⟨p, hp, e⟩, if_pos h1⟩)
    · rw [if_neg h1]
      by_cases h2 : b = a
      · rw [if_pos h2]
        cases e : K.lookup a with
        | some o => exact .inl rfl
        | none => exact .inr (.inr ⟨h2, rfl, rfl⟩)
      · rw [if_neg h2]; exact .inl rfl
  have tb : TB H := fun p hp => ⟨#[], by rw [← hH]; unfold H0; exact if_pos (List.mem_map.mpr ⟨p, hp, rfl⟩), trivial, fun pos v e => by simp [codeAmong] at e⟩
  have na : a ∉ Mks.ts.map (·.1) := fun z => by
    obtain ⟨p, hp, e⟩ := List.mem_map.mp z
    have := (tabs p hp).1
    rw [e, ha] at this; cases this
  have hx : FixL K H a (ns.map V.int) := by
    cases e : K.lookup a with
    | some o =>
      have e' := KX a o e
      rw [ha] at e'; cases e'
      exact .inr ⟨_, vs.toArray, _, e, rfl, rfl, rfl, by rw [List.size_toArray, lenV]; exact hl, by simpa using rv⟩
    | none =>
      refine .inl ⟨{ cls := .type "list", data := .seq vs.toArray }, ?_⟩
      rw [← hH]; unfold H0
      rw [if_neg na, if_pos rfl, e]
  have hok : HOk P w H s₁.heap := fun b u e => by
    rcases cs b with z | ⟨⟨p, hp, rfl⟩, z⟩ | ⟨rfl, _, z⟩
    · rw [z] at e; cases e
    · rw [z] at e; cases e; exact (tabs p hp).1
    · rw [z] at e; cases e; exact ⟨ha, by rw [List.length_map]; exact hl, vs, _, rv, ha⟩
  have noD : ∀ {b : Addr} {o : Obj}, s₁.heap.get? b = some o → (∀ xs n, o.data ≠ .seq xs n) → (∀ fs, o.data ≠ .fields fs) → H b = none := fun {b o} e n1 n2 => by
    rcases cs b with z | ⟨⟨p, hp, rfl⟩, _⟩ | ⟨rfl, _, _⟩
    · exact z
    · rw [(tabs p hp).1] at e; cases e; exact absurd rfl (n2 _)
    · rw [ha] at e; cases e; exact absurd rfl (n1 _ _)
  have base_of : ∀ {b : Addr} {o : Obj}, s₁.heap.get? b = some o → H b = none → (hidT s₁.heap H).get? b = some o := fun e n => hidT_get e n
  have nsK : ∀ {b : Addr} {m : Str → Option Value}, s₁.heap.Ns b m → (hidT s₁.heap H).Ns b m := fun {b m} ⟨o, es, ep, e, d, r⟩ => ⟨o, es, ep, base_of e (noD e (fun _ _ z => by rw [d] at z; cases z) fun _ z => by rw [d] at z; cases z), d, r⟩
  have hKb : K.In (hidT s₁.heap H) := fun b o e => base_of (KX b o e) (by
    rcases cs b with z | ⟨⟨p, hp, rfl⟩, _⟩ | ⟨rfl, z, _⟩
    · exact z
    · rw [(tabs p hp).2.1] at e; cases e
    · rw [z] at e; cases e)
  have hbm : BM mg (hidT s₁.heap H) := by
    obtain ⟨m, o, h1, h2, h3, h4, h5, h6, h7⟩ := bm
    exact ⟨m, o, h1, h2, h3, base_of h4 (noD h4 (fun _ _ z => by rw [h7] at z; cases z) fun _ z => by rw [h7] at z; cases z), h5, h6, h7⟩
  have hM : Mod K mg (hidT s₁.heap H) := ⟨hKb, nsK hns, ⟨mb, nsK hb, hbb⟩, let ⟨mc, h1, h2⟩ := hlim; ⟨mc, nsK h1, h2⟩⟩
  have e0 : Env0 P w K mg (hidT s₁.heap H) callerA [] s₁ H := ⟨rfl, hM, fun b o e => of_hidT e, Nat.le_of_eq (hidT_size _ _), trivial, fun b hb => absurd (show b ∈ ([] : List Addr) from hb) (by simp), hok, .of_eq hg⟩
  refine codeAny_mono ((F _ hKb (nsK hns) hbm).run callerA [] s₁ H ⟨[.ref a], []⟩ [.ref a] [.ref a] _ _ hr e0 (hbind s₁ (.ref a)) (.cons rfl .nil) (hsp H hx tb)) fun r s' h => ?_
  cases r with
  | error e => exact False.elim h
  | ok fl =>
    cases fl with
    | ret u =>
      obtain ⟨v, H', os, bare, un, hok', r', q⟩ := h
      have q' : v = .bl true := q
      subst q'
      obtain rfl : u = Value.bool true := r'
      have old : ∀ b o, s₁.heap.get? b = some o → asItWas s₁.heap s'.heap b o ∧ ∃ o', s'.heap.get? b = some o' := fun b o e => by
        rcases cs b with z | ⟨⟨p, hp, rfl⟩, z⟩ | ⟨rfl, _, z⟩
        · have k := un.keep b o e z (by intro y; exact absurd (show b ∈ ([] : List Addr) from y) (by simp)) (by simp)
          exact ⟨.inl k, _, k⟩
        · obtain ⟨more, z2⟩ := un.tbls _ _ z
          have k : s'.heap.get? p.1 = some (PySem.W.tabObj (#[] ++ more)) := hok' _ _ z2
          have e' := (tabs p hp).1
          rw [e'] at e; cases e
          exact ⟨.inr (.inl ⟨(tabs p hp).2.2, rfl, #[], more, rfl, k⟩), _, k⟩
        · have z2 := un.frzs _ _ _ z
          have k := (hok' _ _ z2).1
          rw [ha] at e; cases e
          exact ⟨.inl k, _, k⟩
      exact ⟨rfl, ⟨fun b o e => (old b o e).1, fun b o e => (old b o e).2⟩, os, bare⟩
    | _ => exact False.elim h
end R

end
section
/-! From k_head's goal, where a table stands outside of K. -/
namespace R
open PySem PySem.Spec PyProof.Rows L2
variable [Mks]
theorem walk_ofT {l : PySem.W.OpenLaw} {n k : Nat} {q : Program} {loose : List Str} {XP : (Str → Option Value) → Heap → Prop} {YP : World → Heap → Prop} {d : DefRec} {K : Params → PySem.W.Frag} {sp : World → Sp} {x : Str}
    (hn : l.most = some n) (hn2 : n ≤ sizeLine) (hdf : d.params.defaults = []) (hr : Room k callerA)
    (hY : ∀ (w : World) (h : Heap), YP w h → (K w.params).In h) (hT : ∀ (w : World) (h : Heap), YP w h → ∀ p ∈ Mks.ts, h.get? p.1 = some (PySem.W.tabObj #[]))
    (hK : ∀ (w : World), ∀ p ∈ Mks.ts, (K w.params).lookup p.1 = none ∧ ∃ c, PySem.W.codeHdIn (K w.params) c p.1 = true)
    (F : ∀ (w : World) (mg : Str → Option Value) (fa : Addr) (h : Heap), (K w.params).In h → h.Ns mainGlobals mg → mg d.name = some (.ref fa) →
      ∃ fd : FuncData, (∀ (s : Shared) (u : Value), BindsTo s fd ⟨[u], []⟩ [(x, u)]) ∧
        ∀ base : Heap, (K w.params).In base → base.Ns mainGlobals mg → BM mg base → FnOk l.prog w (K w.params) mg base CX0 k fa fd [x] (sp w))
    (hsp : ∀ (w : World) (H : Hp) (a : Addr) (ns : List Int), ns.length ≤ n → FixL (K w.params) H a (ns.map V.int) → TB H → sp w [.ref a] H (fun v _ => v = .bl true) fun _ _ _ => False) :
    PySem.W.WalkO q loose XP YP l.row.toRowW d [] (fun f vs => PySem.call f vs) := by
  refine Att.attach_call hn hdf fun w s₀ s₁ mg mb fa o pm cd doc a vs ns G Y ho hd hcd hmg hobj hints hlen hg => ?_
  have KX := hY w _ Y
  obtain ⟨fd, hb, hF⟩ := F w mg fa _ KX G.T.g hmg
  obtain ⟨bm, ob, b1, b2, b3, b4, b5, b6⟩ := G.T.bmain
  have hbG : bm ≠ mainGlobals := fun z => by
    obtain ⟨o, es, ep, e, hd, _⟩ := G.T.g
    rw [z, e] at b3; cases b3; rw [hd] at b6; cases b6
  refine law_callT KX G.T.g G.T.b G.T.builtins G.T.nolimit hg ⟨bm, ob, b1, b2, hbG, b3, b4, b5, b6⟩ hobj hints (Nat.le_trans hlen hn2) hr (fun p hp => ?_) hF hb fun H hx tb => hsp w H a ns hlen hx tb
  obtain ⟨k1, c, k2⟩ := hK w p hp
  have e := hT w _ Y p hp
  exact ⟨e, k1, ((PySem.W.codeHd_of_K KX k2).tab e).isCodeTable⟩
end R

end
section
/-! tally, taken as a whole. -/
namespace R
open PySem PySem.Spec PyProof.Rows L2
variable [Mks]
theorem putK_ne {κ : Type} [DecidableEq κ] {x : κ × V} {r : List (κ × V)} {k : κ} {v : V} (h : x.1 ≠ k) : putK (x :: r) k v = x :: putK r k v := by
  unfold putK
  have : decide (x.1 = k) = false := decide_eq_false h
  simp only [List.any_cons, this, Bool.false_or]
  split
  · rw [List.map_cons, if_neg h]
  · rfl
theorem put_bump : ∀ (rows : List (Int × Int)) (w : Int), (rows.map (·.1)).Nodup → ∃ c : Int, (valV (dRows rows) (.inl w)).getD (.int 0) = .int c ∧ putK (dRows rows) (.inl w) (.int (c + 1)) = dRows (bump rows w)
  | [], w, _ => ⟨0, rfl, rfl⟩
  | (k, c) :: r, w, nd => by
    simp only [List.map_cons, List.nodup_cons] at nd
    by_cases e : k = w
    · subst e
      refine ⟨c, by simp [dRows, valV], ?_⟩
      have hm : (dRows r).map (fun kv => if kv.1 = (Sum.inl k : Key) then (kv.1, V.int (c + 1)) else kv) = dRows r := by
        rw [List.map_congr_left (g := id), List.map_id]
        intro kv hkv
        unfold dRows at hkv
        obtain ⟨q, hq, rfl⟩ := List.mem_map.mp hkv
        have : q.1 ≠ k := fun z => nd.1 (z ▸ List.mem_map.mpr ⟨q, hq, rfl⟩)
        simp [this]
      have hd : dRows ((k, c) :: r) = (.inl k, .int c) :: dRows r := rfl
      unfold bump
      rw [if_pos rfl, hd]
      unfold putK
      have : (((Sum.inl k : Key), V.int c) :: dRows r).any (fun kv => decide (kv.1 = Sum.inl k)) = true := by simp
      rw [if_pos this, List.map_cons, hm, if_pos rfl]
      rfl
    · obtain ⟨d, h1, h2⟩ := put_bump r w nd.2
      have hne : (Sum.inl k : Key) ≠ Sum.inl w := fun z => e (Sum.inl.inj z)
      have hd : dRows ((k, c) :: r) = (.inl k, .int c) :: dRows r := rfl
      refine ⟨d, ?_, ?_⟩
      · rw [hd, ← h1]
        unfold valV
        rw [List.find?_cons_of_neg (by simpa using e)]
      · rw [hd, putK_ne hne, h2]
        have hb : bump ((k, c) :: r) w = (k, c) :: bump r w := by rw [bump, if_neg e]
        rw [hb]; rfl
theorem RVs.ofGet {K : PySem.W.Frag} {ι : List Addr} {H : Hp} : ∀ {ds : List D} {vs : List V}, ds.length = vs.length → (∀ (i : Nat) d v, ds[i]? = some d → vs[i]? = some v → RV K ι H d v) → RVs K ι H ds vs
  | [], [], _, _ => rfl
  | [], _ :: _, h, _ => by simp at h
  | _ :: _, [], h, _ => by simp at h
  | d :: ds, v :: vs, h, f => ⟨v, vs, rfl, f 0 d v rfl rfl, RVs.ofGet (by simpa using h) fun i a b h1 h2 => f (i + 1) a b (by simpa using h1) (by simpa using h2)⟩
theorem RH.add {K : PySem.W.Frag} {ι : List Addr} {H H' : Hp} {S : R.St} {p : Addr} {o : MO} (h : RH K ι H S) (x : Ext ι H (ι ++ [p]) H') (e : ∀ a ∈ ι, H' a = H a) (hp : p ∉ ι) (ho : RO K (ι ++ [p]) H' p o) : RH K (ι ++ [p]) H' (S.push o) := by
  refine ⟨by rw [List.length_append, h.len, push_len]; rfl, ?_, fun l o' q => ?_, x.kp.tab h.tab⟩
  · rw [List.nodup_append]
    refine ⟨h.nd, by simp, fun a ha b hb => ?_⟩
    simp at hb; subst hb
    exact fun z => hp (z ▸ ha)
  · by_cases hl : l < S.len
    · rw [get_push_lt hl] at q
      obtain ⟨a, h1, h2, hm⟩ := h.mem q
      exact ⟨a, pre_get (List.prefix_append _ _) h1, h2.stay x (e a hm)⟩
    · have hl2 := get_lt q
      rw [push_len] at hl2
      have : l = S.len := by omega
      subst this
      rw [get_push] at q; cases q
      exact ⟨p, by rw [← h.len]; simp, ho⟩
section
variable {X : Cx} {p1 p2 p3 p4 p5 p6 p7 p8 p9 p10 p11 p12 p13 p14 p15 p16 p17 p18 p19 p20 p21 p22 p23 p24 p25 p26 p27 p28 p29 : Pos} {k7 k15 k17 : Nat} {params : Arguments} {body : Expr} {scope : Scope}
def tallyB (p1 p2 p3 p4 p5 p6 p7 p8 p9 p10 p11 p12 p13 p14 p15 p16 p17 p18 p19 p20 p21 p22 p23 p24 p25 p26 p27 p28 p29 : Pos) (params : Arguments) (body : Expr) (scope : Scope) : List Stmt :=
  [.Assign [.Name "counts" p1] (.Dict [] [] p2) p3,
   .For (.Name "word" p4) (.Name "words" p5) [.If (.Compare (.Name "word" p6) [.IsNot] [.Constant .none 0 p7] p8)
     [.Assign [.Subscript (.Name "counts" p9) (.Name "word" p10) p11] (.BinOp (.Call (.Attribute (.Name "counts" p12) "get" p13) [.Name "word" p14, .Constant (.int 0) 0 p15] [] p16) .Add (.Constant (.int 1) 0 p17) p18) p19] [] p20] [] p21,
   .Return (some (.Call (.Name "sorted" p22) [.Call (.Attribute (.Name "counts" p23) "items" p24) [] [] p25] [⟨some "key", .Lambda params body scope p26, p27⟩] p28)) p29]
def tStep (K : PySem.W.Frag) : TS := tIfS (tTest (tOp (fun x y H Q => y = .non ∧ Q (.bl (!decide (x = .non))) H) (tVar 2) (tC .non))) (sDPut (tVar 1) (tVar 2) (tOp (rI0 fun i j => .int (i + j)) (tDGet2 (tVar 1) (tVar 2) (tC (.int 0))) (tC (.int 1)))) tNext
theorem ps_tally (hN : X.N = [("words" : Str), "counts", "word"]) (h0 : X.env.scope.names.lookup ("words" : Str) = some .local) (h1 : X.env.scope.names.lookup ("counts" : Str) = some .local) (h2 : X.env.scope.names.lookup ("word" : Str) = some .local) (hc : X.calm = true) (hx : X.xe = fun _ _ => False) (hu : X.A.units + 1 < cLine)
    (m2 : M2 X (.Name "counts" p12) "get" p13 (.Name "word" p14) (.Constant (.int 0) 0 p15) p16) (hs : swapsWith (.BinOp (.Call (.Attribute (.Name "counts" p12) "get" p13) [.Name "word" p14, .Constant (.int 0) 0 p15] [] p16) .Add (.Constant (.int 1) 0 p17) p18) (some (.Subscript (.Name "counts" p9) (.Name "word" p10) p11)) p19.line X.env = pure false)
    (hw : swapsWith (.Dict [] [] p2) (some (.Name "counts" p1)) p3.line X.env = pure false) {tr : TE} (hr : PE X (.Call (.Name "sorted" p22) [.Call (.Attribute (.Name "counts" p23) "items" p24) [] [] p25] [⟨some "key", .Lambda params body scope p26, p27⟩] p28) tr) :
    PSs X (tallyB p1 p2 p3 p4 p5 p6 p7 p8 p9 p10 p11 p12 p13 p14 p15 p16 p17 p18 p19 p20 p21 p22 p23 p24 p25 p26 p27 p28 p29 params body scope)
      (tSeq (tAsg tDNewK (gName 1)) (tSeq (tFor (iList X.K (tVar 0)) (gName 2) (tStep X.K)) (tRet tr))) := by
  have n0 : X.N[0]? = some ("words" : Str) := by rw [hN]; rfl
  have n1 : X.N[1]? = some ("counts" : Str) := by rw [hN]; rfl
  have n2 : X.N[2]? = some ("word" : Str) := by rw [hN]; rfl
  have nd : X.N.Nodup := by rw [hN]; decide
  have v0 : ∀ {p : Pos}, PE X (.Name "words" p) (tVar 0) := pe_var n0 (.inl h0)
  have v1 : ∀ {p : Pos}, PE X (.Name "counts" p) (tVar 1) := pe_var n1 (.inl h1)
  have v2 : ∀ {p : Pos}, PE X (.Name "word" p) (tVar 2) := pe_var n2 (.inl h2)
  have hp : PassesOwn (model X.prog X.w) X.A X.env X.xe := by rw [hx]; exact PassesOwn.never
  refine pss_cons (ps_set nd n1 (.inl h1) pe_dnewK hw (.inr h1)) (pss_cons (ps_for hp hc (pi_list v0) (pg_name nd n2 (.inl h2) (.inr h2)) (pss_one (ps_if (pt_cmpR op_notN v2 pe_non (nomark _)) (pss_one (ps_dput hu v1 v2 (pe_op op_add (pe_dget2 hu v1 v2 pe_int m2) pe_int) hs)) pss_nil))) (pss_one (ps_ret hr)))
theorem take_succ_map {os : List (Option Int)} {i : Nat} {o : Option Int} (h : os[i]? = some o) : os.take (i + 1) = os.take i ++ [o] := by
  rw [List.take_add_one, h]; rfl
theorem counts_snoc (kvs : List (Int × Int)) (os : List (Option Int)) (o : Option Int) : countsFrom kvs (os ++ [o]) = match o with | some x => bump (countsFrom kvs os) x | none => countsFrom kvs os := by
  unfold countsFrom
  rw [List.foldl_append]
  cases o <;> rfl
/-- the body of tally, run -/
theorem run_tally {K : PySem.W.Frag} {H : Hp} {a : Addr} {os : List (Option Int)} {Q : VK} {D0 : Ends} {tr : TE} (hD : D0.rt = Q) (ha : H a = some (.lst (os.map wV))) (hl : os.length ≤ sizeLine)
    (fin : ∀ (p : Addr) (σ : L2.St), H p = none → σ[1]? = some (some (.ref p)) → tr σ (upd H p (.dK (dRows (countsFrom [] os)))) Q) :
    (tSeq (tAsg tDNewK (gName 1)) (tSeq (tFor (iList K (tVar 0)) (gName 2) (tStep K)) (tRet tr))) D0 (start ["words", "counts", "word"] [.ref a]) H := by
  intro p hp
  have nap : a ≠ p := ne_of_none ha hp
  refine ⟨.ref a, rfl, a, rfl, ⟨_, SqL.of ((upd_ne nap).trans ha)⟩, ?_⟩
  refine for_list (xs := os.map wV) (fun i σ H' => (∃ z, σ = [some (.ref a), some (.ref p), z]) ∧ H' = upd H p (.dK (dRows (countsFrom [] (os.take i))))) ⟨⟨none, rfl⟩, rfl⟩ (fun i σ H' _ h => ?_) (fun i x σ H' hx h => ?_) fun σ H' h => ?_
  · rw [h.2]; exact SqL.of ((upd_ne nap).trans ha)
  · obtain ⟨⟨z, rfl⟩, rfl⟩ := h
    rw [List.getElem?_map] at hx
    cases e : os[i]? with
    | none => rw [e] at hx; cases hx
    | some o =>
      rw [e] at hx
      cases hx
      have hi : i < os.length := (List.getElem?_eq_some_iff.mp e).1
      show tStep K _ [some (.ref a), some (.ref p), some (wV o)] _
      refine ⟨wV o, rfl, rfl, _, rfl, ?_⟩
      rw [take_succ_map e, counts_snoc]
      cases o with
      | none => exact ⟨⟨_, rfl⟩, rfl⟩
      | some w =>
        obtain ⟨c, c1, c2⟩ := put_bump (countsFrom [] (os.take i)) w (countsFrom_nodup _ List.nodup_nil)
        have hlen : (dRows (countsFrom [] (os.take i))).length < sizeLine := by
          have := counts_len (os.take i)
          rw [List.length_take] at this
          unfold dRows
          rw [List.length_map]
          omega
        refine ⟨.ref p, rfl, p, rfl, .inl ⟨_, .inl upd_same⟩, .int w, rfl, _, DGet.k (k := .inl w) upd_same, c, 1, c1, rfl, .ref p, rfl, .int w, rfl, p, _, rfl, DPut.k (k := .inl w) upd_same hlen, ⟨⟨_, rfl⟩, ?_⟩⟩
        rw [upd_upd, c2]
  · obtain ⟨⟨z, rfl⟩, rfl⟩ := h
    rw [List.length_map, List.take_length]
    show tr _ _ D0.rt
    rw [hD]
    exact fin p _ hp rfl
/-- what tally leaves -/
theorem tally_left {K : PySem.W.Frag} {ι : List Addr} {H H2 : Hp} {S : R.St} {p v D0 : Addr} {o1 o2 : HO} {os : List (Option Int)} {ts : List Addr} (hh : RH K ι H S) (hp : H p = none) (hv : upd H p o1 v = none) (x : Ext [] (upd (upd H p o1) v o2) [] H2) (hD : upd (upd H p o1) v o2 D0 = none)
    (h2 : H2 D0 = some (.lst (ts.map V.ref))) (hl : ts.length = (countsFrom [] os).length) (ht : ∀ (j : Nat) (t : Addr), ts[j]? = some t → ∃ r : Int × Int, (tallyL (countsFrom [] os))[j]? = some r ∧ H2 t = some (.tup [.int r.1, .int r.2])) :
    Ext ι H (ι ++ [D0]) H2 ∧ RH K (ι ++ [D0]) H2 (S.push (.lst (talD os))) := by
  have k1 : Kp H (upd (upd H p o1) v o2) := (Kp.new hp o1).trans (Kp.new hv o2)
  have up : ∀ a o, H a = some o → upd (upd H p o1) v o2 a = some o := fun a o e => by
    have e1 : upd H p o1 a = some o := (upd_ne (ne_of_none e hp)).trans e
    exact (upd_ne (ne_of_none e1 hv)).trans e1
  have hDn : H D0 = none := by
    cases e : H D0 with
    | none => rfl
    | some o => rw [up _ _ e] at hD; cases hD
  have hDi : D0 ∉ ι := hh.fresh hDn
  have ex : Ext ι H (ι ++ [D0]) H2 := ⟨List.prefix_append _ _, k1.trans x.kp, fun a o h e => ⟨(x.rest a o (by simp) (up a o e)).1, fun z => by
    rcases List.mem_append.mp z with z | z
    · exact h z
    · simp at z; exact ne_of_none e hDn z⟩⟩
  refine ⟨ex, hh.add ex (fun a hm => ?_) hDi ⟨_, h2, RVs.ofGet ?_ fun i d w e1 e2 => ?_⟩⟩
  · obtain ⟨o, e, _, _, nt⟩ := hh.live hm
    rw [e]
    exact x.keep (by simp) (up a o e) nt
  · unfold talD
    rw [List.length_map, List.length_map, hl]
    unfold tallyL
    rw [List.length_mergeSort]
  · rw [List.getElem?_map] at e2
    unfold talD at e1
    rw [List.getElem?_map] at e1
    cases z : ts[i]? with
    | none => rw [z] at e2; cases e2
    | some t =>
      rw [z] at e2; cases e2
      obtain ⟨r, r1, r2⟩ := ht i t z
      rw [r1] at e1; cases e1
      exact ⟨t, _, rfl, r2, _, _, rfl, rfl, _, _, rfl, rfl, rfl⟩
end
end R

end
section
namespace R
open PySem PySem.Spec PyProof.Rows L2
variable [Mks]
theorem prm_tally_inv {S : R.St} {ds : List D} {Q : D → R.St → Prop} (h : W (prm S .tally ds) Q) : ∃ l ws os, ds = [.ref l] ∧ S.get l = some (.lst ws) ∧ wordsOf ws = some os ∧ (countsFrom [] os).length < 64 ∧ os.length ≤ 16777216 ∧ Q (.ref S.len) (S.push (.lst (talD os))) := by
  unfold prm at h
  split at h
  · rename_i l _
    split at h
    · rename_i ws e
      split at h
      · rename_i os e2
        split at h
        · rename_i c
          exact ⟨l, ws, os, rfl, e, e2, c.1, c.2, h⟩
        · exact h.elim
      · exact h.elim
    · exact h.elim
  · exact h.elim
/-- what is asked of the text of tally -/
structure TallySt (st : Stmt) : Prop where
  ex : ∃ (p1 p2 p3 p4 p5 p6 p7 p8 p9 p10 p11 p12 p13 p14 p15 p16 p17 p18 p19 p20 p21 p22 p23 p24 p25 p26 p27 p28 p29 : Pos) (params : Arguments) (body : Expr) (scope : Scope), defBody st = tallyB p1 p2 p3 p4 p5 p6 p7 p8 p9 p10 p11 p12 p13 p14 p15 p16 p17 p18 p19 p20 p21 p22 p23 p24 p25 p26 p27 p28 p29 params body scope ∧
    (p13.endLine == p16.line) = true ∧ (p24.endLine == p25.line) = true ∧ (∀ env, defaultsOf params env = ([], [])) ∧ (∀ env, closureFor scope env = pure []) ∧ FnScope ["row"] ["row"] scope ∧ chkE noTab keyCE ["row"] scope body = true ∧
    ∀ (q : Str) (pm cd ct u : Value), bindArgs (PySem.W.kla_fn "<lambda>" q params body scope [] pm cd ct) ⟨[u], []⟩ = pure [(("row" : Str), u)]
  sc : FnScope ["words", "counts", "word"] ["words"] (defScope st)
  h0 : (defScope st).names.lookup ("words" : Str) = some .local
  h1 : (defScope st).names.lookup ("counts" : Str) = some .local
  h2 : (defScope st).names.lookup ("word" : Str) = some .local
  hg : (defScope st).names.lookup ("sorted" : Str) = some .globalImplicit
theorem tally_ok {P : Program} {w : World} {K : PySem.W.Frag} {mg : Str → Option Value} {base : Heap} {Pg : List Fn} {n fi : Nat} {x qual : Str} {st : Stmt} {f c Tb : Addr} {oc : Value} {od an : Option Addr} {osl : Array (Option Value)} {dV kV doc pm ct : Value} {F : Fn}
    (lk : K.lookup f = some ⟨oc, od, .func (PySem.W.fnOf x qual (defArgs st) (defBody st) (defScope st) dV kV doc pm an (.ref c) ct), osl⟩) (hcd : PySem.W.codeIn K (.ref c) qual = true) (hC : PySem.W.codeHdIn K c Tb = true) (T : TallySt st) (bm : BM mg base)
    (mem : (Tb, qual ++ ".<locals>." ++ "<lambda>") ∈ Mks.ts) (one : ∀ p ∈ Mks.ts, p.1 = Tb → p.2 = qual ++ ".<locals>." ++ "<lambda>") (hm : mg "sorted" = none) (hP : Pg[fi]? = some F) (hq : F.prim = some .tally) (hp : F.np = 1) (hn : 3 ≤ n) :
    FnOk P w K mg base CX0 (n + 1) f (PySem.W.fnOf x qual (defArgs st) (defBody st) (defScope st) dV kV doc pm an (.ref c) ct) ["words"] (spF K (callF Pg (n + 1)) fi) := by
  obtain ⟨p1, p2, p3, p4, p5, p6, p7, p8, p9, p10, p11, p12, p13, p14, p15, p16, p17, p18, p19, p20, p21, p22, p23, p24, p25, p26, p27, p28, p29, params, body, scope, eb, l1, l2, hdef, hcl, hs, ck, hb⟩ := T.ex
  refine fn_of lk hcd T.sc (fun vs H Q E h => spF_len (ps := ["words"]) hP hp h) fun A outer s H vs Q E hr h => ?_
  obtain ⟨ι, S0, ds, r, hh, hw⟩ := h
  simp only [callF, hP, hq, hn, if_true] at hw
  split at hw
  · obtain ⟨l, ws, os, rfl, hg, ho, c64, cl, q⟩ := prm_tally_inv hw
    have room : Room 1 ((cxOf CX0 P w K mg base ["words", "counts", "word"] qual (defScope st) f (.ref c) A outer s H E).nox).A.in1.in1 := ((hr.mono hn).in1).in1
    have hu : ((cxOf CX0 P w K mg base ["words", "counts", "word"] qual (defScope st) f (.ref c) A outer s H E).nox).A.units + 1 < cLine := by have := hr.un; show (A.deeper _).units + 1 < _; omega
    have mk : Maker ((cxOf CX0 P w K mg base ["words", "counts", "word"] qual (defScope st) f (.ref c) A outer s H E).nox) c Tb := ⟨bm, rfl, hC, mem, one⟩
    have hpe := pe_tally (X := (cxOf CX0 P w K mg base ["words", "counts", "word"] qual (defScope st) f (.ref c) A outer s H E).nox) (p := p22) (lpos := p26) (kpos := p27) (pos := p28) (pe_var (pos := p23) (i := 1) (x := "counts") rfl (.inl T.h1)) (apos := p24) (cpos := p25) ⟨rfl, rfl, l2⟩ T.hg hm room mk (hdef _) (hcl _) hs (hb _) ck
    have ht := ps_tally (X := (cxOf CX0 P w K mg base ["words", "counts", "word"] qual (defScope st) f (.ref c) A outer s H E).nox) (p1 := p1) (p2 := p2) (p3 := p3) (p4 := p4) (p5 := p5) (p6 := p6) (p7 := p7) (p8 := p8) (p9 := p9) (p10 := p10) (p11 := p11) (p12 := p12) (p13 := p13) (p14 := p14) (p15 := p15) (p16 := p16) (p17 := p17) (p18 := p18) (p19 := p19) (p20 := p20) (p21 := p21) (p29 := p29)
      rfl T.h0 T.h1 T.h2 rfl rfl hu ⟨rfl, rfl, l1, rfl⟩ rfl rfl hpe
    refine ⟨_, by rw [eb]; exact ht.nox, ?_⟩
    obtain ⟨v, r0, rfl, rv, rn⟩ := r
    cases (show r0 = [] from rn)
    obtain ⟨a, ia, rfl⟩ := rv
    obtain ⟨b, ib, xs, hb2, rr⟩ := hh.obj l _ hg
    rw [ia] at ib; cases ib
    rw [words_get ho] at rr
    cases words_vs rr
    refine run_tally rfl hb2 (by rw [sizeLine_eq]; exact cl) fun p σ hp1 hσ => ?_
    refine ⟨.ref p, hσ, p, _, rfl, upd_same, fun v hv => ⟨v, p, _, rfl, upd_same, ?_, c64, ?_, fun D0 H2 ts x hD h2 hl ht => ?_⟩⟩
    · rw [upd_ne (ne_of_none upd_same hv)]; exact upd_same
    · exact (Kp.new hv _).tab ((Kp.new hp1 _).tab hh.tab)
    · obtain ⟨ex, rh⟩ := tally_left hh hp1 hv x hD h2 hl ht
      exact q _ _ (ι ++ [D0]) ex ⟨D0, hh.last D0, rfl⟩ rh
  · exact hw.elim
end R

end
section
/-! tally, for the mathematics of the laws. -/
namespace R
def oD : Option Int → D | some i => .int i | none => .non
theorem words_oD : ∀ os : List (Option Int), wordsOf (os.map oD) = some os
  | [] => rfl
  | o :: os => by
    unfold wordsOf
    rw [List.map_cons, List.mapM_cons, show (os.map oD).mapM wordOf = some os from words_oD os]
    cases o <;> rfl
theorem flats_tal (n : Nat) (os : List (Option Int)) : flats n (talD os) = true := by
  rw [flats_iff]
  intro d hd
  obtain ⟨r, _, rfl⟩ := List.mem_map.mp hd
  simp [rowD]
theorem app_tally {P : List Fn} {F : Fn} {f n l : Nat} {S : R.St} {os : List (Option Int)} (hP : P[f]? = some F) (hq : F.prim = some .tally) (hn : F.np = 1) (h : S.get l = some (.lst (os.map oD))) (hc : (countsFrom [] os).length < 64) (hl : os.length ≤ 16777216) : app (callF P (n+4)) f [.ref l] S = .ok (.ref S.len) (S.push (.lst (talD os))) := by
  have e : callF P (n + 4) f [.ref l] S.enter = .ok (.ref S.len) (S.enter.push (.lst (talD os))) := by
    have h3 : 3 ≤ n + 3 := by omega
    simp only [callF, hP, hq, hn, List.length_cons, List.length_nil, Nat.zero_add, if_true, h3]
    unfold prm
    dsimp only
    rw [get_enter, h]
    dsimp only
    rw [words_oD]
    dsimp only
    rw [if_pos ⟨hc, hl⟩, enter_len]
  unfold app
  rw [e, bind_ok]
  unfold leave
  have hg : (S.enter.push (.lst (talD os))).get S.len = some (.lst (talD os)) := by
    have := get_new0 (S.frz ++ S.new) [.lst (talD os)] []
    rw [len_def] at this
    exact this
  rw [if_neg (by simp [flat])]
  dsimp only
  rw [hg]
  dsimp only
  rw [if_pos (flats_tal _ _)]
theorem tal_perm (rows : List (Int × Int)) : (tallyL rows).Perm rows := List.mergeSort_perm rows rowLe
theorem tal_mem {rows : List (Int × Int)} {r : Int × Int} : r ∈ tallyL rows ↔ r ∈ rows := (tal_perm rows).mem_iff
theorem tal_sorted (rows : List (Int × Int)) : (tallyL rows).Pairwise fun a b => rowLe a b = true := by
  refine List.pairwise_mergeSort (fun a b c h1 h2 => ?_) (fun a b => ?_) rows
  · simp only [rowLe, decide_eq_true_eq] at h1 h2 ⊢; omega
  · simp only [rowLe, Bool.or_eq_true, decide_eq_true_eq]; omega
open PySem (PyData)
theorem mapM_get {α β : Type} {f : α → Option β} : ∀ {xs : List α} {ys : List β}, xs.mapM f = some ys → ∀ y ∈ ys, ∃ x ∈ xs, f x = some y
  | [], ys, h, y, hy => by simp at h; subst h; cases hy
  | x :: xs, ys, h, y, hy => by
    rw [List.mapM_cons] at h
    cases e : f x with
    | none => rw [e] at h; cases h
    | some z =>
      rw [e] at h
      cases e2 : xs.mapM f with
      | none => rw [e2] at h; cases h
      | some zs =>
        rw [e2] at h
        injection h with h
        subst h
        rcases List.mem_cons.mp hy with rfl | hy
        · exact ⟨x, by simp, e⟩
        · obtain ⟨u, hu, eu⟩ := mapM_get e2 y hy
          exact ⟨u, by simp [hu], eu⟩
theorem eqvAll_refl : ∀ {xs : List PyData}, (∀ x ∈ xs, PyData.eqv x x = true) → PyData.eqvAll xs xs = true
  | [], _ => by simp [PyData.eqvAll]
  | x :: xs, h => by simp [PyData.eqvAll, h x (by simp), eqvAll_refl (xs := xs) fun y hy => h y (by simp [hy])]
/-- data is like itself -/
theorem pd_refl {S : St} : ∀ {n : Nat} {d : D} {a : PyData}, pd S n d = some a → PyData.eqv a a = true := by
  intro n
  induction n with
  | zero =>
    intro d a h
    cases d <;> simp only [pd] at h
    · cases h; simp [PyData.eqv]
    · cases h; simp [PyData.eqv]
    · cases h; simp [PyData.eqv]
    · split at h
      · cases h; simp [PyData.eqv]
      · cases h
    · cases h
    · cases h
    · cases h
  | succ n ih =>
    intro d a h
    cases d <;> simp only [pd] at h
    · cases h; simp [PyData.eqv]
    · cases h; simp [PyData.eqv]
    · cases h; simp [PyData.eqv]
    · split at h
      · cases h; simp [PyData.eqv]
      · cases h
    · rename_i ds
      cases e : ds.mapM (pd S n) with
      | none => rw [e] at h; cases h
      | some xs =>
        rw [e] at h
        cases h
        rw [PyData.eqv]
        exact eqvAll_refl fun x hx => let ⟨d, _, hd⟩ := mapM_get e x hx; ih hd
    · split at h
      · rename_i ds _
        cases e : ds.mapM (pd S n) with
        | none => rw [e] at h; cases h
        | some xs =>
          rw [e] at h
          cases h
          rw [PyData.eqv]
          exact eqvAll_refl fun x hx => let ⟨d, _, hd⟩ := mapM_get e x hx; ih hd
      · cases h
    · cases h
theorem eqD_of {S : St} {x y : D} {a : PyData} (h1 : pd S 60 x = some a) (h2 : pd S 60 y = some a) : eqD S x y = some true := by
  unfold eqD
  rw [h1, h2]
  exact congrArg some (pd_refl h1)
theorem push_get (S : St) (o : MO) : (S.push o).get S.len = some o := by
  have h : ¬ S.len < S.frz.length := by unfold St.len; omega
  unfold St.get St.push
  simp only [h, if_false]
  unfold St.len
  simp
theorem push_old {S : St} {l : Nat} {o u : MO} (e : S.get l = some u) : (S.push o).get l = some u := by
  have h := get_lt e
  unfold St.len at h
  unfold St.get at e ⊢
  unfold St.push
  simp only
  split
  · rename_i c; rw [if_pos c] at e; exact e
  · rename_i c; rw [if_neg c] at e; rw [List.getElem?_append_left (by omega)]; exact e
theorem put_some {S : St} {l : Nat} (o : MO) (h1 : S.frz.length ≤ l) (h2 : S.lk.contains l = false) : ∃ S', S.put l o = some S' ∧ S'.frz = S.frz ∧ S'.lk = S.lk ∧ S'.len = S.len ∧ (∀ m, m ≠ l → S'.get m = S.get m) ∧ (l < S.len → S'.get l = some o) := by
  refine ⟨{ S with new := S.new.set (l - S.frz.length) o }, ?_, rfl, rfl, by simp [St.len], fun m hm => ?_, fun hl => ?_⟩
  · unfold St.put
    rw [if_neg (by omega), h2]; rfl
  · unfold St.get
    simp only
    split
    · rfl
    · rw [List.getElem?_set_ne (by omega)]
  · unfold St.len at hl
    unfold St.get
    simp only [show ¬ l < S.frz.length by omega, if_false]
    rw [List.getElem?_set_self (by omega)]
theorem valP_put (kvs : List (List Int × D)) (k j : List Int) (v : D) : valP (putP kvs k v) j = if j = k then some v else valP kvs j := by
  induction kvs with
  | nil =>
    by_cases c : j = k
    · subst c; simp [putP, valP]
    · have c' : ¬ k = j := fun z => c z.symm
      simp [putP, valP, c, c']
  | cons a r ih =>
    obtain ⟨i, d⟩ := a
    unfold putP
    by_cases e : i = k
    · subst e
      rw [if_pos rfl]
      by_cases c : j = i
      · subst c; simp [valP]
      · have c' : ¬ i = j := fun z => c z.symm
        simp [valP, c, c']
    · rw [if_neg e]
      by_cases c : i = j
      · subst c
        simp [valP, e]
      · have h1 : valP ((i, d) :: putP r k v) j = valP (putP r k v) j := by simp [valP, c]
        have h2 : valP ((i, d) :: r) j = valP r j := by simp [valP, c]
        rw [h1, h2, ih]
theorem putP_len (kvs : List (List Int × D)) (k : List Int) (v : D) : (putP kvs k v).length = kvs.length + if (valP kvs k).isSome then 0 else 1 := by
  induction kvs with
  | nil => simp [putP, valP]
  | cons a r ih =>
    obtain ⟨i, d⟩ := a
    unfold putP
    by_cases e : i = k
    · subst e; simp [valP]
    · have h2 : valP ((i, d) :: r) k = valP r k := by simp [valP, e]
      rw [if_neg e, h2, List.length_cons, ih]
      simp; omega
theorem keyOf_ints (p : List Int) : keyOf (.tup (p.map .int)) = some p := by
  show intsOf (p.map .int) = some p
  unfold intsOf
  induction p with
  | nil => rfl
  | cons k ks ih => rw [List.map_cons, List.mapM_cons, ih]; rfl
theorem dGet_of {S : St} {l : Nat} {kvs : List (List Int × D)} (h : S.get l = some (.dtp kvs)) (p : List Int) : dGet S (.ref l) (.tup (p.map .int)) = some (valP kvs p) := by
  unfold dGet
  dsimp only
  rw [h]
  dsimp only
  rw [keyOf_ints]; rfl
theorem dPut_of {S : St} {l : Nat} {kvs : List (List Int × D)} (h : S.get l = some (.dtp kvs)) (h1 : S.frz.length ≤ l) (h2 : S.lk.contains l = false) (h3 : kvs.length < 16777216) (p : List Int) (v : D) :
    ∃ S', dPut S (.ref l) (.tup (p.map .int)) v = some S' ∧ S'.frz = S.frz ∧ S'.lk = S.lk ∧ S'.len = S.len ∧ (∀ m, m ≠ l → S'.get m = S.get m) ∧ S'.get l = some (.dtp (putP kvs p v)) := by
  obtain ⟨S', e1, e2, e3, e4, e5, e6⟩ := put_some (S := S) (l := l) (.dtp (putP kvs p v)) h1 h2
  refine ⟨S', ?_, e2, e3, e4, e5, e6 (get_lt h)⟩
  unfold dPut
  dsimp only
  rw [h]
  dsimp only
  rw [keyOf_ints]
  dsimp only [Option.bind_some]
  rw [if_pos h3, e1]
theorem eqD_int (S : St) (i j : Int) : eqD S (.int i) (.int j) = some (i == j) := by
  unfold eqD
  have e : ∀ k, pd S 60 (.int k) = some (.int k) := fun k => rfl
  rw [e, e]
  show some (PyData.eqv (.int i) (.int j)) = _
  rw [L2.eqv_int]
theorem inD_ints (S : St) (x : Int) : ∀ ks : List Int, inD S (.int x) (ks.map .int) = some (decide (x ∈ ks)) := by
  intro ks
  have e : (ks.map D.int).mapM (fun z => eqD S z (.int x)) = some (ks.map fun k => k == x) := by
    induction ks with
    | nil => rfl
    | cons k ks ih => rw [List.map_cons, List.mapM_cons, eqD_int, ih]; rfl
  have f : ∀ ks : List Int, ((ks.map fun k => k == x).any id) = decide (x ∈ ks) := by
    intro ks
    induction ks with
    | nil => rfl
    | cons k ks ih =>
      rw [List.map_cons, List.any_cons, ih]
      by_cases c : k = x
      · subst c; simp
      · have c' : ¬ x = k := fun z => c z.symm
        have b : (k == x) = false := beq_eq_false_iff_ne.mpr c
        simp only [b, id, Bool.false_or, List.mem_cons, c', false_or]
  unfold inD
  rw [e]
  exact congrArg some (f ks)
theorem notIn_tup (S : St) (x : Int) (ks : List Int) : cmpO S .NotIn (.int x) (.tup (ks.map .int)) = some (!decide (x ∈ ks)) := by
  show ((some (ks.map D.int)).bind fun ys => inD S (.int x) ys).map (!·) = _
  rw [Option.bind_some, inD_ints]; rfl
/-- how often it stands there -/
def cntZ (os : List (Option Int)) : Option Int → Int
  | some w => (os.count (some w) : Nat)
  | none => 0
theorem take_snoc {α : Type} {os : List α} {i : Nat} {o : α} (h : os[i]? = some o) : os.take (i + 1) = os.take i ++ [o] := by
  rw [List.take_add_one, h]; rfl
theorem atI_nat {α : Type} {xs : List α} {k : Nat} {x : α} (h : xs[k]? = some x) : R.atI xs (k : Int) = some x := by
  have hl := (List.getElem?_eq_some_iff.mp h).1
  have e : R.ixN xs.length (k : Int) = some k := by simp [R.ixN, hl]
  unfold R.atI
  rw [e]; exact h
theorem atI_0 {α : Type} {x : α} {xs : List α} : R.atI (x :: xs) 0 = some x := by
  have : R.ixN (x :: xs).length 0 = some 0 := by simp [R.ixN]
  unfold R.atI; rw [this]; rfl
def cellZ (ns : List Int) (k : Nat) : Int := match ns[k]? with | some v => v % 10 ^ 64 | none => 0
/-! the sum of the counts -/
end R

end
section
/-! Trees of what was told. -/
namespace R
/-- the word that stands most often, of several the least, and how often -/
def topR (os : List (Option Int)) : Int × Int := match tallyL (countsFrom [] os) with | r :: _ => r | [] => (0, 0)
def topOf (ws : List Int) : Int := (topR (ws.map some)).1
/-- the hands 0 to n - 1 -/
def hnds (n : Nat) : List Int := (List.range n).map fun (k : Nat) => (k : Int)
theorem hnds_nodup (n : Nat) : (hnds n).Nodup := by
  unfold hnds List.Nodup
  rw [List.pairwise_map]
  exact List.Pairwise.imp (fun {a b} h e => h (by exact_mod_cast e)) List.nodup_range
theorem hnds_mem {n : Nat} {x : Int} : x ∈ hnds n ↔ 0 ≤ x ∧ x < n := by
  unfold hnds
  constructor
  · intro h
    obtain ⟨k, hk, rfl⟩ := List.mem_map.mp h
    rw [List.mem_range] at hk
    omega
  · intro h
    exact List.mem_map.mpr ⟨x.toNat, List.mem_range.mpr (by omega), by omega⟩
def oth (n : Nat) (h : Int) (p : List Int) : List Int := (hnds n).filter fun o => !decide (o = h) && !decide (o ∈ p)
theorem oth_mem {n : Nat} {h o : Int} {p : List Int} : o ∈ oth n h p ↔ (0 ≤ o ∧ o < n) ∧ o ≠ h ∧ o ∉ p := by
  unfold oth
  rw [List.mem_filter, hnds_mem]
  simp
theorem oth_nodup (n : Nat) (h : Int) (p : List Int) : (oth n h p).Nodup := (hnds_nodup n).filter _
/-- the word taken at p by h's notes, k rounds above the last -/
def tkn (L : List Int → Option Int) (n : Nat) (h : Int) : Nat → List Int → Int
  | 0, p => topOf [(L p).getD 0]
  | k + 1, p => topOf ((L p).getD 0 :: (oth n h p).map fun o => tkn L n h k (p ++ [o]))
end R

end
section
/-! Trees of what was told: plain mathematics. -/
namespace R
def IsTop (os : List (Option Int)) (b : Int × Int) : Prop := ((∀ x, some x ∉ os) ∧ b = (0, 0)) ∨ (some b.1 ∈ os ∧ b.2 = cntZ os (some b.1) ∧ ∀ x, some x ∈ os → cntZ os (some x) < b.2 ∨ (cntZ os (some x) = b.2 ∧ b.1 ≤ x))
theorem isTop_one {os : List (Option Int)} {b d : Int × Int} (h : IsTop os b) (k : IsTop os d) : b = d := by
  obtain ⟨b1, b2⟩ := b
  obtain ⟨d1, d2⟩ := d
  rcases h with ⟨h1, h2⟩ | ⟨h1, h2, h3⟩
  · rcases k with ⟨k1, k2⟩ | ⟨k1, _⟩
    · rw [h2, k2]
    · exact absurd k1 (h1 _)
  · rcases k with ⟨k1, k2⟩ | ⟨k1, k2, k3⟩
    · exact absurd h1 (k1 _)
    · have p := h3 _ k1
      have q := k3 _ h1
      dsimp only at *
      have e : b1 = d1 := by omega
      subst e
      rw [h2, k2]
theorem topR_is (os : List (Option Int)) : IsTop os (topR os) := by
  unfold topR
  cases e : tallyL (countsFrom [] os) with
  | nil =>
    refine .inl ⟨fun x hx => ?_, rfl⟩
    have := (tal_mem (r := (x, ((os.count (some x) : Nat) : Int)))).mpr (counts_row.mpr ⟨hx, rfl⟩)
    rw [e] at this
    cases this
  | cons r rows =>
    have hr : r ∈ countsFrom [] os := tal_mem.mp (by rw [e]; simp)
    obtain ⟨r1, r2⟩ := r
    obtain ⟨h1, h2⟩ := counts_row.mp hr
    refine .inr ⟨h1, h2, fun x hx => ?_⟩
    have := (tal_mem (r := (x, ((os.count (some x) : Nat) : Int)))).mpr (counts_row.mpr ⟨hx, rfl⟩)
    have so := tal_sorted (countsFrom [] os)
    rw [e] at this so
    rcases List.mem_cons.mp this with z | z
    · cases z; exact .inr ⟨rfl, Int.le_refl _⟩
    · have := (List.pairwise_cons.mp so).1 _ z
      simp only [rowLe, decide_eq_true_eq] at this
      show ((os.count (some x) : Nat) : Int) < r2 ∨ _
      dsimp only at *
      show ((os.count (some x) : Nat) : Int) < r2 ∨ (((os.count (some x) : Nat) : Int) = r2 ∧ r1 ≤ x)
      omega
theorem cnt_some : ∀ (ws : List Int) (y : Int), (ws.map some).count (some y) = ws.count y
  | [], _ => rfl
  | w :: ws, y => by simp [List.count_cons, cnt_some ws y]
theorem nodup_sub {α : Type} [DecidableEq α] : ∀ {A B : List α}, A.Nodup → (∀ x ∈ A, x ∈ B) → A.length ≤ B.length
  | [], _, _, _ => Nat.zero_le _
  | a :: A, B, nd, h => by
    rw [List.nodup_cons] at nd
    have ha := h a (by simp)
    have ih := nodup_sub (A := A) (B := B.erase a) nd.2 fun x hx => (List.mem_erase_of_ne (fun (z : x = a) => nd.1 (by rw [← z]; exact hx))).mpr (h x (by simp [hx]))
    rw [List.length_erase_of_mem ha] at ih
    have := List.length_pos_of_mem ha
    simp; omega
/-- a path from s on -/
structure Vp (n : Nat) (s : Int) (p : List Int) : Prop where
  hd : p.head? = some s
  nd : p.Nodup
  rg : ∀ x ∈ p, 0 ≤ x ∧ x < n
section
variable {n t : Nat} {s word : Int} {liars : List Int} {L : Int → List Int → Option Int}
end
end R

end
section
/-! Tuples of hands have unlike hashes: plain. -/
namespace R
def stepH (acc h : Nat) : Nat :=
  let a := (acc + h * 14029467366897019727) % 18446744073709551616
  (((a * 2147483648) % 18446744073709551616 + a / 8589934592) * 11400714785074694791) % 18446744073709551616
def endH (acc len : Nat) : Nat := (acc + (len ^^^ (2870177450012600261 ^^^ 3527539))) % 18446744073709551616
def genH : Nat → List Nat → Nat → Nat → List Nat
  | 0, _, acc, len => [endH acc len]
  | f + 1, av, acc, len => endH acc len :: av.flatMap fun x => genH f (av.erase x) (stepH acc x) (len + 1)
def seqs : Nat → List Nat → List (List Nat)
  | 0, _ => [[]]
  | f + 1, av => [] :: av.flatMap fun x => (seqs f (av.erase x)).map (x :: ·)
theorem genH_eq : ∀ (f : Nat) (av : List Nat) (acc len : Nat), genH f av acc len = (seqs f av).map fun s => endH (s.foldl stepH acc) (len + s.length)
  | 0, av, acc, len => by simp [genH, seqs]
  | f + 1, av, acc, len => by
    simp only [genH, seqs, List.map_cons, List.map_flatMap, List.map_map, List.foldl_nil, List.length_nil, Nat.add_zero]
    congr 1
    congr 1
    funext x
    rw [genH_eq f]
    refine List.map_congr_left fun s _ => ?_
    simp only [Function.comp, List.foldl_cons, List.length_cons]
    rw [show len + 1 + s.length = len + (s.length + 1) by omega]
theorem seqs_mem : ∀ (f : Nat) (av p : List Nat), p.Nodup → (∀ x ∈ p, x ∈ av) → p.length ≤ f → p ∈ seqs f av
  | 0, av, p, _, _, hl => by
    have : p = [] := by simpa using hl
    simp [seqs, this]
  | f + 1, av, [], _, _, _ => by simp [seqs]
  | f + 1, av, x :: p, nd, hm, hl => by
    rw [seqs]
    refine List.mem_cons_of_mem _ (List.mem_flatMap.mpr ⟨x, hm x (by simp), List.mem_map.mpr ⟨p, ?_, rfl⟩⟩)
    have h := List.nodup_cons.mp nd
    refine seqs_mem f _ p h.2 (fun y hy => ?_) (by simpa using hl)
    have : y ≠ x := fun z => h.1 (z ▸ hy)
    exact (List.mem_erase_of_ne this).mpr (hm y (by simp [hy]))
/-- the low bit parts them -/
def part : List Nat → List Nat × List Nat
  | [] => ([], [])
  | a :: l => match part l with | (e, o) => if Nat.beq (a % 2) 0 then (a / 2 :: e, o) else (e, a / 2 :: o)
def dis : Nat → List Nat → Bool
  | 0, l => match l with | [] => true | [_] => true | _ => false
  | f + 1, l => match l with | [] => true | [_] => true | l => match part l with | (e, o) => dis f e && dis f o
theorem part_count (a : Nat) : ∀ l : List Nat, l.count a ≤ (if a % 2 = 0 then (part l).1 else (part l).2).count (a / 2)
  | [] => by simp
  | b :: l => by
    have ih := part_count a l
    simp only [part]
    rw [List.count_cons]
    by_cases c : b = a
    · subst c
      by_cases e : b % 2 = 0
      · have e2 : Nat.beq (b % 2) 0 = true := by rw [e]; rfl
        rw [if_pos e] at ih ⊢
        rw [e2]
        simp only [if_true, beq_self_eq_true, List.count_cons_self]
        omega
      · have e1 : b % 2 = 1 := by omega
        have e2 : Nat.beq (b % 2) 0 = false := by rw [e1]; rfl
        rw [if_neg e] at ih ⊢
        rw [e2]
        simp only [if_true, Bool.false_eq_true, if_false, beq_self_eq_true, List.count_cons_self]
        omega
    · have : (b == a) = false := beq_eq_false_iff_ne.mpr c
      rw [this]
      simp only [Bool.false_eq_true, if_false, Nat.add_zero]
      refine Nat.le_trans ih ?_
      cases Nat.beq (b % 2) 0 <;> by_cases e : a % 2 = 0 <;> simp [e, List.count_le_count_cons]
theorem dis_nodup : ∀ (f : Nat) (l : List Nat), dis f l = true → ∀ a, l.count a ≤ 1
  | 0, [], _, a => by simp
  | 0, [x], _, a => by simp [List.count_cons]; split <;> omega
  | 0, _ :: _ :: _, h, a => by cases h
  | f + 1, [], _, a => by simp
  | f + 1, [x], _, a => by simp [List.count_cons]; split <;> omega
  | f + 1, x :: y :: l, h, a => by
    simp only [dis] at h
    rw [Bool.and_eq_true] at h
    have hc := part_count a (x :: y :: l)
    split at hc
    · exact Nat.le_trans hc (dis_nodup f _ h.1 _)
    · exact Nat.le_trans hc (dis_nodup f _ h.2 _)
theorem dis0 : dis 64 (18446744073709551615 :: genH 6 [1, 2, 3, 4, 5, 6] (stepH 2870177450012600261 0) 1) = true := by decide +kernel
theorem dis1 : dis 64 (18446744073709551615 :: genH 6 [0, 2, 3, 4, 5, 6] (stepH 2870177450012600261 1) 1) = true := by decide +kernel
theorem dis2 : dis 64 (18446744073709551615 :: genH 6 [0, 1, 3, 4, 5, 6] (stepH 2870177450012600261 2) 1) = true := by decide +kernel
theorem dis3 : dis 64 (18446744073709551615 :: genH 6 [0, 1, 2, 4, 5, 6] (stepH 2870177450012600261 3) 1) = true := by decide +kernel
theorem dis4 : dis 64 (18446744073709551615 :: genH 6 [0, 1, 2, 3, 5, 6] (stepH 2870177450012600261 4) 1) = true := by decide +kernel
theorem dis5 : dis 64 (18446744073709551615 :: genH 6 [0, 1, 2, 3, 4, 6] (stepH 2870177450012600261 5) 1) = true := by decide +kernel
theorem dis6 : dis 64 (18446744073709551615 :: genH 6 [0, 1, 2, 3, 4, 5] (stepH 2870177450012600261 6) 1) = true := by decide +kernel
theorem nodup_of_count {l : List Nat} (h : ∀ a, l.count a ≤ 1) : l.Nodup := List.nodup_iff_count.mpr h
def accH (p : List Nat) : Nat := endH (p.foldl stepH 2870177450012600261) p.length
theorem inj_of_nodup {α β : Type} (f : α → β) : ∀ {l : List α}, (l.map f).Nodup → ∀ a ∈ l, ∀ b ∈ l, f a = f b → a = b
  | [], _, a, ha, _, _, _ => by cases ha
  | x :: l, nd, a, ha, b, hb, e => by
    rw [List.map_cons, List.nodup_cons] at nd
    rcases List.mem_cons.mp ha with ea | ha2
    · rcases List.mem_cons.mp hb with eb | hb2
      · rw [ea, eb]
      · exact absurd (List.mem_map.mpr ⟨b, hb2, by rw [← e, ea]⟩) nd.1
    · rcases List.mem_cons.mp hb with eb | hb2
      · exact absurd (List.mem_map.mpr ⟨a, ha2, by rw [e, eb]⟩) nd.1
      · exact inj_of_nodup f nd.2 a ha2 b hb2 e
theorem nodup_len {p av : List Nat} : p.Nodup → (∀ x ∈ p, x ∈ av) → p.length ≤ av.length := by
  intro nd hm
  induction p generalizing av with
  | nil => exact Nat.zero_le _
  | cons x p ih =>
    have h := List.nodup_cons.mp nd
    have := ih (av := av.erase x) h.2 fun y hy => (List.mem_erase_of_ne (show y ≠ x from fun z => h.1 (z ▸ hy))).mpr (hm y (by simp [hy]))
    have hx : x ∈ av := hm x (by simp)
    rw [List.length_erase_of_mem hx] at this
    have := List.length_pos_of_mem hx
    simp only [List.length_cons]
    omega
/-- tuples of unlike hands that begin alike -/
theorem acc_inj {x : Nat} {p q : List Nat} (hx : x < 7) (np : (x :: p).Nodup) (nq : (x :: q).Nodup) (hp : ∀ y ∈ p, y < 7) (hq : ∀ y ∈ q, y < 7) : accH (x :: p) ≠ 18446744073709551615 ∧ (accH (x :: p) = accH (x :: q) → p = q) := by
  have key : ∀ (av : List Nat), av.length ≤ 6 → dis 64 (18446744073709551615 :: genH 6 av (stepH 2870177450012600261 x) 1) = true → (∀ y ∈ p, y ∈ av) → (∀ y ∈ q, y ∈ av) → accH (x :: p) ≠ 18446744073709551615 ∧ (accH (x :: p) = accH (x :: q) → p = q) := fun av hl hd h1 h2 => by
    have nd := nodup_of_count (dis_nodup _ _ hd)
    rw [genH_eq, List.nodup_cons] at nd
    obtain ⟨nm, nd⟩ := nd
    have l1 := nodup_len (List.nodup_cons.mp np).2 h1
    have l2 := nodup_len (List.nodup_cons.mp nq).2 h2
    have mp := seqs_mem 6 av p (List.nodup_cons.mp np).2 h1 (by omega)
    have ep : ∀ r : List Nat, endH (r.foldl stepH (stepH 2870177450012600261 x)) (1 + r.length) = accH (x :: r) := fun r => by
      unfold accH
      simp only [List.foldl_cons, List.length_cons]
      rw [show 1 + r.length = r.length + 1 by omega]
    refine ⟨fun z => nm (List.mem_map.mpr ⟨p, mp, (ep p).trans z⟩), fun e => ?_⟩
    exact inj_of_nodup _ nd p mp q (seqs_mem 6 av q (List.nodup_cons.mp nq).2 h2 (by omega)) ((ep p).trans (e.trans (ep q).symm))
  have mem : ∀ {r : List Nat}, (x :: r).Nodup → (∀ y ∈ r, y < 7) → ∀ y ∈ r, y < 7 ∧ y ≠ x := fun {r} nd h y hy => ⟨h y hy, fun z => (List.nodup_cons.mp nd).1 (z ▸ hy)⟩
  have m1 := mem np hp
  have m2 := mem nq hq
  have cs : x = 0 ∨ x = 1 ∨ x = 2 ∨ x = 3 ∨ x = 4 ∨ x = 5 ∨ x = 6 := by omega
  rcases cs with rfl | rfl | rfl | rfl | rfl | rfl | rfl
  · exact key _ (by decide) dis0 (fun y hy => by have := m1 y hy; simp; omega) (fun y hy => by have := m2 y hy; simp; omega)
  · exact key _ (by decide) dis1 (fun y hy => by have := m1 y hy; simp; omega) (fun y hy => by have := m2 y hy; simp; omega)
  · exact key _ (by decide) dis2 (fun y hy => by have := m1 y hy; simp; omega) (fun y hy => by have := m2 y hy; simp; omega)
  · exact key _ (by decide) dis3 (fun y hy => by have := m1 y hy; simp; omega) (fun y hy => by have := m2 y hy; simp; omega)
  · exact key _ (by decide) dis4 (fun y hy => by have := m1 y hy; simp; omega) (fun y hy => by have := m2 y hy; simp; omega)
  · exact key _ (by decide) dis5 (fun y hy => by have := m1 y hy; simp; omega) (fun y hy => by have := m2 y hy; simp; omega)
  · exact key _ (by decide) dis6 (fun y hy => by have := m1 y hy; simp; omega) (fun y hy => by have := m2 y hy; simp; omega)
end R

end
section
namespace K14
instance mks : R.Mks := ⟨[(16, "tally.<locals>.<lambda>")]⟩
section
open PySem R L2
def c_tally : Fn := ⟨1, 3, .nil, some .tally⟩
def c_most : Fn := ⟨1, 2,
  (.asg 1 (.call 0 0 (.cons (.loc 0) .nil))
   (.ret (.ite (.tst (.loc 1)) (.ix (.ix (.loc 1) (.con (D.int 0))) (.con (D.int 0))) (.con (D.int 0))) .nil)), none⟩
def c_grown : Fn := ⟨5, 8,
  (.asg 5 (.call 3 0 (.cons (.loc 3) (.cons (.loc 4) .nil)))
   (.asg 6 (.call 4 0 (.cons (.loc 0) (.cons (.loc 1) (.cons (.loc 2) (.cons (.loc 3) (.cons (.loc 4) .nil))))))
   (.asg 7 (.call 1 0 (.cons (.bin .Add (.lst (.cons (.loc 5) .nil)) (.mkL (.comp 1 [] [0] (.val (.loc 6)) (.tst (.con (D.bl true))) (.ix (.loc 0) (.con (D.int 2)))))) .nil))
   (.ret (.tup (.cons (.loc 3) (.cons (.loc 5) (.cons (.loc 7) (.cons (.loc 6) .nil))))) .nil)))), none⟩
def c_held_for : Fn := ⟨2, 3,
  (.asg 2 (.dget1 (.loc 1) (.loc 0))
   (.ret (.ite (.cmp .Is (.loc 2) (.con D.non)) (.con (D.int 0)) (.loc 2)) .nil)), none⟩
def c_grown_below : Fn := ⟨5, 6,
  (.ifS (.cmp .GtE (.bi .len (.cons (.loc 3) .nil)) (.loc 1))
    (.ret (.tup .nil) .nil)
    .nil
   (.asg 5 (.mkL (.comp 1 [2, 3] [0] (.rng1 (.loc 0)) (.and (.cmp .NotEq (.loc 0) (.loc 1)) (.cmp .NotIn (.loc 0) (.loc 2))) (.loc 0)))
   (.ret (.mkT (.comp 1 [0, 1, 2, 4, 3] [0] (.val (.loc 5)) (.tst (.con (D.bl true))) (.call 2 0 (.cons (.loc 1) (.cons (.loc 2) (.cons (.loc 3) (.cons (.bin .Add (.loc 5) (.tup (.cons (.loc 0) .nil))) (.cons (.loc 4) .nil)))))))) .nil))), none⟩
def c_law_cell_at : Fn := ⟨2, 2,
  (.ifS (.cmp .Lt (.loc 1) (.bi .len (.cons (.loc 0) .nil)))
    (.ret (.bin .Mod (.ix (.loc 0) (.loc 1)) (.bin .Pow (.con (D.int 10)) (.con (D.int 64)))) .nil)
    .nil
   (.ret (.con (D.int 0)) .nil)), none⟩
def c_law_word : Fn := ⟨1, 2,
  (.asg 1 (.bin .FloorDiv (.loc 0) (.con (D.int 5)))
   (.ifS (.cmp .Eq (.bin .Mod (.loc 0) (.con (D.int 5))) (.con (D.int 0)))
    (.ret (.con D.non) .nil)
    .nil
   (.ifS (.cmp .Eq (.bin .Mod (.loc 0) (.con (D.int 5))) (.con (D.int 1)))
    (.ret (.bin .Mod (.loc 1) (.con (D.int 3))) .nil)
    .nil
   (.ifS (.cmp .Eq (.bin .Mod (.loc 0) (.con (D.int 5))) (.con (D.int 2)))
    (.ret (.bin .Sub (.bin .Mod (.loc 1) (.con (D.int 5))) (.con (D.int 2))) .nil)
    .nil
   (.ifS (.cmp .Eq (.bin .Mod (.loc 0) (.con (D.int 5))) (.con (D.int 3)))
    (.ret (.bin .Sub (.bin .Mod (.loc 1) (.bin .Sub (.bin .Mult (.con (D.int 2)) (.bin .Pow (.con (D.int 10)) (.con (D.int 60)))) (.con (D.int 1)))) (.bin .Sub (.bin .Pow (.con (D.int 10)) (.con (D.int 60))) (.con (D.int 1)))) .nil)
    .nil
   (.ret (.con (D.int 7)) .nil)))))), none⟩
def c_law_paths_from : Fn := ⟨4, 7,
  (.asg 4 (.lst (.cons (.loc 0) .nil))
   (.asg 5 (.con (D.int 0))
   (.whl (.cmp .Lt (.loc 5) (.bi .len (.cons (.loc 4) .nil)))
    (.ifS (.cmp .Lt (.bi .len (.cons (.ix (.loc 4) (.loc 5)) .nil)) (.loc 2))
     (.forS [6] (.rng1 (.loc 1))
      (.ifS (.and (.cmp .NotEq (.loc 6) (.loc 3)) (.cmp .NotIn (.loc 6) (.ix (.loc 4) (.loc 5))))
       (.expr (.mt .append (.loc 4) (.cons (.bin .Add (.ix (.loc 4) (.loc 5)) (.tup (.cons (.loc 6) .nil))) .nil))
       .nil)
       .nil
      .nil)
     .nil)
     .nil
    (.asg 5 (.bin .Add (.loc 5) (.con (D.int 1)))
    .nil))
   (.ret (.loc 4) .nil)))), none⟩
def c_law_digit : Fn := ⟨3, 5,
  (.asg 3 (.call 5 0 (.cons (.loc 0) (.cons (.bin .Add (.loc 1) (.bin .FloorDiv (.loc 2) (.con (D.int 50)))) .nil)))
   (.forS [4] (.rng1 (.bin .Mod (.loc 2) (.con (D.int 50))))
    (.asg 3 (.bin .FloorDiv (.loc 3) (.con (D.int 12)))
    .nil)
   (.ret (.bin .Mod (.loc 3) (.con (D.int 12))) .nil))), none⟩
def c_law_small : Fn := ⟨2, 2,
  (.ifS (.cmp .Eq (.loc 0) (.con (D.int 1)))
    (.ret (.con D.non) .nil)
    .nil
   (.ifS (.cmp .Eq (.loc 0) (.con (D.int 2)))
    (.ret (.loc 1) .nil)
    .nil
   (.ret (.bin .Sub (.loc 0) (.con (D.int 6))) .nil))), none⟩
def c_law_notes : Fn := ⟨3, 8,
  (.asg 3 .dnewT
   (.ifS (.cmp .Eq (.bin .Mod (.call 5 0 (.cons (.loc 0) (.cons (.con (D.int 4)) .nil))) (.con (D.int 2))) (.con (D.int 1)))
    (.forS [4] (.rng1 (.bi .len (.cons (.loc 1) .nil)))
     (.asg 5 (.call 8 0 (.cons (.loc 0) (.cons (.con (D.int 6)) (.cons (.loc 4) .nil))))
     (.ifS (.cmp .Gt (.loc 5) (.con (D.int 0)))
      (.setIx (.loc 3) (.ix (.loc 1) (.loc 4)) (.call 9 0 (.cons (.loc 5) (.cons (.bin .Sub (.bin .Pow (.con (D.int 10)) (.con (D.int 60))) (.con (D.int 1))) .nil)))
      .nil)
      .nil
     (.ifS (.cmp .Eq (.bin .Mod (.loc 5) (.con (D.int 3))) (.con (D.int 1)))
      (.setIx (.loc 3) (.bin .Add (.ix (.loc 1) (.loc 4)) (.tup (.cons (.loc 2) .nil))) (.con (D.int 7))
      .nil)
      .nil
     .nil)))
    (.ret (.loc 3) .nil))
    .nil
   (.asg 6 (.bin .Add (.con (D.int 3)) (.bin .Mod (.call 5 0 (.cons (.loc 0) (.cons (.con (D.int 4)) .nil))) (.con (D.int 1299709))))
   (.forS [4] (.rng1 (.bi .len (.cons (.loc 1) .nil)))
    (.asg 6 (.bin .Mod (.bin .Add (.bin .Add (.bin .Mult (.loc 6) (.con (D.int 2411))) (.bin .Mult (.bin .Mult (.con (D.int 17)) (.loc 4)) (.loc 4))) (.con (D.int 90001))) (.con (D.int 15485863)))
    (.asg 7 (.bin .FloorDiv (.loc 6) (.con (D.int 5)))
    (.ifS (.cmp .Lt (.bin .Add (.con (D.int 6)) (.loc 4)) (.bi .len (.cons (.loc 0) .nil)))
     (.asg 7 (.call 5 0 (.cons (.loc 0) (.cons (.bin .Add (.con (D.int 6)) (.loc 4)) .nil)))
     .nil)
     .nil
    (.ifS (.cmp .NotEq (.bin .Mod (.loc 7) (.con (D.int 11))) (.con (D.int 3)))
     (.setIx (.loc 3) (.ix (.loc 1) (.loc 4)) (.call 6 0 (.cons (.loc 7) .nil))
     .nil)
     .nil
    (.ifS (.cmp .Eq (.bin .Mod (.loc 7) (.con (D.int 3))) (.con (D.int 1)))
     (.setIx (.loc 3) (.bin .Add (.ix (.loc 1) (.loc 4)) (.tup (.cons (.loc 2) .nil))) (.con (D.int 7))
     .nil)
     .nil
    .nil)))))
   (.ret (.loc 3) .nil))))), none⟩
def c_law_most : Fn := ⟨1, 5,
  (.asg 1 (.ix (.loc 0) (.con (D.int 0)))
   (.asg 2 (.con (D.int 0))
   (.forS [3] (.val (.loc 0))
    (.asg 4 (.bi .len (.cons (.mkL (.comp 1 [3] [0] (.val (.loc 0)) (.cmp .Eq (.loc 0) (.loc 1)) (.loc 0))) .nil))
    (.ifS (.or (.cmp .Gt (.loc 4) (.loc 2)) (.and (.cmp .Eq (.loc 4) (.loc 2)) (.cmp .Lt (.loc 3) (.loc 1))))
     (.asg 1 (.loc 3)
     (.asg 2 (.loc 4)
     .nil))
     .nil
    .nil))
   (.ret (.loc 1) .nil)))), none⟩
def c_law_whole : Fn := ⟨1, 1,
  (.ret (.and (.bi (.isin "int") (.cons (.loc 0) .nil)) (.nt (.bi (.isin "bool") (.cons (.loc 0) .nil)))) .nil), none⟩
def c_law_is_tuple : Fn := ⟨2, 2,
  (.ifS (.or (.nt (.tst (.bi (.isin "tuple") (.cons (.loc 0) .nil)))) (.cmp .NotEq (.bi .len (.cons (.loc 0) .nil)) (.bi .len (.cons (.loc 1) .nil))))
    (.ret (.con (D.bl false)) .nil)
    .nil
   (.ret (.and (.all (.comp 1 [] [0] (.val (.loc 0)) (.tst (.con (D.bl true))) (.call 12 0 (.cons (.loc 0) .nil)))) (.cmp .Eq (.loc 0) (.loc 1))) .nil)), none⟩
def c_law_holds : Fn := ⟨6, 10,
  (.ifS (.or (.nt (.tst (.bi (.isin "tuple") (.cons (.loc 0) .nil)))) (.or (.cmp .NotEq (.bi .len (.cons (.loc 0) .nil)) (.con (D.int 4))) (.nt (.tst (.call 13 0 (.cons (.ix (.loc 0) (.con (D.int 0))) (.cons (.loc 4) .nil)))))))
    (.ret (.con (D.bl false)) .nil)
    .nil
   (.asg 6 (.dget1 (.loc 5) (.loc 4))
   (.ifS (.cmp .Is (.loc 6) (.con D.non))
    (.asg 6 (.con (D.int 0))
    .nil)
    .nil
   (.ifS (.or (.nt (.tst (.call 12 0 (.cons (.ix (.loc 0) (.con (D.int 1))) .nil)))) (.or (.cmp .NotEq (.ix (.loc 0) (.con (D.int 1))) (.loc 6)) (.or (.nt (.tst (.call 12 0 (.cons (.ix (.loc 0) (.con (D.int 2))) .nil)))) (.nt (.tst (.bi (.isin "tuple") (.cons (.ix (.loc 0) (.con (D.int 3))) .nil)))))))
    (.ret (.con (D.bl false)) .nil)
    .nil
   (.asg 7 (.lst .nil)
   (.ifS (.cmp .Lt (.bi .len (.cons (.loc 4) .nil)) (.loc 2))
    (.asg 7 (.mkL (.comp 1 [3, 4] [0] (.rng1 (.loc 1)) (.and (.cmp .NotEq (.loc 0) (.loc 1)) (.cmp .NotIn (.loc 0) (.loc 2))) (.loc 0)))
    .nil)
    .nil
   (.ifS (.cmp .NotEq (.bi .len (.cons (.ix (.loc 0) (.con (D.int 3))) .nil)) (.bi .len (.cons (.loc 7) .nil)))
    (.ret (.con (D.bl false)) .nil)
    .nil
   (.asg 8 (.lst (.cons (.ix (.loc 0) (.con (D.int 1))) .nil))
   (.forS [9] (.rng1 (.bi .len (.cons (.loc 7) .nil)))
    (.ifS (.nt (.tst (.call 14 0 (.cons (.ix (.ix (.loc 0) (.con (D.int 3))) (.loc 9)) (.cons (.loc 1) (.cons (.loc 2) (.cons (.loc 3) (.cons (.bin .Add (.loc 4) (.tup (.cons (.ix (.loc 7) (.loc 9)) .nil))) (.cons (.loc 5) .nil)))))))))
     (.ret (.con (D.bl false)) .nil)
     .nil
    (.expr (.mt .append (.loc 8) (.cons (.ix (.ix (.ix (.loc 0) (.con (D.int 3))) (.loc 9)) (.con (D.int 2))) .nil))
    .nil))
   (.ret (.cmp .Eq (.ix (.loc 0) (.con (D.int 2))) (.call 11 0 (.cons (.loc 8) .nil))) .nil)))))))))), none⟩
def c_law : Fn := ⟨1, 13,
  (.asg 1 (.bin .Add (.con (D.int 2)) (.bin .Mod (.call 5 0 (.cons (.loc 0) (.cons (.con (D.int 0)) .nil))) (.con (D.int 6))))
   (.asg 2 (.bin .Mod (.call 5 0 (.cons (.loc 0) (.cons (.con (D.int 1)) .nil))) (.loc 1))
   (.asg 3 (.mkL (.comp 1 [2] [0] (.rng1 (.loc 1)) (.cmp .NotEq (.loc 0) (.loc 1)) (.loc 0)))
   (.asg 4 (.tup .nil)
   (.forS [5] (.rng1 (.bin .Add (.con (D.int 1)) (.bin .Mod (.call 5 0 (.cons (.loc 0) (.cons (.con (D.int 2)) .nil))) (.bi .min2 (.cons (.con (D.int 3)) (.cons (.bin .Sub (.loc 1) (.con (D.int 1))) .nil))))))
    (.asg 4 (.bin .Add (.loc 4) (.tup (.cons (.mt .popAt (.loc 3) (.cons (.bin .Mod (.bin .FloorDiv (.call 5 0 (.cons (.loc 0) (.cons (.con (D.int 2)) .nil))) (.bin .Add (.con (D.int 3)) (.bin .Mult (.con (D.int 4)) (.loc 5)))) (.bi .len (.cons (.loc 3) .nil))) .nil)) .nil)))
    .nil)
   (.asg 6 (.bin .Add (.con (D.int 1)) (.bin .Mod (.call 5 0 (.cons (.loc 0) (.cons (.con (D.int 3)) .nil))) (.con (D.int 4))))
   (.ifS (.cmp .Eq (.bin .Mod (.bin .FloorDiv (.call 5 0 (.cons (.loc 0) (.cons (.con (D.int 3)) .nil))) (.con (D.int 4))) (.con (D.int 16))) (.con (D.int 1)))
    (.asg 6 (.bin .Add (.con (D.int 1)) (.bin .Mod (.bin .FloorDiv (.call 5 0 (.cons (.loc 0) (.cons (.con (D.int 3)) .nil))) (.con (D.int 64))) (.con (D.int 8))))
    .nil)
    .nil
   (.asg 7 (.call 7 0 (.cons (.loc 4) (.cons (.loc 1) (.cons (.loc 6) (.cons (.loc 2) .nil)))))
   (.asg 8 (.call 10 0 (.cons (.loc 0) (.cons (.loc 7) (.cons (.loc 2) .nil))))
   (.asg 9 (.dcopy (.loc 8))
   (.asg 10 (.call 2 0 (.cons (.loc 1) (.cons (.loc 6) (.cons (.loc 2) (.cons (.loc 4) (.cons (.loc 8) .nil))))))
   (.ifS (.or (.cmp .NotEq (.loc 8) (.loc 9)) (.nt (.tst (.call 14 0 (.cons (.loc 10) (.cons (.loc 1) (.cons (.loc 6) (.cons (.loc 2) (.cons (.loc 4) (.cons (.loc 9) .nil))))))))))
    (.ret (.con (D.bl false)) .nil)
    .nil
   (.asg 11 (.ix (.loc 7) (.bin .Mod (.call 5 0 (.cons (.loc 0) (.cons (.con (D.int 5)) .nil))) (.bi .len (.cons (.loc 7) .nil))))
   (.setIx (.loc 8) (.loc 11) (.call 6 0 (.cons (.bin .FloorDiv (.call 5 0 (.cons (.loc 0) (.cons (.con (D.int 5)) .nil))) (.con (D.int 7))) .nil))
   (.asg 12 (.dcopy (.loc 8))
   (.ifS (.nt (.tst (.call 14 0 (.cons (.call 2 0 (.cons (.loc 1) (.cons (.loc 6) (.cons (.loc 2) (.cons (.loc 4) (.cons (.loc 8) .nil)))))) (.cons (.loc 1) (.cons (.loc 6) (.cons (.loc 2) (.cons (.loc 4) (.cons (.loc 12) .nil)))))))))
    (.ret (.con (D.bl false)) .nil)
    .nil
   (.ifS (.cmp .NotEq (.loc 8) (.loc 12))
    (.ret (.con (D.bl false)) .nil)
    .nil
   (.ifS (.cmp .In (.loc 11) (.loc 9))
    (.setIx (.loc 8) (.loc 11) (.dix (.loc 9) (.loc 11))
    .nil)
    (.expr (.dpop (.loc 8) (.loc 11))
    .nil)
   (.ret (.and (.cmp .Eq (.call 2 0 (.cons (.loc 1) (.cons (.loc 6) (.cons (.loc 2) (.cons (.loc 4) (.cons (.loc 8) .nil)))))) (.loc 10)) (.cmp .Eq (.loc 8) (.loc 9))) .nil))))))))))))))))))), none⟩
def prog : List Fn := [c_tally, c_most, c_grown, c_held_for, c_grown_below, c_law_cell_at, c_law_word, c_law_paths_from, c_law_digit, c_law_small, c_law_notes, c_law_most, c_law_whole, c_law_is_tuple, c_law_holds, c_law]
-- 0 tally, 1 most, 2 grown, 3 held_for, 4 grown_below, 5 _law_cell_at, 6 _law_word, 7 _law_paths_from, 8 _law_digit, 9 _law_small, 10 _law_notes, 11 _law_most, 12 _law_whole, 13 _law_is_tuple, 14 _law_holds, 15 law
def top (i : Nat) : Stmt := PySem.Challenge.pw_traitorround_k14_a_tree_grown.main.body.getD i (.Pass ⟨0, 0, 0, 0⟩)
abbrev py_tally : Stmt := top 2
abbrev py_most : Stmt := top 3
abbrev py_grown : Stmt := top 5
abbrev py_held_for : Stmt := top 6
abbrev py_grown_below : Stmt := top 7
abbrev py_law_cell_at : Stmt := top 9
abbrev py_law_word : Stmt := top 10
abbrev py_law_paths_from : Stmt := top 11
abbrev py_law_digit : Stmt := top 12
abbrev py_law_small : Stmt := top 13
abbrev py_law_notes : Stmt := top 14
abbrev py_law_most : Stmt := top 15
abbrev py_law_whole : Stmt := top 16
abbrev py_law_is_tuple : Stmt := top 17
abbrev py_law_holds : Stmt := top 18
abbrev py_law : Stmt := top 19
def tab : Tab := ⟨["all", "bool", "dict", "int", "isinstance", "len", "min", "range", "sorted", "tuple"], [("STILL", (D.int 0))], [("tally", ["words"], 0), ("most", ["words"], 0), ("grown", ["many", "rounds", "hand", "path", "notes"], 0), ("held_for", ["path", "notes"], 0), ("grown_below", ["many", "rounds", "hand", "path", "notes"], 0), ("_law_cell_at", ["_law_script", "_law_k"], 0), ("_law_word", ["_law_cell"], 0), ("_law_paths_from", ["_law_path", "_law_many", "_law_turns", "_law_hand"], 0), ("_law_digit", ["_law_script", "_law_at", "_law_k"], 0), ("_law_small", ["_law_digit_here", "_law_word_here"], 0), ("_law_notes", ["_law_script", "_law_some", "_law_hand"], 0), ("_law_most", ["_law_words"], 0), ("_law_whole", ["_law_found"], 0), ("_law_is_tuple", ["_law_found", "_law_due"], 0), ("_law_holds", ["_law_tree", "_law_many", "_law_turns", "_law_hand", "_law_path", "_law_notes_here"], 0), ("law", ["_law_script"], 0)]⟩
theorem ts_tally : TallySt py_tally := ⟨⟨_, _, _, _, _, _, _, _, _, _, _, _, _, _, _, _, _, _, _, _, _, _, _, _, _, _, _, _, _, _, _, _, rfl, rfl, rfl, fun _ => rfl, fun _ => rfl, ⟨rfl, rfl, rfl, by decide +kernel, rfl, by decide +kernel, by decide +kernel⟩, by decide +kernel, fun _ _ _ _ _ => rfl⟩, ⟨rfl, rfl, rfl, by decide +kernel, rfl, by decide +kernel, by decide +kernel⟩, rfl, rfl, rfl, rfl⟩
theorem sc_most : FnScope ["words", "rows"] ["words"] (defScope py_most) := ⟨rfl, rfl, rfl, by decide +kernel, rfl, by decide +kernel, by decide +kernel⟩
theorem ck_most : chkS tab c_most.body ["words", "rows"] (defScope py_most) (defBody py_most) = true := by decide +kernel
theorem sc_grown : FnScope ["many", "rounds", "hand", "path", "notes", "held", "below", "taken"] ["many", "rounds", "hand", "path", "notes"] (defScope py_grown) := ⟨rfl, rfl, rfl, by decide +kernel, rfl, by decide +kernel, by decide +kernel⟩
theorem ck_grown : chkS tab c_grown.body ["many", "rounds", "hand", "path", "notes", "held", "below", "taken"] (defScope py_grown) (defBody py_grown) = true := by decide +kernel
theorem sc_held_for : FnScope ["path", "notes", "word"] ["path", "notes"] (defScope py_held_for) := ⟨rfl, rfl, rfl, by decide +kernel, rfl, by decide +kernel, by decide +kernel⟩
theorem ck_held_for : chkS tab c_held_for.body ["path", "notes", "word"] (defScope py_held_for) (defBody py_held_for) = true := by decide +kernel
theorem sc_grown_below : FnScope ["many", "rounds", "hand", "path", "notes", "others"] ["many", "rounds", "hand", "path", "notes"] (defScope py_grown_below) := ⟨rfl, rfl, rfl, by decide +kernel, rfl, by decide +kernel, by decide +kernel⟩
theorem ck_grown_below : chkS tab c_grown_below.body ["many", "rounds", "hand", "path", "notes", "others"] (defScope py_grown_below) (defBody py_grown_below) = true := by decide +kernel
theorem sc_law_cell_at : FnScope ["_law_script", "_law_k"] ["_law_script", "_law_k"] (defScope py_law_cell_at) := ⟨rfl, rfl, rfl, by decide +kernel, rfl, by decide +kernel, by decide +kernel⟩
theorem ck_law_cell_at : chkS tab c_law_cell_at.body ["_law_script", "_law_k"] (defScope py_law_cell_at) (defBody py_law_cell_at) = true := by decide +kernel
theorem sc_law_word : FnScope ["_law_cell", "_law_rest"] ["_law_cell"] (defScope py_law_word) := ⟨rfl, rfl, rfl, by decide +kernel, rfl, by decide +kernel, by decide +kernel⟩
theorem ck_law_word : chkS tab c_law_word.body ["_law_cell", "_law_rest"] (defScope py_law_word) (defBody py_law_word) = true := by decide +kernel
theorem sc_law_paths_from : FnScope ["_law_path", "_law_many", "_law_turns", "_law_hand", "_law_found", "_law_at", "_law_one"] ["_law_path", "_law_many", "_law_turns", "_law_hand"] (defScope py_law_paths_from) := ⟨rfl, rfl, rfl, by decide +kernel, rfl, by decide +kernel, by decide +kernel⟩
theorem ck_law_paths_from : chkS tab c_law_paths_from.body ["_law_path", "_law_many", "_law_turns", "_law_hand", "_law_found", "_law_at", "_law_one"] (defScope py_law_paths_from) (defBody py_law_paths_from) = true := by decide +kernel
theorem sc_law_digit : FnScope ["_law_script", "_law_at", "_law_k", "_law_cell", "_law_j"] ["_law_script", "_law_at", "_law_k"] (defScope py_law_digit) := ⟨rfl, rfl, rfl, by decide +kernel, rfl, by decide +kernel, by decide +kernel⟩
theorem ck_law_digit : chkS tab c_law_digit.body ["_law_script", "_law_at", "_law_k", "_law_cell", "_law_j"] (defScope py_law_digit) (defBody py_law_digit) = true := by decide +kernel
theorem sc_law_small : FnScope ["_law_digit_here", "_law_word_here"] ["_law_digit_here", "_law_word_here"] (defScope py_law_small) := ⟨rfl, rfl, rfl, by decide +kernel, rfl, by decide +kernel, by decide +kernel⟩
theorem ck_law_small : chkS tab c_law_small.body ["_law_digit_here", "_law_word_here"] (defScope py_law_small) (defBody py_law_small) = true := by decide +kernel
theorem sc_law_notes : FnScope ["_law_script", "_law_some", "_law_hand", "_law_notes_here", "_law_k", "_law_digit_here", "_law_seed", "_law_cell"] ["_law_script", "_law_some", "_law_hand"] (defScope py_law_notes) := ⟨rfl, rfl, rfl, by decide +kernel, rfl, by decide +kernel, by decide +kernel⟩
theorem ck_law_notes : chkS tab c_law_notes.body ["_law_script", "_law_some", "_law_hand", "_law_notes_here", "_law_k", "_law_digit_here", "_law_seed", "_law_cell"] (defScope py_law_notes) (defBody py_law_notes) = true := by decide +kernel
theorem sc_law_most : FnScope ["_law_words", "_law_best", "_law_often", "_law_word_here", "_law_many"] ["_law_words"] (defScope py_law_most) := ⟨rfl, rfl, rfl, by decide +kernel, rfl, by decide +kernel, by decide +kernel⟩
theorem ck_law_most : chkS tab c_law_most.body ["_law_words", "_law_best", "_law_often", "_law_word_here", "_law_many"] (defScope py_law_most) (defBody py_law_most) = true := by decide +kernel
theorem sc_law_whole : FnScope ["_law_found"] ["_law_found"] (defScope py_law_whole) := ⟨rfl, rfl, rfl, by decide +kernel, rfl, by decide +kernel, by decide +kernel⟩
theorem ck_law_whole : chkS tab c_law_whole.body ["_law_found"] (defScope py_law_whole) (defBody py_law_whole) = true := by decide +kernel
theorem sc_law_is_tuple : FnScope ["_law_found", "_law_due"] ["_law_found", "_law_due"] (defScope py_law_is_tuple) := ⟨rfl, rfl, rfl, by decide +kernel, rfl, by decide +kernel, by decide +kernel⟩
theorem ck_law_is_tuple : chkS tab c_law_is_tuple.body ["_law_found", "_law_due"] (defScope py_law_is_tuple) (defBody py_law_is_tuple) = true := by decide +kernel
theorem sc_law_holds : FnScope ["_law_tree", "_law_many", "_law_turns", "_law_hand", "_law_path", "_law_notes_here", "_law_due", "_law_more", "_law_words", "_law_k"] ["_law_tree", "_law_many", "_law_turns", "_law_hand", "_law_path", "_law_notes_here"] (defScope py_law_holds) := ⟨rfl, rfl, rfl, by decide +kernel, rfl, by decide +kernel, by decide +kernel⟩
theorem ck_law_holds : chkS tab c_law_holds.body ["_law_tree", "_law_many", "_law_turns", "_law_hand", "_law_path", "_law_notes_here", "_law_due", "_law_more", "_law_words", "_law_k"] (defScope py_law_holds) (defBody py_law_holds) = true := by decide +kernel
theorem sc_law : FnScope ["_law_script", "_law_many", "_law_hand", "_law_left", "_law_path", "_law_k", "_law_turns", "_law_some", "_law_notes_here", "_law_kept", "_law_first", "_law_spot", "_law_changed"] ["_law_script"] (defScope py_law) := ⟨rfl, rfl, rfl, by decide +kernel, rfl, by decide +kernel, by decide +kernel⟩
theorem ck_law : chkS tab c_law.body ["_law_script", "_law_many", "_law_hand", "_law_left", "_law_path", "_law_k", "_law_turns", "_law_some", "_law_notes_here", "_law_kept", "_law_first", "_law_spot", "_law_changed"] (defScope py_law) (defBody py_law) = true := by decide +kernel
end
section
open R
theorem s_cell {n : Nat} {S : R.St} {ns : List Int} {k : Nat} : app (callF prog (n+1)) 5 [.fix (ns.map .int), .int k] S = .ok (.int (cellZ ns k)) S := by
  refine app_ok (F := c_law_cell_at) rfl rfl ?_
  conv => whnf
  refine wIf_p (fun c => ?_) (fun c => ?_)
  · have c : k < ns.length := by simpa using c
    conv => whnf
    refine wOpt_of (atI_nat (x := D.int ns[k]) (by simp [c])) ?_
    conv => whnf
    refine wNeed_of (by decide) ?_
    conv => whnf
    refine wNeed_of (by decide) ?_
    conv => whnf
    refine wFin_flat rfl ⟨?_, rfl⟩
    unfold cellZ
    rw [List.getElem?_eq_getElem c]
    rfl
  · have c : ¬ k < ns.length := by simpa using c
    conv => whnf
    refine wFin_flat rfl ⟨?_, rfl⟩
    unfold cellZ
    rw [List.getElem?_eq_none (by omega)]

def Wd (d : D) : Prop := ∃ o, d = oD o
theorem s_most {n l : Nat} {S : R.St} {ws : List Int} (h : S.get l = some (.lst (ws.map .int))) (hl : ws.length ≤ 60) : app (callF prog (n+5)) 1 [.ref l] S = .ok (.int (topOf ws)) S := by
  have hm : ws.map D.int = (ws.map some).map oD := by rw [List.map_map]; rfl
  rw [hm] at h
  have hc : (countsFrom [] (ws.map some)).length < 64 := by have := counts_len (ws.map some); rw [List.length_map] at this; omega
  refine app_ok (F := c_most) rfl rfl ?_
  conv => whnf
  refine wOut_of (app_tally (n := n) (f := 0) (F := c_tally) (S := S.enter) rfl rfl rfl (by rw [get_enter]; exact h) hc (by rw [List.length_map]; omega)) ?_
  conv => whnf
  unfold talD topOf topR
  generalize tallyL (countsFrom [] (ws.map some)) = rows
  cases rows with
  | nil =>
    conv => whnf
    repeat (first | (refine wNeed_of (by first | decide | omega | (simp; done) | (simp; omega)) ?_; conv => whnf) | (refine wGet_new rfl ?_; conv => whnf) | (refine wPut_new rfl ?_; conv => whnf) | (refine wGet_old (by assumption) ?_; conv => whnf))
    exact wFin_flat rfl ⟨rfl, rfl⟩
  | cons r rows =>
    conv => whnf
    repeat (first | (refine wNeed_of (by first | decide | omega | (simp; done) | (simp; omega)) ?_; conv => whnf) | (refine wGet_new rfl ?_; conv => whnf) | (refine wPut_new rfl ?_; conv => whnf) | (refine wGet_old (by assumption) ?_; conv => whnf))
    refine wOpt_of (atI_0 (x := rowD r)) ?_
    conv => whnf
    refine wOpt_of (atI_0) ?_
    conv => whnf
    exact wFin_flat rfl ⟨rfl, rfl⟩
/-- what a dict holds of a path -/
def look (kvs : List (List Int × D)) (p : List Int) : Option Int := match valP kvs p with | some (.int i) => some i | _ => none
def Wds (kvs : List (List Int × D)) : Prop := ∀ p d, valP kvs p = some d → Wd d
theorem s_held {n l : Nat} {S : R.St} {kvs : List (List Int × D)} {p : List Int} (h : S.get l = some (.dtp kvs)) (hv : Wds kvs) : app (callF prog (n+1)) 3 [.tup (p.map .int), .ref l] S = .ok (.int ((look kvs p).getD 0)) S := by
  have h' : S.enter.get l = some (.dtp kvs) := by rw [get_enter]; exact h
  refine app_ok (F := c_held_for) rfl rfl ?_
  conv => whnf
  refine wNeed_of (by simp only [isDt, h']) ?_
  conv => whnf
  refine wOpt_of (dGet_of h' p) ?_
  conv => whnf
  unfold look
  cases e : valP kvs p with
  | none =>
    conv => whnf
    exact wFin_flat rfl ⟨rfl, rfl⟩
  | some d =>
    obtain ⟨o, rfl⟩ := hv p d e
    cases o with
    | none =>
      conv => whnf
      exact wFin_flat rfl ⟨rfl, rfl⟩
    | some i =>
      conv => whnf
      exact wFin_flat rfl ⟨rfl, rfl⟩
/-- the tree that is grown -/
def treeD (kvs : List (List Int × D)) (n : Nat) (h : Int) : Nat → List Int → D
  | 0, p => .tup [.tup (p.map .int), .int ((look kvs p).getD 0), .int (tkn (look kvs) n h 0 p), .tup []]
  | k + 1, p => .tup [.tup (p.map .int), .int ((look kvs p).getD 0), .int (tkn (look kvs) n h (k + 1) p), .tup ((oth n h p).map fun o => treeD kvs n h k (p ++ [o]))]
theorem treeD_flat (kvs : List (List Int × D)) (n : Nat) (h : Int) (b : Nat) : ∀ (k : Nat) (p : List Int), flat b (treeD kvs n h k p) = true
  | 0, p => by simp [treeD]
  | k + 1, p => by
    simp only [treeD, flat_tup, flats_cons, flats_nil, flat_int, flats_ints, Bool.and_true, Bool.true_and]
    rw [flats_iff]
    intro d hd
    obtain ⟨o, _, rfl⟩ := List.mem_map.mp hd
    exact treeD_flat kvs n h b k (p ++ [o])
theorem tree_2 (kvs : List (List Int × D)) (n : Nat) (h : Int) (k : Nat) (p : List Int) : ∃ x y z, treeD kvs n h k p = .tup [x, y, .int (tkn (look kvs) n h k p), z] := by
  cases k <;> exact ⟨_, _, _, rfl⟩
theorem below_W {m k l : Nat} {S : R.St} {n : Nat} {h : Int} {kvs : List (List Int × D)} {p : List Int} (hg : S.get l = some (.dtp kvs)) (hn : n ≤ 7) (hp : p.length ≤ 100) (hk : k ≤ 100)
    (ih : ∀ (S' : R.St) (o : Int), S'.get l = some (.dtp kvs) → app (callF prog (2 * k + m + 6)) 2 [.int n, .int ((p.length + (k + 1) : Nat) : Int), .int h, .tup ((p ++ [o]).map .int), .ref l] S' = .ok (treeD kvs n h k (p ++ [o])) S') :
    app (callF prog (2 * (k + 1) + m + 5)) 4 [.int n, .int ((p.length + (k + 1) : Nat) : Int), .int h, .tup (p.map .int), .ref l] S = .ok (.tup ((oth n h p).map fun o => treeD kvs n h k (p ++ [o]))) S := by
  rw [show 2 * (k + 1) + m + 5 = (2 * k + m + 6) + 1 by omega]
  refine app_ok (F := c_grown_below) rfl rfl ?_
  conv => whnf
  refine wIf_f (by simp; omega) ?_
  conv => whnf
  refine wNeed_of (by omega) ?_
  conv => whnf
  refine wLock_of ?_
  refine W.of (turnsC_pure (fun d => match d with | .int o => !decide (o = h) && !decide (o ∈ p) | _ => false) (fun d => d) _ none (fun z hz => ?_) (fun z hz _ => rfl)) ?_
  · obtain ⟨o, _, rfl⟩ := List.mem_map.mp hz
    refine W.eq (wT_W _ ?_)
    conv => whnf
    refine wIf_i (fun c => ?_) (fun c => ?_)
    · conv => whnf
      refine wOpt_of (notIn_tup _ _ _) ?_
      conv => whnf
      exact ⟨by simp at c; simp [c], rfl⟩
    · exact ⟨by simp at c; simp [c], rfl⟩
  · have e : (List.map (fun d => d) (List.filter (fun d => match d with | D.int o => !decide (o = h) && !decide (o ∈ p) | x => false) (List.map (fun (k : Nat) => D.int k) (List.range (n : Int).toNat)))) = (oth n h p).map D.int := by
      rw [List.map_id', Int.toNat_natCast]
      unfold oth hnds
      rw [show (List.range n).map (fun (k : Nat) => D.int k) = ((List.range n).map fun (k : Nat) => (k : Int)).map D.int by rw [List.map_map]; rfl]
      rw [List.filter_map]
      rfl
    rw [e]
    have ol : (oth n h p).length ≤ 7 := by
      have := List.length_filter_le (fun o => !decide (o = h) && !decide (o ∈ p)) (hnds n)
      unfold oth
      have l : (hnds n).length = n := by simp [hnds]
      omega
    refine wNeed_of (by simp; omega) ?_
    conv => whnf
    refine wNeed_of (by simp; omega) ?_
    conv => whnf
    refine wGet_new rfl ?_
    conv => whnf
    refine wLock_of ?_
    refine W.of (turnsC_map (fun d => match d with | .int o => treeD kvs n h k (p ++ [o]) | d => d) ((oth n h p).map D.int) none (fun z hz => rfl) (fun z hz => ?_)) ?_
    · obtain ⟨o, _, rfl⟩ := List.mem_map.mp hz
      refine W.eq (wE_W _ ?_)
      conv => whnf
      refine wNeed_of (by first | decide | omega | (simp; done) | (simp; omega)) ?_
      conv => whnf
      refine wNeed_of (by simp; omega) ?_
      conv => whnf
      rw [show p.map D.int ++ [D.int o] = (p ++ [o]).map D.int by simp]
      refine wOut_of (ih _ o (get_old hg _ _)) ?_
      conv => whnf
      exact ⟨rfl, rfl⟩
    · rw [List.map_map]
      conv => whnf
      refine wNeed_of (by simp; omega) ?_
      conv => whnf
      refine wNeed_of (by simp; omega) ?_
      conv => whnf
      refine wFin_flat ?_ ⟨rfl, rfl⟩
      rw [flat_tup, flats_iff]
      intro d hd
      obtain ⟨o, _, rfl⟩ := List.mem_map.mp hd
      exact treeD_flat kvs n h _ k (p ++ [o])
theorem grown_W {f l : Nat} {S : R.St} {n r h : Int} {kvs : List (List Int × D)} {p A : List Int} {g : Int → D} {v : Int → Int} (hg : S.get l = some (.dtp kvs)) (hv : Wds kvs)
    (hb : ∀ S' : R.St, S'.get l = some (.dtp kvs) → app (callF prog (f + 5)) 4 [.int n, .int r, .int h, .tup (p.map .int), .ref l] S' = .ok (.tup (A.map g)) S') (hA : A.length ≤ 20) (h2 : ∀ o, ∃ x y z, g o = .tup [x, y, .int (v o), z]) (hf : ∀ b o, flat b (g o) = true) :
    app (callF prog (f + 6)) 2 [.int n, .int r, .int h, .tup (p.map .int), .ref l] S = .ok (.tup [.tup (p.map .int), .int ((look kvs p).getD 0), .int (topOf ((look kvs p).getD 0 :: A.map v)), .tup (A.map g)]) S := by
  have h' : S.enter.get l = some (.dtp kvs) := by rw [get_enter]; exact hg
  refine app_ok (F := c_grown) rfl rfl ?_
  conv => whnf
  refine wOut_of (s_held (n := f + 4) (p := p) h' hv) ?_
  conv => whnf
  refine wOut_of (hb _ h') ?_
  conv => whnf
  refine wNeed_of (by first | decide | omega | (simp; done) | (simp; omega)) ?_
  conv => whnf
  refine wLock_of ?_
  refine W.of (turnsC_map (fun d => match d with | .tup [_, _, t, _] => t | d => d) (A.map g) none (fun z hz => rfl) (fun z hz => ?_)) ?_
  · obtain ⟨o, _, rfl⟩ := List.mem_map.mp hz
    obtain ⟨x, y, z, e⟩ := h2 o
    rw [e]
    refine W.eq (wE_W _ ?_)
    conv => whnf
    refine wOpt_of ((show atI [x, y, D.int (v o), z] 2 = some (D.int (v o)) from rfl)) ?_
    conv => whnf
    exact ⟨rfl, rfl⟩
  · have e : (A.map g).map (fun d => match d with | .tup [_, _, t, _] => t | d => d) = (A.map v).map D.int := by
      rw [List.map_map, List.map_map]
      refine List.map_congr_left fun o _ => ?_
      obtain ⟨x, y, z, e⟩ := h2 o
      simp only [Function.comp, e]
    rw [e]
    conv => whnf
    refine wNeed_of (by simp; omega) ?_
    conv => whnf
    refine wNeed_of (by simp; omega) ?_
    conv => whnf
    refine wGet_new rfl ?_
    conv => whnf
    refine wGet_new rfl ?_
    conv => whnf
    refine wNeed_of (by simp; omega) ?_
    conv => whnf
    rw [show [D.int ((look kvs p).getD 0)] ++ (A.map v).map D.int = ((look kvs p).getD 0 :: A.map v).map D.int from rfl]
    refine wOut_of (s_most (n := f) (get_new _ _ _ 2) (by simp; omega)) ?_
    conv => whnf
    refine wNeed_of (by first | decide | omega | (simp; done) | (simp; omega)) ?_
    conv => whnf
    refine wFin_flat ?_ ⟨rfl, rfl⟩
    simp only [flat_tup, flats_cons, flats_nil, flat_int, flats_ints, Bool.and_true, Bool.true_and]
    rw [flats_iff]
    intro d hd
    obtain ⟨o, _, rfl⟩ := List.mem_map.mp hd
    exact hf _ o
theorem s_grown {l n : Nat} {h : Int} {kvs : List (List Int × D)} (hn : n ≤ 7) (hv : Wds kvs) : ∀ (k m : Nat) (S : R.St) (p : List Int), S.get l = some (.dtp kvs) → p.length + k ≤ 50 →
    app (callF prog (2 * k + m + 6)) 2 [.int n, .int ((p.length + k : Nat) : Int), .int h, .tup (p.map .int), .ref l] S = .ok (treeD kvs n h k p) S
  | 0, m, S, p, hg, hp => by
    rw [show 2 * 0 + m + 6 = m + 6 by omega]
    refine grown_W (A := []) (g := fun _ => .tup [.non, .non, .int 0, .non]) (v := fun _ => 0) hg hv (fun S' hg' => ?_) (by simp) (fun o => ⟨_, _, _, rfl⟩) (fun b o => rfl)
    refine app_ok (F := c_grown_below) rfl rfl ?_
    conv => whnf
    refine wIf_t (by simp) ?_
    conv => whnf
    refine wNeed_of (by first | decide | omega | (simp; done) | (simp; omega)) ?_
    conv => whnf
    exact wFin_flat rfl ⟨rfl, rfl⟩
  | k + 1, m, S, p, hg, hp => by
    rw [show 2 * (k + 1) + m + 6 = (2 * k + m + 2) + 6 by omega]
    have ol : (oth n h p).length ≤ 7 := by
      have := List.length_filter_le (fun o => !decide (o = h) && !decide (o ∈ p)) (hnds n)
      unfold oth
      have l : (hnds n).length = n := by simp [hnds]
      omega
    refine grown_W (A := oth n h p) (g := fun o => treeD kvs n h k (p ++ [o])) (v := fun o => tkn (look kvs) n h k (p ++ [o])) hg hv (fun S' hg' => ?_) (by omega) (fun o => tree_2 kvs n h k (p ++ [o])) (fun b o => treeD_flat kvs n h b k (p ++ [o]))
    rw [show 2 * k + m + 2 + 5 = 2 * (k + 1) + m + 5 by omega]
    refine below_W hg' hn (by omega) (by omega) fun S2 o hg2 => ?_
    have := s_grown (h := h) hn hv k m S2 (p ++ [o]) hg2 (by simp; omega)
    rw [show (p ++ [o]).length + k = p.length + (k + 1) by simp; omega] at this
    exact this
theorem map_erase {α β : Type} (f : α → β) : ∀ (l : List α) (j : Nat), (l.map f).eraseIdx j = (l.eraseIdx j).map f
  | [], _ => rfl
  | _ :: _, 0 => rfl
  | a :: l, j + 1 => by simp [map_erase f l j]
abbrev pD (p : List Int) : D := .tup (p.map .int)
theorem rng_hnds (n : Nat) : ((List.range (n : Int).toNat).map fun (k : Nat) => D.int k) = (hnds n).map D.int := by
  rw [Int.toNat_natCast]
  unfold hnds
  rw [List.map_map]; rfl
theorem hnds_len (n : Nat) : (hnds n).length = n := by simp [hnds]
theorem hnds_get {n i : Nat} {w : Int} (h : (hnds n)[i]? = some w) : w = i ∧ i < n := by
  have hl : i < n := by have := (List.getElem?_eq_some_iff.mp h).1; rw [hnds_len] at this; exact this
  unfold hnds at h
  rw [List.getElem?_map, List.getElem?_range hl] at h
  simp at h
  exact ⟨h.symm, hl⟩
/-- the same but at one place -/
structure Sm (mo : Nat) (T T' : R.St) : Prop where
  frz : T'.frz = T.frz
  lk : T'.lk = T.lk
  len : T'.len = T.len
  oth : ∀ m, m ≠ mo → T'.get m = T.get m
theorem Sm.refl (mo : Nat) (T : R.St) : Sm mo T T := ⟨rfl, rfl, rfl, fun _ _ => rfl⟩
theorem Sm.trans {mo : Nat} {T T1 T2 : R.St} (a : Sm mo T T1) (b : Sm mo T1 T2) : Sm mo T T2 := ⟨b.frz.trans a.frz, b.lk.trans a.lk, b.len.trans a.len, fun m h => (b.oth m h).trans (a.oth m h)⟩
theorem s_grown0 {l n m : Nat} {S : R.St} {r h : Int} {kvs : List (List Int × D)} {p : List Int} (hv : Wds kvs) (hg : S.get l = some (.dtp kvs)) (hr : r ≤ p.length) : app (callF prog (m + 6)) 2 [.int n, .int r, .int h, .tup (p.map .int), .ref l] S = .ok (treeD kvs n h 0 p) S := by
  refine grown_W (A := []) (g := fun _ => .tup [.non, .non, .int 0, .non]) (v := fun _ => 0) hg hv (fun S' hg' => ?_) (by simp) (fun o => ⟨_, _, _, rfl⟩) (fun b o => rfl)
  refine app_ok (F := c_grown_below) rfl rfl ?_
  conv => whnf
  refine wIf_t (by simp; omega) ?_
  conv => whnf
  refine wNeed_of (by first | decide | omega | (simp; done) | (simp; omega)) ?_
  conv => whnf
  exact wFin_flat rfl ⟨rfl, rfl⟩
theorem oth_le (n : Nat) (h : Int) (p : List Int) : (oth n h p).length ≤ n := by
  have := List.length_filter_le (fun o => !decide (o = h) && !decide (o ∈ p)) (hnds n)
  unfold oth
  rw [hnds_len] at this
  exact this
theorem eqv_ints : ∀ p q : List Int, PySem.PyData.eqvAll (p.map PySem.PyData.int) (q.map PySem.PyData.int) = decide (p = q)
  | [], [] => by simp [PySem.PyData.eqvAll]
  | [], _ :: _ => by simp [PySem.PyData.eqvAll]
  | _ :: _, [] => by simp [PySem.PyData.eqvAll]
  | a :: p, b :: q => by
    rw [List.map_cons, List.map_cons, PySem.PyData.eqvAll, L2.eqv_int, eqv_ints p q]
    by_cases c : a = b
    · subst c; simp
    · have : (a == b) = false := beq_eq_false_iff_ne.mpr c
      simp [this, c]
theorem pd_ints (S : R.St) (n : Nat) : ∀ p : List Int, (p.map D.int).mapM (pd S n) = some (p.map PySem.PyData.int)
  | [] => rfl
  | x :: p => by
    rw [List.map_cons, List.mapM_cons, pd_ints S n p]
    cases n <;> rfl
theorem eqD_ints (S : R.St) (p q : List Int) : eqD S (pD p) (pD q) = some (decide (p = q)) := by
  have e : ∀ p : List Int, pd S 60 (pD p) = some (.tuple (p.map PySem.PyData.int)) := fun p => by
    simp only [pD, pd, pd_ints]; rfl
  unfold eqD
  rw [e, e]
  show some (PySem.PyData.eqv (.tuple _) (.tuple _)) = _
  rw [PySem.PyData.eqv, eqv_ints]
theorem cmp_ints (S : R.St) (p q : List Int) : cmpO S .Eq (.tup (p.map .int)) (.tup (q.map .int)) = some (decide (p = q)) := eqD_ints S p q
def Wv (kvs : List (List Int × D)) : Prop := ∀ kv ∈ kvs, Wd kv.2
theorem Wv.ds {kvs : List (List Int × D)} (h : Wv kvs) : Wds kvs := fun p d e => by
  unfold valP at e
  cases c : kvs.find? (fun kv => decide (kv.1 = p)) with
  | none => rw [c] at e; cases e
  | some kv => rw [c] at e; cases e; exact h kv (List.mem_of_find?_eq_some c)
theorem Wv.flat {kvs : List (List Int × D)} (h : Wv kvs) (b : Nat) : flats b (kvs.map (·.2)) = true := by
  rw [flats_iff]
  intro d hd
  obtain ⟨kv, hk, rfl⟩ := List.mem_map.mp hd
  obtain ⟨o, e⟩ := h kv hk
  rw [e]
  cases o <;> rfl
theorem wFin_newP {S : R.St} {nw : List MO} {lk : List Nat} {i : Nat} {kvs : List (List Int × D)} {Q : D → R.St → Prop} (hg : nw[i]? = some (.dtp kvs)) (h : flats S.len (kvs.map (·.2)) = true) (q : Q (.ref S.len) (S.push (.dtp kvs))) :
    wFin S (.rt (.ref ((S.frz ++ S.new).length + i))) (St.mk (S.frz ++ S.new) nw lk) Q := by
  have h0 : flat S.len (.ref ((S.frz ++ S.new).length + i)) = false := by simp [flat, St.len]
  have hg' := (get_new (S.frz ++ S.new) nw lk i).trans hg
  unfold wFin
  rw [fin_rt]
  unfold leave
  simp only [h0, hg', h, if_true, Bool.false_eq_true, if_false]
  exact q
theorem dPut_new {F : List MO} {nw : List MO} {i : Nat} {kvs : List (List Int × D)} (h : nw[i]? = some (.dtp kvs)) (h3 : kvs.length < 16777216) (p : List Int) (v : D) : dPut ⟨F, nw, []⟩ (.ref (F.length + i)) (pD p) v = some ⟨F, nw.set i (.dtp (putP kvs p v)), []⟩ := by
  unfold dPut
  dsimp only
  rw [get_new, h]
  dsimp only
  rw [keyOf_ints]
  dsimp only [Option.bind_some]
  rw [if_pos h3, put_new rfl]
theorem at_app {fd xs : List (List Int)} {k : Nat} {q : List Int} (h : fd[k]? = some q) : atI ((fd ++ xs).map pD) (k : Int) = some (pD q) := atI_nat (by
  have hl := (List.getElem?_eq_some_iff.mp h).1
  rw [List.getElem?_map, List.getElem?_append_left hl, h]; rfl)
/-! hashes -/
theorem hashInt_small {x : Nat} (h : x < 7) : PySem.hashInt (x : Int) = x := by
  have cs : x = 0 ∨ x = 1 ∨ x = 2 ∨ x = 3 ∨ x = 4 ∨ x = 5 ∨ x = 6 := by omega
  rcases cs with rfl | rfl | rfl | rfl | rfl | rfl | rfl <;> decide
def stepI (acc : Nat) (h : Int) : Nat := (((acc + (h % ((2 ^ 64 : Nat) : Int)).toNat * 14029467366897019727) % 2 ^ 64) * 2 ^ 31 % 2 ^ 64 + ((acc + (h % ((2 ^ 64 : Nat) : Int)).toNat * 14029467366897019727) % 2 ^ 64) / 2 ^ 33) * 11400714785074694791 % 2 ^ 64
theorem p64 : (2 : Nat) ^ 64 = 18446744073709551616 := by decide
theorem p31 : (2 : Nat) ^ 31 = 2147483648 := by decide
theorem p33 : (2 : Nat) ^ 33 = 8589934592 := by decide
theorem step_eq (acc : Nat) {x : Nat} (h : x < 7) : stepI acc (PySem.hashInt (x : Int)) = stepH acc x := by
  have e : ((x : Int) % ((18446744073709551616 : Nat) : Int)).toNat = x := by omega
  unfold stepI stepH
  rw [hashInt_small h, p64, p31, p33, e]
theorem fold_acc : ∀ (p : List Nat) (acc : Nat), (∀ y ∈ p, y < 7) → ((p.map fun (x : Nat) => (x : Int)).map PySem.hashInt).foldl stepI acc = p.foldl stepH acc
  | [], acc, _ => rfl
  | x :: p, acc, h => by
    rw [List.map_cons, List.map_cons, List.foldl_cons, List.foldl_cons, step_eq acc (h x (by simp)), fold_acc p _ fun y hy => h y (by simp [hy])]
def outH (a : Nat) : Int := if a == 2 ^ 64 - 1 then 1546275796 else if a < 2 ^ 63 then (a : Int) else (a : Int) - ((2 ^ 64 : Nat) : Int)
theorem hash_unf (hs : List Int) : PySem.Builtin.Tuple.tupleHashOf hs = outH ((hs.foldl stepI 2870177450012600261 + (hs.length ^^^ (2870177450012600261 ^^^ 3527539))) % 2 ^ 64) := rfl
theorem hashP_acc {p : List Nat} (h : ∀ y ∈ p, y < 7) : hashP (p.map fun (x : Nat) => (x : Int)) = PySem.reduceHash (outH (accH p)) := by
  unfold hashP
  rw [hash_unf]
  have l : ((p.map fun (x : Nat) => (x : Int)).map PySem.hashInt).length = p.length := by simp
  rw [fold_acc p 2870177450012600261 h, l]
  have : accH p = (p.foldl stepH 2870177450012600261 + (p.length ^^^ (2870177450012600261 ^^^ 3527539))) % 2 ^ 64 := by
    unfold accH endH
    rw [p64]
  rw [← this]
theorem red_out {a : Nat} (h : a < 2 ^ 64) (hn : a ≠ 18446744073709551615) : PySem.reduceHash (outH a) = if a < 2 ^ 63 then (a : Int) else (a : Int) - 18446744073709551616 := by
  have e1 : outH a = if a < 2 ^ 63 then (a : Int) else (a : Int) - 18446744073709551616 := by
    unfold outH
    rw [if_neg (by simpa using hn)]
    rfl
  rw [e1]
  unfold PySem.reduceHash
  split
  · rw [if_pos (by simp; omega), if_neg (by simp <;> omega)]
  · rw [if_pos (by simp; omega), if_neg (by simp <;> omega)]
theorem acc_lt (p : List Nat) : accH p < 2 ^ 64 := by
  unfold accH endH
  exact Nat.mod_lt _ (by decide)
/-- a key: unlike hands, the first of them x -/
structure Kg (x : Int) (p : List Int) : Prop where
  hd : p.head? = some x
  nd : p.Nodup
  rg : ∀ y ∈ p, 0 ≤ y ∧ y < 7
theorem toNat_map {p : List Int} (h : ∀ y ∈ p, 0 ≤ y ∧ y < 7) : p = (p.map Int.toNat).map fun (x : Nat) => (x : Int) := by
  rw [List.map_map]
  conv => lhs; rw [← List.map_id p]
  refine List.map_congr_left fun y hy => ?_
  have := h y hy
  simp
  omega
theorem nodup_toNat {p : List Int} (h : ∀ y ∈ p, 0 ≤ y ∧ y < 7) (nd : p.Nodup) : (p.map Int.toNat).Nodup := by
  rw [List.Nodup, List.pairwise_map]
  refine List.Pairwise.imp_of_mem ?_ nd
  intro a b ha hb hne e
  have := h a ha
  have := h b hb
  exact hne (by omega)
theorem hashP_inj {x : Int} {p q : List Int} (hp : Kg x p) (hq : Kg x q) (e : hashP p = hashP q) : p = q := by
  obtain ⟨p', rfl⟩ : ∃ p', p = x :: p' := by
    have := hp.hd
    cases p with
    | nil => cases this
    | cons a p => simp at this; subst this; exact ⟨p, rfl⟩
  obtain ⟨q', rfl⟩ : ∃ q', q = x :: q' := by
    have := hq.hd
    cases q with
    | nil => cases this
    | cons a q => simp at this; subst this; exact ⟨q, rfl⟩
  have hx := hp.rg x (by simp)
  have rp : ∀ y ∈ (x :: p').map Int.toNat, y < 7 := fun y hy => by
    obtain ⟨z, hz, rfl⟩ := List.mem_map.mp hy
    have := hp.rg z hz
    omega
  have rq : ∀ y ∈ (x :: q').map Int.toNat, y < 7 := fun y hy => by
    obtain ⟨z, hz, rfl⟩ := List.mem_map.mp hy
    have := hq.rg z hz
    omega
  have np := nodup_toNat hp.rg hp.nd
  have nq := nodup_toNat hq.rg hq.nd
  rw [toNat_map hp.rg, toNat_map hq.rg, hashP_acc rp, hashP_acc rq] at e
  rw [List.map_cons] at rp rq np nq e
  rw [List.map_cons] at e
  have hx7 : x.toNat < 7 := by omega
  obtain ⟨n1, inj⟩ := acc_inj hx7 np nq (fun y hy => rp y (by simp [hy])) (fun y hy => rq y (by simp [hy]))
  obtain ⟨n2, _⟩ := acc_inj hx7 nq np (fun y hy => rq y (by simp [hy])) (fun y hy => rp y (by simp [hy]))
  have l1 := acc_lt (x.toNat :: p'.map Int.toNat)
  have l2 := acc_lt (x.toNat :: q'.map Int.toNat)
  rw [red_out l1 n1, red_out l2 n2] at e
  have ea : accH (x.toNat :: p'.map Int.toNat) = accH (x.toNat :: q'.map Int.toNat) := by
    split at e <;> split at e <;> omega
  have em := inj ea
  have hp' : ∀ y ∈ p', 0 ≤ y ∧ y < 7 := fun y hy => hp.rg y (by simp [hy])
  have hq' : ∀ y ∈ q', 0 ≤ y ∧ y < 7 := fun y hy => hq.rg y (by simp [hy])
  rw [toNat_map hp', toNat_map hq', em]
/-- a dict of words: keys as they should be -/
structure Kd (x : Int) (kvs : List (List Int × D)) : Prop where
  wv : Wv kvs
  ks : ∀ kv ∈ kvs, Kg x kv.1
  nd : (kvs.map (·.1)).Nodup
theorem Kd.hash {x : Int} {kvs : List (List Int × D)} (h : Kd x kvs) : hashOk kvs = true := by
  unfold hashOk
  rw [decide_eq_true_eq]
  have h2 := h.nd
  rw [List.Nodup, List.pairwise_map] at h2 ⊢
  exact h2.imp_of_mem fun {a b} ha hb hne e => hne (hashP_inj (h.ks a ha) (h.ks b hb) e)
theorem s_word {n : Nat} {S : R.St} {c : Int} : ∃ o, app (callF prog (n+1)) 6 [.int c] S = .ok (oD o) S := by
  have key : W (app (callF prog (n+1)) 6 [.int c] S) fun d T => T = S ∧ ∃ o, d = oD o := by
    refine app_W (F := c_law_word) rfl rfl ?_
    conv => whnf
    repeat (first | (refine wNeed_of (by first | decide | omega | (simp; done) | (simp; omega)) ?_; conv => whnf) | (refine wGet_new rfl ?_; conv => whnf) | (refine wPut_new rfl ?_; conv => whnf) | (refine wGet_old (by assumption) ?_; conv => whnf))
    refine wIf_p (fun c1 => ?_) (fun c1 => ?_)
    · conv => whnf
      exact wFin_flat rfl ⟨rfl, none, rfl⟩
    · conv => whnf
      repeat (first | (refine wNeed_of (by first | decide | omega | (simp; done) | (simp; omega)) ?_; conv => whnf) | (refine wGet_new rfl ?_; conv => whnf) | (refine wPut_new rfl ?_; conv => whnf) | (refine wGet_old (by assumption) ?_; conv => whnf))
      refine wIf_p (fun c2 => ?_) (fun c2 => ?_)
      · conv => whnf
        repeat (first | (refine wNeed_of (by first | decide | omega | (simp; done) | (simp; omega)) ?_; conv => whnf) | (refine wGet_new rfl ?_; conv => whnf) | (refine wPut_new rfl ?_; conv => whnf) | (refine wGet_old (by assumption) ?_; conv => whnf))
        exact wFin_flat rfl ⟨rfl, some _, rfl⟩
      · conv => whnf
        repeat (first | (refine wNeed_of (by first | decide | omega | (simp; done) | (simp; omega)) ?_; conv => whnf) | (refine wGet_new rfl ?_; conv => whnf) | (refine wPut_new rfl ?_; conv => whnf) | (refine wGet_old (by assumption) ?_; conv => whnf))
        refine wIf_p (fun c3 => ?_) (fun c3 => ?_)
        · conv => whnf
          repeat (first | (refine wNeed_of (by first | decide | omega | (simp; done) | (simp; omega)) ?_; conv => whnf) | (refine wGet_new rfl ?_; conv => whnf) | (refine wPut_new rfl ?_; conv => whnf) | (refine wGet_old (by assumption) ?_; conv => whnf))
          exact wFin_flat rfl ⟨rfl, some _, rfl⟩
        · conv => whnf
          repeat (first | (refine wNeed_of (by first | decide | omega | (simp; done) | (simp; omega)) ?_; conv => whnf) | (refine wGet_new rfl ?_; conv => whnf) | (refine wPut_new rfl ?_; conv => whnf) | (refine wGet_old (by assumption) ?_; conv => whnf))
          refine wIf_p (fun c4 => ?_) (fun c4 => ?_)
          · conv => whnf
            repeat (first | (refine wNeed_of (by first | decide | omega | (simp; done) | (simp; omega)) ?_; conv => whnf) | (refine wGet_new rfl ?_; conv => whnf) | (refine wPut_new rfl ?_; conv => whnf) | (refine wGet_old (by assumption) ?_; conv => whnf))
            exact wFin_flat rfl ⟨rfl, some _, rfl⟩
          · conv => whnf
            exact wFin_flat rfl ⟨rfl, some _, rfl⟩
  obtain ⟨d, T, e, rfl, o, rfl⟩ := W.iff.mp key
  exact ⟨o, e⟩
theorem s_small {n : Nat} {S : R.St} {c w : Int} : ∃ o, app (callF prog (n+1)) 9 [.int c, .int w] S = .ok (oD o) S := by
  have key : W (app (callF prog (n+1)) 9 [.int c, .int w] S) fun d T => T = S ∧ ∃ o, d = oD o := by
    refine app_W (F := c_law_small) rfl rfl ?_
    conv => whnf
    refine wIf_p (fun c1 => ?_) (fun c1 => ?_)
    · conv => whnf
      exact wFin_flat rfl ⟨rfl, none, rfl⟩
    · conv => whnf
      refine wIf_p (fun c2 => ?_) (fun c2 => ?_)
      · conv => whnf
        exact wFin_flat rfl ⟨rfl, some _, rfl⟩
      · conv => whnf
        exact wFin_flat rfl ⟨rfl, some _, rfl⟩
  obtain ⟨d, T, e, rfl, o, rfl⟩ := W.iff.mp key
  exact ⟨o, e⟩
theorem s_digit {m : Nat} {S : R.St} {ns : List Int} {k : Nat} : ∃ z : Int, app (callF prog (m+2)) 8 [.fix (ns.map .int), .int 6, .int k] S = .ok (.int z) S := by
  have key : W (app (callF prog (m+2)) 8 [.fix (ns.map .int), .int 6, .int k] S) fun d T => T = S ∧ ∃ z : Int, d = .int z := by
    refine app_W (F := c_law_digit) rfl rfl ?_
    conv => whnf
    refine wNeed_of (by first | decide | omega | (simp; done) | (simp; omega)) ?_
    conv => whnf
    have ej : (6 : Int) + (k : Int) / 50 = ((6 + k / 50 : Nat) : Int) := by omega
    rw [ej]
    refine wOut_of (s_cell (n := m) (k := 6 + k / 50)) ?_
    conv => whnf
    refine wNeed_of (by first | decide | omega | (simp; done) | (simp; omega)) ?_
    conv => whnf
    have k0 := Int.emod_nonneg (k : Int) (b := 50) (by decide)
    have k1 := Int.emod_lt_of_pos (k : Int) (b := 50) (by decide)
    refine wNeed_of (by omega) ?_
    conv => whnf
    refine wLock_of ?_
    refine W.mono (turnsF_inv (fun i δ T => (∃ (z : Int) (v : Option D), δ = [some (.fix (ns.map .int)), some (.int 6), some (.int k), some (.int z), v]) ∧ T = S.enter) (fun _ _ => False) _ 0 _ _ ⟨⟨_, none, rfl⟩, rfl⟩ ?_) ?_
    · rintro i z δ T hz ⟨⟨z0, v, rfl⟩, rfl⟩
      refine ⟨_, rfl, ?_⟩
      generalize hδ : List.set _ 4 _ = δ1
      refine wS_W _ ?_
      subst hδ
      conv => whnf
      refine wNeed_of (by first | decide | omega | (simp; done) | (simp; omega)) ?_
      conv => whnf
      exact ⟨⟨_, _, rfl⟩, rfl⟩
    · rintro f T h
      cases f with
      | rt d => exact h.elim
      | nx δ =>
        obtain ⟨⟨z0, v, rfl⟩, rfl⟩ := h
        conv => whnf
        refine wNeed_of (by first | decide | omega | (simp; done) | (simp; omega)) ?_
        conv => whnf
        exact wFin_flat rfl ⟨rfl, _, rfl⟩
  obtain ⟨d, T, e, rfl, z, rfl⟩ := W.iff.mp key
  exact ⟨z, e⟩
/-! the paths -/
structure Pg (n : Nat) (h x : Int) (q : List Int) : Prop where
  hd : q.head? = some x
  nd : q.Nodup
  rg : ∀ y ∈ q, 0 ≤ y ∧ y < n
  no : h ∉ q
theorem nodup_le {α : Type} [DecidableEq α] : ∀ {A B : List α}, A.Nodup → (∀ x ∈ A, x ∈ B) → A.length ≤ B.length
  | [], _, _, _ => Nat.zero_le _
  | x :: A, B, nd, h => by
    have h1 := List.nodup_cons.mp nd
    have := nodup_le (A := A) (B := B.erase x) h1.2 fun y hy => (List.mem_erase_of_ne (show y ≠ x from fun z => h1.1 (z ▸ hy))).mpr (h y (by simp [hy]))
    have hx : x ∈ B := h x (by simp)
    rw [List.length_erase_of_mem hx] at this
    have := List.length_pos_of_mem hx
    simp only [List.length_cons]
    omega
theorem Pg.olen {n : Nat} {h x : Int} {q : List Int} (g : Pg n h x q) (hh : 0 ≤ h ∧ h < n) : (oth n h q).length + q.length + 1 ≤ n := by
  have nd : (oth n h q ++ (q ++ [h])).Nodup := by
    rw [List.nodup_append]
    refine ⟨oth_nodup n h q, ?_, fun a ha b hb e => ?_⟩
    · rw [List.nodup_append]
      exact ⟨g.nd, by simp, fun a ha b hb e => by rw [List.mem_singleton] at hb; subst hb e; exact g.no ha⟩
    · subst e
      have := (oth_mem.mp ha).2
      rcases List.mem_append.mp hb with z | z
      · exact this.2 z
      · rw [List.mem_singleton] at z; exact this.1 z
  have := nodup_le (B := hnds n) nd fun y hy => by
    rw [hnds_mem]
    rcases List.mem_append.mp hy with z | z
    · exact (oth_mem.mp z).1
    · rcases List.mem_append.mp z with z | z
      · exact g.rg y z
      · rw [List.mem_singleton] at z; subst z; exact hh
  simp only [List.length_append, List.length_cons, List.length_nil, hnds_len] at this
  omega
theorem Pg.snoc {n : Nat} {h x o : Int} {q : List Int} (g : Pg n h x q) (ho : o ∈ R.oth n h q) : Pg n h x (q ++ [o]) := by
  obtain ⟨h1, h2, h3⟩ := oth_mem.mp ho
  refine ⟨by rw [List.head?_append, g.hd]; rfl, ?_, fun y hy => ?_, fun z => ?_⟩
  · rw [List.nodup_append]
    exact ⟨g.nd, by simp, fun a ha b hb e => by rw [List.mem_singleton] at hb; subst hb e; exact h3 ha⟩
  · rcases List.mem_append.mp hy with z | z
    · exact g.rg y z
    · rw [List.mem_singleton] at z; subst z; exact h1
  · rcases List.mem_append.mp z with z | z
    · exact g.no z
    · rw [List.mem_singleton] at z; exact h2 z.symm
theorem Pg.kg {n : Nat} {h x : Int} {q : List Int} (g : Pg n h x q) (hn : n ≤ 7) : Kg x q := ⟨g.hd, g.nd, fun y hy => by have := g.rg y hy; omega⟩
theorem Pg.kgh {n : Nat} {h x : Int} {q : List Int} (g : Pg n h x q) (hn : n ≤ 7) (hh : 0 ≤ h ∧ h < n) : Kg x (q ++ [h]) := by
  refine ⟨by rw [List.head?_append, g.hd]; rfl, ?_, fun y hy => ?_⟩
  · rw [List.nodup_append]
    exact ⟨g.nd, by simp, fun a ha b hb e => by rw [List.mem_singleton] at hb; subst hb e; exact g.no ha⟩
  · rcases List.mem_append.mp hy with z | z
    · have := g.rg y z; omega
    · rw [List.mem_singleton] at z; subst z; omega
def wz : Nat → Nat
  | 0 => 1
  | k + 1 => 1 + (k + 1) * wz k
theorem wz_pos (k : Nat) : 1 ≤ wz k := by cases k <;> simp [wz]
def wzP (q : List Int) : Nat := wz (6 - q.length)
def mu (qs : List (List Int)) : Nat := (qs.map wzP).sum
theorem mu_len : ∀ qs : List (List Int), qs.length ≤ mu qs
  | [] => by simp [mu]
  | q :: qs => by
    have := mu_len qs
    have := wz_pos (6 - q.length)
    simp only [mu, List.map_cons, List.sum_cons, List.length_cons, wzP] at *
    omega
theorem mu_le (w : Nat) : ∀ qs : List (List Int), (∀ q ∈ qs, wzP q ≤ w) → mu qs ≤ qs.length * w
  | [], _ => by simp [mu]
  | q :: qs, h => by
    have := mu_le w qs fun x hx => h x (by simp [hx])
    have := h q (by simp)
    simp only [mu, List.map_cons, List.sum_cons, List.length_cons, Nat.succ_mul] at *
    omega
theorem mu_app (a b : List (List Int)) : mu (a ++ b) = mu a + mu b := by simp [mu]
/-- what a path's paths weigh -/
theorem mu_oth {n : Nat} {h x : Int} {q : List Int} (g : Pg n h x q) (hn : n ≤ 7) (hh : 0 ≤ h ∧ h < n) : mu ((oth n h q).map fun o => q ++ [o]) < wzP q := by
  have ho := g.olen hh
  have a := mu_le (wz (6 - q.length - 1)) ((oth n h q).map fun o => q ++ [o]) fun r hr => by
    obtain ⟨o, _, rfl⟩ := List.mem_map.mp hr
    unfold wzP
    rw [List.length_append, List.length_singleton, show 6 - (q.length + 1) = 6 - q.length - 1 by omega]
    exact Nat.le_refl _
  rw [List.length_map] at a
  unfold wzP
  cases e : 6 - q.length with
  | zero =>
    have : (oth n h q).length = 0 := by omega
    rw [this, Nat.zero_mul] at a
    simp only [wz]
    omega
  | succ k =>
    rw [e, Nat.add_sub_cancel] at a
    have b : (oth n h q).length * wz k ≤ (k + 1) * wz k := Nat.mul_le_mul_right _ (by omega)
    simp only [wz]
    omega
def pB : CS := (.ifS (.and (.cmp .NotEq (.loc 6) (.loc 3)) (.cmp .NotIn (.loc 6) (.ix (.loc 4) (.loc 5))))
       (.expr (.mt .append (.loc 4) (.cons (.bin .Add (.ix (.loc 4) (.loc 5)) (.tup (.cons (.loc 6) .nil))) .nil))
       .nil)
       .nil
      .nil)
def pW : CS := (.ifS (.cmp .Lt (.bi .len (.cons (.ix (.loc 4) (.loc 5)) .nil)) (.loc 2))
     (.forS [6] (.rng1 (.loc 1))
      pB
     .nil)
     .nil
    (.asg 5 (.bin .Add (.loc 5) (.con (D.int 1)))
    .nil))
abbrev EP (p : List Int) (n t : Nat) (h : Int) (F : List MO) (k : Nat) (v : Option D) : Ev := [some (pD p), some (.int n), some (.int t), some (.int h), some (.ref (F.length + 0)), some (.int k), v]
def kidsOf (h : Int) (q : List Int) (ws : List Int) : List (List Int) := (ws.filter fun o => !decide (o = h) && !decide (o ∈ q)).map fun o => q ++ [o]
theorem kids_all (n : Nat) (h : Int) (q : List Int) : kidsOf h q (hnds n) = (oth n h q).map fun o => q ++ [o] := rfl
theorem p_loop {cf : CF} {p q : List Int} {n t k : Nat} {h : Int} {F : List MO} {fd : List (List Int)} (hn : n ≤ 7) (hq : fd[k]? = some q) (hl : fd.length ≤ 1000) (hql : q.length ≤ 1000) (v : Option D) :
    W (turnsF [6] (exS cf pB) ((hnds n).map D.int) (EP p n t h F k v) ⟨F, [.lst (fd.map pD)], []⟩) fun f T => match f with
      | .nx δ => (∃ v, δ = EP p n t h F k v) ∧ T = ⟨F, [.lst ((fd ++ (oth n h q).map fun o => q ++ [o]).map pD)], []⟩
      | .rt d => False := by
  refine W.mono (turnsF_inv (fun i δ T => (∃ v, δ = EP p n t h F k v) ∧ T = ⟨F, [.lst ((fd ++ kidsOf h q ((hnds n).take i)).map pD)], []⟩) (fun _ _ => False) _ 0 _ _ ⟨⟨v, rfl⟩, by simp [kidsOf]⟩ ?_) ?_
  · rintro i zz δ T hz ⟨⟨v, rfl⟩, rfl⟩
    rw [Nat.zero_add]
    rw [List.getElem?_map] at hz
    cases e : (hnds n)[i]? with
    | none => rw [e] at hz; cases hz
    | some w =>
      rw [e] at hz; cases hz
      obtain ⟨_, hi⟩ := hnds_get e
      rw [take_snoc e]
      have lx : (kidsOf h q ((hnds n).take i)).length ≤ n := by
        unfold kidsOf
        rw [List.length_map]
        have := List.length_filter_le (fun o => !decide (o = h) && !decide (o ∈ q)) ((hnds n).take i)
        rw [List.length_take, hnds_len] at this
        omega
      have ex : kidsOf h q ((hnds n).take i ++ [w]) = kidsOf h q ((hnds n).take i) ++ if (!decide (w = h) && !decide (w ∈ q)) = true then [q ++ [w]] else [] := by
        unfold kidsOf
        rw [List.filter_append, List.map_append, List.filter_cons]
        split <;> simp
      rw [ex]
      generalize kidsOf h q ((hnds n).take i) = xs at lx
      refine ⟨_, rfl, ?_⟩
      generalize hδ : List.set _ 6 _ = δ1
      refine wS_W _ ?_
      subst hδ
      conv => whnf
      refine wIf_i (fun c => ?_) (fun c => ?_)
      · conv => whnf
        refine wGet_new rfl ?_
        conv => whnf
        refine wOpt_of (at_app hq) ?_
        conv => whnf
        refine wOpt_of (notIn_tup _ _ _) ?_
        conv => whnf
        refine wIf_i (fun c2 => ?_) (fun c2 => ?_)
        · conv => whnf
          refine wGet_new rfl ?_
          conv => whnf
          refine wGet_new rfl ?_
          conv => whnf
          refine wOpt_of (at_app hq) ?_
          conv => whnf
          refine wNeed_of (by first | decide | omega | (simp; done) | (simp; omega)) ?_
          conv => whnf
          refine wNeed_of (by simp only [List.length_map, List.length_cons, List.length_nil]; omega) ?_
          conv => whnf
          refine wGet_new rfl ?_
          conv => whnf
          refine wNeed_of (by simp only [List.length_append, List.length_map, List.length_cons, List.length_nil]; omega) ?_
          conv => whnf
          refine wPut_new rfl ?_
          conv => whnf
          refine ⟨⟨_, rfl⟩, ?_⟩
          rw [if_pos (by rw [Bool.and_eq_true]; exact ⟨by simpa using c, c2⟩)]
          show R.St.mk F [MO.lst ((fd ++ xs).map pD ++ [.tup (q.map D.int ++ [D.int w])])] [] = _
          simp
        · refine ⟨⟨_, rfl⟩, ?_⟩
          rw [if_neg (by rw [c2, Bool.and_false]; simp), List.append_nil]
      · refine ⟨⟨_, rfl⟩, ?_⟩
        have c' : (!decide (w = h)) = false := by simpa using c
        rw [if_neg (by rw [c', Bool.false_and]; simp), List.append_nil]
  · rintro f T h
    cases f with
    | rt d => exact h.elim
    | nx δ =>
      obtain ⟨h1, h2⟩ := h
      rw [Nat.zero_add, List.length_map, List.take_length, kids_all] at h2
      exact ⟨h1, h2⟩
def PI (p : List Int) (n t : Nat) (h x : Int) (F : List MO) (m : Nat) (δ : Ev) (T : R.St) : Prop := ∃ (k : Nat) (v : Option D) (fd : List (List Int)), δ = EP p n t h F k v ∧ T = ⟨F, [.lst (fd.map pD)], []⟩ ∧ (∀ q ∈ fd, Pg n h x q) ∧ k ≤ fd.length ∧ m = mu (fd.drop k) ∧ k + m ≤ 400 ∧ fd ≠ []
theorem Pg.len {n : Nat} {h x : Int} {q : List Int} (g : Pg n h x q) (hn : n ≤ 7) (hh : 0 ≤ h ∧ h < n) : q.length ≤ 6 := by have := g.olen hh; omega
theorem p_turn {cf : CF} {p q : List Int} {n t k m : Nat} {h x : Int} {F : List MO} {fd : List (List Int)} {v : Option D} (hn : n ≤ 7) (hh : 0 ≤ h ∧ h < n) (hq : fd[k]? = some q) (hg : ∀ q ∈ fd, Pg n h x q) (hm : m = mu (fd.drop k)) (hb : k + m ≤ 400) :
    wS cf pW (EP p n t h F k v) ⟨F, [.lst (fd.map pD)], []⟩ fun f T => match f with
      | .nx δ => ∃ m', m' < m ∧ PI p n t h x F m' δ T
      | .rt d => False := by
  obtain ⟨hkl, hke⟩ := List.getElem?_eq_some_iff.mp hq
  have hd : fd.drop k = q :: fd.drop (k + 1) := by rw [List.drop_eq_getElem_cons hkl, hke]
  have hlen : fd.length ≤ 800 := by
    have := mu_len (fd.drop k)
    rw [List.length_drop] at this
    omega
  have gq := hg q (List.mem_of_getElem? hq)
  have hql : q.length ≤ 6 := gq.len hn hh
  have hm2 : m = wzP q + mu (fd.drop (k + 1)) := by rw [hm, hd]; simp [mu]
  have wp : 1 ≤ wzP q := wz_pos _
  have fne : fd ≠ [] := fun z => by rw [z] at hkl; simp at hkl
  have e0 : fd.map pD = (fd ++ []).map pD := by simp
  have ha : atI (fd.map pD) (k : Int) = some (pD q) := by rw [e0]; exact at_app hq
  conv => whnf
  refine wGet_new rfl ?_
  conv => whnf
  refine wOpt_of (ha) ?_
  conv => whnf
  refine wIf_p (fun c => ?_) (fun c => ?_)
  · conv => whnf
    refine wNeed_of (by omega) ?_
    conv => whnf
    refine wLock_of ?_
    rw [rng_hnds]
    refine W.mono (p_loop (cf := cf) (p := p) (q := q) (n := n) (t := t) (k := k) (h := h) (F := F) (fd := fd) hn hq (by omega) (by omega) v) ?_
    rintro f T hf
    cases f with
    | rt d => exact hf.elim
    | nx δ =>
      obtain ⟨⟨v, rfl⟩, rfl⟩ := hf
      have hx := mu_oth gq hn hh
      have hd2 : mu ((fd ++ (oth n h q).map fun o => q ++ [o]).drop (k + 1)) = mu (fd.drop (k + 1)) + mu ((oth n h q).map fun o => q ++ [o]) := by
        rw [List.drop_append_of_le_length (by omega), mu_app]
      refine ⟨_, ?_, k + 1, v, fd ++ (oth n h q).map (fun o => q ++ [o]), rfl, rfl, fun r hr => ?_, by simp; omega, rfl, by omega, by simp [fne]⟩
      · omega
      · rcases List.mem_append.mp hr with z | z
        · exact hg r z
        · obtain ⟨o, ho, rfl⟩ := List.mem_map.mp z
          exact gq.snoc ho
  · exact ⟨mu (fd.drop (k + 1)), by omega, k + 1, v, fd, rfl, rfl, hg, by omega, rfl, by omega, fne⟩
theorem s_paths {f : Nat} {S : R.St} {p : List Int} {n t : Nat} {h x : Int} (hn : n ≤ 7) (hh : 0 ≤ h ∧ h < n) (ht : t ≤ 50) (gp : Pg n h x p) (hp1 : 1 ≤ p.length) : ∃ fd : List (List Int), app (callF prog (f + 1)) 7 [pD p, .int n, .int t, .int h] S = .ok (.ref S.len) (S.push (.lst (fd.map pD))) ∧ (∀ q ∈ fd, Pg n h x q) ∧ fd ≠ [] ∧ fd.length ≤ 400 := by
  have key : W (app (callF prog (f + 1)) 7 [pD p, .int n, .int t, .int h] S) fun d T => ∃ fd : List (List Int), d = .ref S.len ∧ T = S.push (.lst (fd.map pD)) ∧ (∀ q ∈ fd, Pg n h x q) ∧ fd ≠ [] ∧ fd.length ≤ 400 := by
    refine app_W (F := c_law_paths_from) rfl rfl ?_
    conv => whnf
    refine wNeed_of (by first | decide | omega | (simp; done) | (simp; omega)) ?_
    conv => whnf
    refine wOut_W ?_
    have hw : wz (6 - p.length) ≤ 326 := by
      have : 6 - p.length = 0 ∨ 6 - p.length = 1 ∨ 6 - p.length = 2 ∨ 6 - p.length = 3 ∨ 6 - p.length = 4 ∨ 6 - p.length = 5 := by omega
      rcases this with e | e | e | e | e | e <;> rw [e] <;> decide
    refine W.mono (turnsW_inv (PI p n t h x (S.frz ++ S.new)) (fun δ T => ∃ (k : Nat) (v : Option D) (fd : List (List Int)), δ = EP p n t h (S.frz ++ S.new) k v ∧ T = ⟨S.frz ++ S.new, [.lst (fd.map pD)], []⟩ ∧ (∀ q ∈ fd, Pg n h x q) ∧ fd ≠ [] ∧ fd.length ≤ 400) (fun _ _ => False) ?_ 100000 (mu [p]) _ _ ?_ ?_) ?_
    · rintro m δ T ⟨k, v, fd, rfl, rfl, hg, hkl, hm, hb, hne⟩
      have ec : evT (callF prog f) (.cmp .Lt (.loc 5) (.bi .len (.cons (.loc 4) .nil))) (EP p n t h (S.frz ++ S.new) k v) ⟨S.frz ++ S.new, [.lst (fd.map pD)], []⟩ = .ok (decide ((k : Int) < ((fd.map pD).length : Nat))) ⟨S.frz ++ S.new, [.lst (fd.map pD)], []⟩ := by
        refine W.eq (wT_W _ ?_)
        conv => whnf
        refine wGet_new rfl ?_
        conv => whnf
        exact ⟨rfl, rfl⟩
      refine W.of ec ?_
      by_cases c : (k : Int) < ((fd.map pD).length : Nat)
      · rw [decide_eq_true c, if_pos rfl]
        have c : k < fd.length := by rw [List.length_map] at c; omega
        generalize hδ : EP p n t h (S.frz ++ S.new) k v = δ1
        refine wS_W pW ?_
        subst hδ
        exact p_turn hn hh (List.getElem?_eq_getElem c) hg hm hb
      · rw [decide_eq_false c, if_neg (by decide)]
        have c : ¬ k < fd.length := by rw [List.length_map] at c; omega
        exact ⟨k, v, fd, rfl, rfl, hg, hne, by omega⟩
    · simp [mu, wzP]; omega
    · exact ⟨0, none, [p], rfl, rfl, fun q hq => by rw [List.mem_singleton] at hq; subst hq; exact gp, by simp, rfl, by simp [mu, wzP]; omega, by simp⟩
    · rintro r T hr
      cases r with
      | rt d => exact hr.elim
      | nx δ =>
        obtain ⟨k, v, fd, rfl, rfl, hg, hne, hl⟩ := hr
        conv => whnf
        refine wFin_new (i := 0) rfl ?_ ⟨fd, rfl, rfl, hg, hne, hl⟩
        rw [flats_iff]
        intro d hd
        obtain ⟨x, _, rfl⟩ := List.mem_map.mp hd
        simp
  obtain ⟨d, T, e, fd, rfl, rfl, r⟩ := W.iff.mp key
  exact ⟨fd, e, r⟩
/-! the notes -/
theorem put_keys : ∀ (kvs : List (List Int × D)) (k : List Int) (v : D), (putP kvs k v).map (·.1) = if k ∈ kvs.map (·.1) then kvs.map (·.1) else kvs.map (·.1) ++ [k]
  | [], k, v => by simp [putP]
  | (j, d) :: r, k, v => by
    unfold putP
    by_cases c : j = k
    · subst c; simp
    · have c' : ¬ k = j := fun z => c z.symm
      rw [if_neg c, List.map_cons, put_keys r k v]
      by_cases c2 : k ∈ r.map (·.1)
      · rw [if_pos c2, if_pos (by rw [List.map_cons]; exact List.mem_cons_of_mem _ c2), List.map_cons]
      · rw [if_neg c2, if_neg (by rw [List.map_cons, List.mem_cons]; exact fun z => z.elim c' c2), List.map_cons, List.cons_append]
theorem put_mem {kvs : List (List Int × D)} {k : List Int} {v : D} {kv : List Int × D} (h : kv ∈ putP kvs k v) : kv ∈ kvs ∨ kv = (k, v) := by
  induction kvs with
  | nil => simp [putP] at h; exact .inr h
  | cons a r ih =>
    obtain ⟨j, d⟩ := a
    unfold putP at h
    split at h
    · rename_i c
      subst c
      rcases List.mem_cons.mp h with e | h
      · exact .inr e
      · exact .inl (List.mem_cons_of_mem _ h)
    · rcases List.mem_cons.mp h with e | h
      · exact .inl (by rw [e]; simp)
      · rcases ih h with z | z
        · exact .inl (List.mem_cons_of_mem _ z)
        · exact .inr z
theorem Kd.put {x : Int} {kvs : List (List Int × D)} {p : List Int} {v : D} (h : Kd x kvs) (g : Kg x p) (hv : Wd v) : Kd x (putP kvs p v) := by
  refine ⟨fun kv hk => ?_, fun kv hk => ?_, ?_⟩
  · rcases put_mem hk with z | z
    · exact h.wv kv z
    · subst z; exact hv
  · rcases put_mem hk with z | z
    · exact h.ks kv z
    · subst z; exact g
  · rw [put_keys]
    split
    · exact h.nd
    · rename_i c
      rw [List.nodup_append]
      exact ⟨h.nd, by simp, fun a ha b hb e => by rw [List.mem_singleton] at hb; subst hb e; exact c ha⟩
theorem put_le (kvs : List (List Int × D)) (k : List Int) (v : D) : (putP kvs k v).length ≤ kvs.length + 1 := by rw [putP_len]; split <;> omega
abbrev E8 (ns : List Int) (l : Nat) (h : Int) (F : List MO) (v4 v5 v6 v7 : Option D) : Ev := [some (.fix (ns.map .int)), some (.ref l), some (.int h), some (.ref (F.length + 0)), v4, v5, v6, v7]
def nA : CS := (.asg 5 (.call 8 0 (.cons (.loc 0) (.cons (.con (D.int 6)) (.cons (.loc 4) .nil))))
     (.ifS (.cmp .Gt (.loc 5) (.con (D.int 0)))
      (.setIx (.loc 3) (.ix (.loc 1) (.loc 4)) (.call 9 0 (.cons (.loc 5) (.cons (.bin .Sub (.bin .Pow (.con (D.int 10)) (.con (D.int 60))) (.con (D.int 1))) .nil)))
      .nil)
      .nil
     (.ifS (.cmp .Eq (.bin .Mod (.loc 5) (.con (D.int 3))) (.con (D.int 1)))
      (.setIx (.loc 3) (.bin .Add (.ix (.loc 1) (.loc 4)) (.tup (.cons (.loc 2) .nil))) (.con (D.int 7))
      .nil)
      .nil
     .nil)))
def nA2 : CS := (.ifS (.cmp .Eq (.bin .Mod (.loc 5) (.con (D.int 3))) (.con (D.int 1)))
      (.setIx (.loc 3) (.bin .Add (.ix (.loc 1) (.loc 4)) (.tup (.cons (.loc 2) .nil))) (.con (D.int 7))
      .nil)
      .nil
     .nil)
def nB2 : CS := (.ifS (.cmp .Eq (.bin .Mod (.loc 7) (.con (D.int 3))) (.con (D.int 1)))
     (.setIx (.loc 3) (.bin .Add (.ix (.loc 1) (.loc 4)) (.tup (.cons (.loc 2) .nil))) (.con (D.int 7))
     .nil)
     .nil
    .nil)
def nB1 : CS := (.ifS (.cmp .NotEq (.bin .Mod (.loc 7) (.con (D.int 11))) (.con (D.int 3)))
     (.setIx (.loc 3) (.ix (.loc 1) (.loc 4)) (.call 6 0 (.cons (.loc 7) .nil))
     .nil)
     .nil
    nB2)
def nBB : CS := (.asg 6 (.bin .Mod (.bin .Add (.bin .Add (.bin .Mult (.loc 6) (.con (D.int 2411))) (.bin .Mult (.bin .Mult (.con (D.int 17)) (.loc 4)) (.loc 4))) (.con (D.int 90001))) (.con (D.int 15485863)))
    (.asg 7 (.bin .FloorDiv (.loc 6) (.con (D.int 5)))
    (.ifS (.cmp .Lt (.bin .Add (.con (D.int 6)) (.loc 4)) (.bi .len (.cons (.loc 0) .nil)))
     (.asg 7 (.call 5 0 (.cons (.loc 0) (.cons (.bin .Add (.con (D.int 6)) (.loc 4)) .nil)))
     .nil)
     .nil
    nB1)))
/-- what holds behind i turns -/
def NJ (b : Bool) (ns : List Int) (l : Nat) (h x : Int) (F : List MO) (i : Nat) (δ : Ev) (T : R.St) : Prop := ∃ (v4 v5 v7 : Option D) (v6 : Option Int) (kvs : List (List Int × D)), δ = E8 ns l h F v4 v5 (v6.map D.int) v7 ∧ T = ⟨F, [.dtp kvs], []⟩ ∧ Kd x kvs ∧ kvs.length ≤ 2 * i ∧ (b = true → v6.isSome = true) ∧ ∀ z, v6 = some z → 0 ≤ z ∧ z < 15485863
section
variable {cf : CF} {S : R.St} {ns : List Int} {l n i : Nat} {h x : Int} {fd : List (List Int)} {q : List Int} {kvs : List (List Int × D)}
theorem at_fd (hq : fd[i]? = some q) : atI (fd.map pD) (i : Int) = some (pD q) := by
  have := at_app (xs := []) hq
  rwa [List.append_nil] at this
/-- the last step: the path with the hand -/
theorem n_last {b : Bool} {v5 v7 : Option D} {v6 : Option Int} (hb : b = true → v6.isSome = true) (hn : n ≤ 7) (hh : 0 ≤ h ∧ h < n) (hg : S.get l = some (.lst (fd.map pD))) (hq : fd[i]? = some q) (gq : Pg n h x q) (hd : Kd x kvs) (hk : kvs.length ≤ 2 * i + 1) (hi : i ≤ 1000) (hv : ∀ z, v6 = some z → 0 ≤ z ∧ z < 15485863) :
    wOpt (dPut ⟨S.frz ++ S.new, [.dtp kvs], []⟩ (.ref ((S.frz ++ S.new).length + 0)) (.tup (q.map D.int ++ [D.int h])) (.int 7)) fun T => NJ b ns l h x (S.frz ++ S.new) (i + 1) (E8 ns l h (S.frz ++ S.new) (some (.int i)) v5 (v6.map D.int) v7) T := by
  rw [show q.map D.int ++ [D.int h] = (q ++ [h]).map D.int by simp]
  refine wOpt_of (dPut_new (i := 0) rfl (by omega) (q ++ [h]) _) ?_
  exact ⟨_, _, _, v6, _, rfl, rfl, hd.put (gq.kgh hn hh) ⟨some 7, rfl⟩, by have := put_le kvs (q ++ [h]) (.int 7); omega, hb, hv⟩
end
section
variable {S : R.St} {ns : List Int} {l n i f : Nat} {h x : Int} {fd : List (List Int)} {q : List Int} {kvs : List (List Int × D)}
abbrev Qn (b : Bool) (ns : List Int) (l : Nat) (h x : Int) (F : List MO) (j : Nat) (r : Fl) (T : R.St) : Prop := match r with
  | .nx δ => NJ b ns l h x F j δ T
  | .rt _ => False
theorem n_A2 {b : Bool} {d : Int} {v6 : Option Int} {v7 : Option D} (hb : b = true → v6.isSome = true) (hn : n ≤ 7) (hh : 0 ≤ h ∧ h < n) (hg : S.get l = some (.lst (fd.map pD))) (hq : fd[i]? = some q) (gq : Pg n h x q) (hd : Kd x kvs) (hk : kvs.length ≤ 2 * i + 1) (hi : i ≤ 1000) (hv : ∀ z, v6 = some z → 0 ≤ z ∧ z < 15485863) :
    wS (callF prog (f + 2)) nA2 (E8 ns l h (S.frz ++ S.new) (some (.int i)) (some (.int d)) (v6.map D.int) v7) ⟨S.frz ++ S.new, [.dtp kvs], []⟩ (Qn b ns l h x (S.frz ++ S.new) (i + 1)) := by
  have hql := gq.len hn hh
  conv => whnf
  refine wNeed_of (by first | decide | omega | (simp; done) | (simp; omega)) ?_
  conv => whnf
  refine wIf_p (fun c => ?_) (fun c => ?_)
  · conv => whnf
    refine wGet_old hg ?_
    conv => whnf
    refine wOpt_of (at_fd hq) ?_
    conv => whnf
    refine wNeed_of (by first | decide | omega | (simp; done) | (simp; omega)) ?_
    conv => whnf
    refine wNeed_of (by simp only [List.length_map, List.length_cons, List.length_nil]; omega) ?_
    conv => whnf
    exact n_last hb hn hh hg hq gq hd hk hi hv
  · exact ⟨_, _, _, v6, kvs, rfl, rfl, hd, by omega, hb, hv⟩
theorem n_A {b : Bool} {v5 v7 : Option D} {v6 : Option Int} (hb : b = true → v6.isSome = true) (hn : n ≤ 7) (hh : 0 ≤ h ∧ h < n) (hg : S.get l = some (.lst (fd.map pD))) (hq : fd[i]? = some q) (gq : Pg n h x q) (hd : Kd x kvs) (hk : kvs.length ≤ 2 * i) (hi : i ≤ 1000) (hv : ∀ z, v6 = some z → 0 ≤ z ∧ z < 15485863) :
    wS (callF prog (f + 2)) nA (E8 ns l h (S.frz ++ S.new) (some (.int i)) v5 (v6.map D.int) v7) ⟨S.frz ++ S.new, [.dtp kvs], []⟩ (Qn b ns l h x (S.frz ++ S.new) (i + 1)) := by
  obtain ⟨d, ed⟩ := s_digit (m := f) (S := ⟨S.frz ++ S.new, [.dtp kvs], []⟩) (ns := ns) (k := i)
  conv => whnf
  refine wOut_of (ed) ?_
  conv => whnf
  refine wIf_p (fun c => ?_) (fun c => ?_)
  · conv => whnf
    refine wNeed_of (by first | decide | omega | (simp; done) | (simp; omega)) ?_
    conv => whnf
    obtain ⟨o, eo⟩ := s_small (n := f + 1) (S := ⟨S.frz ++ S.new, [.dtp kvs], []⟩) (c := d) (w := 10 ^ 60 - 1)
    refine wOut_of (eo) ?_
    conv => whnf
    refine wGet_old hg ?_
    conv => whnf
    refine wOpt_of (at_fd hq) ?_
    conv => whnf
    refine wOpt_of (dPut_new (i := 0) rfl (by omega) q _) ?_
    exact n_A2 (f := f) (n := n) (v6 := v6) hb hn hh hg hq gq (hd.put (gq.kg hn) ⟨o, rfl⟩) (by have := put_le kvs q (oD o); omega) hi hv
  · exact n_A2 (f := f) (n := n) (v6 := v6) hb hn hh hg hq gq hd (by omega) hi hv
theorem n_B2 {b : Bool} {c z : Int} {v5 : Option D} (hn : n ≤ 7) (hh : 0 ≤ h ∧ h < n) (hg : S.get l = some (.lst (fd.map pD))) (hq : fd[i]? = some q) (gq : Pg n h x q) (hd : Kd x kvs) (hk : kvs.length ≤ 2 * i + 1) (hi : i ≤ 1000) (hv : 0 ≤ z ∧ z < 15485863) :
    wS (callF prog (f + 2)) nB2 (E8 ns l h (S.frz ++ S.new) (some (.int i)) v5 (some (.int z)) (some (.int c))) ⟨S.frz ++ S.new, [.dtp kvs], []⟩ (Qn b ns l h x (S.frz ++ S.new) (i + 1)) := by
  have hql := gq.len hn hh
  conv => whnf
  refine wNeed_of (by first | decide | omega | (simp; done) | (simp; omega)) ?_
  conv => whnf
  refine wIf_p (fun c => ?_) (fun c => ?_)
  · conv => whnf
    refine wGet_old hg ?_
    conv => whnf
    refine wOpt_of (at_fd hq) ?_
    conv => whnf
    refine wNeed_of (by first | decide | omega | (simp; done) | (simp; omega)) ?_
    conv => whnf
    refine wNeed_of (by simp only [List.length_map, List.length_cons, List.length_nil]; omega) ?_
    conv => whnf
    exact n_last (v6 := some z) (fun _ => rfl) hn hh hg hq gq hd hk hi (fun y e => by cases e; exact hv)
  · exact ⟨_, _, _, some z, kvs, rfl, rfl, hd, by omega, fun _ => rfl, fun y e => by cases e; exact hv⟩
theorem n_B1 {b : Bool} {c z : Int} {v5 : Option D} (hn : n ≤ 7) (hh : 0 ≤ h ∧ h < n) (hg : S.get l = some (.lst (fd.map pD))) (hq : fd[i]? = some q) (gq : Pg n h x q) (hd : Kd x kvs) (hk : kvs.length ≤ 2 * i) (hi : i ≤ 1000) (hv : 0 ≤ z ∧ z < 15485863) :
    wS (callF prog (f + 2)) nB1 (E8 ns l h (S.frz ++ S.new) (some (.int i)) v5 (some (.int z)) (some (.int c))) ⟨S.frz ++ S.new, [.dtp kvs], []⟩ (Qn b ns l h x (S.frz ++ S.new) (i + 1)) := by
  conv => whnf
  refine wNeed_of (by first | decide | omega | (simp; done) | (simp; omega)) ?_
  conv => whnf
  refine wIf_i (fun c1 => ?_) (fun c1 => ?_)
  · conv => whnf
    obtain ⟨o, eo⟩ := s_word (n := f + 1) (S := ⟨S.frz ++ S.new, [.dtp kvs], []⟩) (c := c)
    refine wOut_of (eo) ?_
    conv => whnf
    refine wGet_old hg ?_
    conv => whnf
    refine wOpt_of (at_fd hq) ?_
    conv => whnf
    refine wOpt_of (dPut_new (i := 0) rfl (by omega) q _) ?_
    exact n_B2 (f := f) (n := n) hn hh hg hq gq (hd.put (gq.kg hn) ⟨o, rfl⟩) (by have := put_le kvs q (oD o); omega) hi hv
  · exact n_B2 (f := f) (n := n) hn hh hg hq gq hd (by omega) hi hv
theorem n_B {b : Bool} {v5 v7 : Option D} {z : Int} (hn : n ≤ 7) (hh : 0 ≤ h ∧ h < n) (hg : S.get l = some (.lst (fd.map pD))) (hq : fd[i]? = some q) (gq : Pg n h x q) (hd : Kd x kvs) (hk : kvs.length ≤ 2 * i) (hi : i ≤ 1000) (hv : 0 ≤ z ∧ z < 15485863) :
    wS (callF prog (f + 2)) nBB (E8 ns l h (S.frz ++ S.new) (some (.int i)) v5 (some (.int z)) v7) ⟨S.frz ++ S.new, [.dtp kvs], []⟩ (Qn b ns l h x (S.frz ++ S.new) (i + 1)) := by
  conv => whnf
  refine wNeed_of (by simp [mulOk]) ?_
  conv => whnf
  refine wNeed_of (by simp [mulOk]) ?_
  conv => whnf
  refine wNeed_of (by simp [mulOk]; omega) ?_
  conv => whnf
  refine wNeed_of (by first | decide | omega | (simp; done) | (simp; omega)) ?_
  conv => whnf
  have y0 := Int.emod_nonneg (z * 2411 + 17 * (i : Int) * (i : Int) + 90001) (b := 15485863) (by decide)
  have y1 := Int.emod_lt_of_pos (z * 2411 + 17 * (i : Int) * (i : Int) + 90001) (b := 15485863) (by decide)
  generalize (z * 2411 + 17 * (i : Int) * (i : Int) + 90001) % 15485863 = y at y0 y1
  refine wNeed_of (by first | decide | omega | (simp; done) | (simp; omega)) ?_
  conv => whnf
  refine wIf_p (fun c => ?_) (fun c => ?_)
  · conv => whnf
    rw [show (6 : Int) + (i : Int) = ((6 + i : Nat) : Int) by omega]
    refine wOut_of (s_cell (n := f + 1) (k := 6 + i)) ?_
    exact n_B1 (f := f) (n := n) hn hh hg hq gq hd hk hi ⟨y0, y1⟩
  · exact n_B1 (f := f) (n := n) hn hh hg hq gq hd hk hi ⟨y0, y1⟩
end
theorem s_notes {f l n : Nat} {S : R.St} {ns : List Int} {h x : Int} {fd : List (List Int)} (hn : n ≤ 7) (hh : 0 ≤ h ∧ h < n) (hg : S.get l = some (.lst (fd.map pD))) (gd : ∀ q ∈ fd, Pg n h x q) (hl : fd.length ≤ 400) :
    ∃ kvs, app (callF prog (f + 3)) 10 [.fix (ns.map .int), .ref l, .int h] S = .ok (.ref S.len) (S.push (.dtp kvs)) ∧ Kd x kvs ∧ kvs.length ≤ 800 := by
  have hg' : S.enter.get l = some (.lst (fd.map pD)) := by rw [get_enter]; exact hg
  have kd0 : Kd x [] := ⟨fun _ hk => (by cases hk), fun _ hk => (by cases hk), by simp⟩
  have hz : ∀ (i : Nat) (z : D), ((List.range (((fd.map pD).length : Nat) : Int).toNat).map fun (k : Nat) => D.int k)[i]? = some z → z = .int i ∧ ∃ q, fd[i]? = some q ∧ Pg n h x q ∧ i < 400 := fun i z e => by
    have hi : i < fd.length := by have := (List.getElem?_eq_some_iff.mp e).1; simpa using this
    rw [List.getElem?_map] at e
    simp [hi] at e
    exact ⟨e.symm, fd[i], List.getElem?_eq_getElem hi, gd _ (List.getElem_mem hi), by omega⟩
  have key : W (app (callF prog (f + 3)) 10 [.fix (ns.map .int), .ref l, .int h] S) fun d T => ∃ kvs, d = .ref S.len ∧ T = S.push (.dtp kvs) ∧ Kd x kvs ∧ kvs.length ≤ 800 := by
    refine app_W (F := c_law_notes) rfl rfl ?_
    conv => whnf
    refine wOut_of (s_cell (n := f + 1) (k := 4)) ?_
    conv => whnf
    refine wNeed_of (by first | decide | omega | (simp; done) | (simp; omega)) ?_
    conv => whnf
    refine wIf_p (fun c => ?_) (fun c => ?_)
    · conv => whnf
      refine wGet_old hg ?_
      conv => whnf
      refine wNeed_of (by simp; omega) ?_
      conv => whnf
      refine wLock_of ?_
      refine W.mono (turnsF_inv (NJ false ns l h x (S.frz ++ S.new)) (fun _ _ => False) _ 0 _ _ ⟨none, none, none, none, [], rfl, rfl, kd0, by simp, fun z => (by cases z), fun z e => by cases e⟩ ?_) ?_
      · rintro i z δ T e ⟨v4, v5, v7, v6, kvs, rfl, rfl, hd, hk, hb, hv⟩
        rw [Nat.zero_add] at hk ⊢
        obtain ⟨rfl, q, hq, gq, hi⟩ := hz i z e
        refine ⟨_, rfl, ?_⟩
        generalize hδ : List.set _ 4 _ = δ1
        refine wS_W nA ?_
        subst hδ
        exact n_A (f := f) (n := n) (v6 := v6) hb hn hh hg hq gq hd hk (by omega) hv
      · rintro r T hr
        cases r with
        | rt d => exact hr.elim
        | nx δ =>
          obtain ⟨v4, v5, v7, v6, kvs, rfl, rfl, hd, hk, hv⟩ := hr
          conv => whnf
          exact wFin_newP (i := 0) rfl (hd.wv.flat _) ⟨kvs, rfl, rfl, hd, by simp at hk; omega⟩
    · conv => whnf
      refine wOut_of (s_cell (n := f + 1) (k := 4)) ?_
      conv => whnf
      refine wNeed_of (by first | decide | omega | (simp; done) | (simp; omega)) ?_
      conv => whnf
      have y0 := Int.emod_nonneg (cellZ ns 4) (b := 1299709) (by decide)
      have y1 := Int.emod_lt_of_pos (cellZ ns 4) (b := 1299709) (by decide)
      generalize cellZ ns 4 % 1299709 = y at y0 y1
      refine wGet_old hg ?_
      conv => whnf
      refine wNeed_of (by simp; omega) ?_
      conv => whnf
      refine wLock_of ?_
      refine W.mono (turnsF_inv (NJ true ns l h x (S.frz ++ S.new)) (fun _ _ => False) _ 0 _ _ ⟨none, none, none, some (3 + y), [], rfl, rfl, kd0, by simp, fun _ => rfl, fun z e => by cases e; omega⟩ ?_) ?_
      · rintro i z δ T e ⟨v4, v5, v7, v6, kvs, rfl, rfl, hd, hk, hb, hv⟩
        rw [Nat.zero_add] at hk ⊢
        obtain ⟨rfl, q, hq, gq, hi⟩ := hz i z e
        cases v6 with
        | none => exact absurd (hb rfl) (by simp)
        | some y =>
          refine ⟨_, rfl, ?_⟩
          generalize hδ : List.set _ 4 _ = δ1
          refine wS_W nBB ?_
          subst hδ
          exact n_B (f := f) (n := n) hn hh hg hq gq hd hk (by omega) (hv y rfl)
      · rintro r T hr
        cases r with
        | rt d => exact hr.elim
        | nx δ =>
          obtain ⟨v4, v5, v7, v6, kvs, rfl, rfl, hd, hk, hv⟩ := hr
          conv => whnf
          exact wFin_newP (i := 0) rfl (hd.wv.flat _) ⟨kvs, rfl, rfl, hd, by simp at hk; omega⟩
  obtain ⟨d, T, e, kvs, rfl, rfl, r⟩ := W.iff.mp key
  exact ⟨kvs, e, r⟩
theorem s_whole {n : Nat} {S : R.St} {i : Int} : app (callF prog (n+1)) 12 [.int i] S = .ok (.bl true) S := by
  refine app_ok (F := c_law_whole) rfl rfl ?_
  conv => whnf
  refine wOpt_of ((show tyOf S.enter (.int i) = some "int" from rfl)) ?_
  conv => whnf
  refine wOpt_of ((show tyOf S.enter (.int i) = some "int" from rfl)) ?_
  conv => whnf
  exact wFin_flat rfl ⟨rfl, rfl⟩
theorem all_ints (is : List Int) (f : D → D) (hf : ∀ i, f (.int i) = .bl true) : allD ((is.map D.int).map f) = some true := by
  unfold allD
  have : ((is.map D.int).map f).mapM boolOf = some (is.map fun _ => true) := by
    induction is with
    | nil => rfl
    | cons q qs ih =>
      rw [List.map_cons, List.map_cons, List.mapM_cons, hf q, ih]
      rfl
  rw [this]
  simp
theorem s_tuple {n : Nat} {S : R.St} {p : List Int} (hl : p.length ≤ 1000) : app (callF prog (n+2)) 13 [pD p, pD p] S = .ok (.bl true) S := by
  refine app_ok (F := c_law_is_tuple) rfl rfl ?_
  conv => whnf
  refine wOpt_of ((show tyOf S.enter (pD p) = some "tuple" from rfl)) ?_
  conv => whnf
  refine wIf_f (by simp) ?_
  conv => whnf
  refine wLock_of ?_
  refine W.of (turnsC_map (fun d => .bl true) (p.map D.int) none (fun z hz => rfl) (fun z hz => ?_)) ?_
  · obtain ⟨q, hq, rfl⟩ := List.mem_map.mp hz
    refine W.eq (wE_W _ ?_)
    conv => whnf
    refine wOut_of (s_whole (n := n)) ?_
    conv => whnf
    exact ⟨rfl, rfl⟩
  · conv => whnf
    refine wNeed_of (by simp; omega) ?_
    conv => whnf
    refine wOpt_of (all_ints p _ (fun _ => rfl)) ?_
    conv => whnf
    refine wOpt_of (cmp_ints _ _ _) ?_
    conv => whnf
    refine wFin_flat rfl ⟨by simp, rfl⟩
/-! the commonest, counted -/
def TopTo (ws : List Int) (i : Nat) (b o : Int) : Prop := (i = 0 ∧ o = 0 ∧ ws[0]? = some b) ∨ (b ∈ ws.take i ∧ o = (ws.count b : Nat) ∧ ∀ y ∈ ws.take i, (ws.count y : Int) < o ∨ ((ws.count y : Int) = o ∧ b ≤ y))
theorem TopTo.end {ws : List Int} {b o : Int} (h : TopTo ws ws.length b o) : b = topOf ws := by
  rcases h with ⟨h0, _, h2⟩ | ⟨h1, h2, h3⟩
  · have : ws = [] := List.length_eq_zero_iff.mp h0
    rw [this] at h2; cases h2
  · rw [List.take_length] at h1 h3
    have c : ∀ y, cntZ (ws.map some) (some y) = (ws.count y : Nat) := fun y => by show ((List.count _ _ : Nat) : Int) = _; rw [cnt_some]
    have t : IsTop (ws.map some) (b, o) := by
      refine .inr ⟨List.mem_map.mpr ⟨b, h1, rfl⟩, by rw [c]; exact h2, fun y hy => ?_⟩
      obtain ⟨z, hz, e⟩ := List.mem_map.mp hy
      cases e
      rw [c]
      exact h3 y hz
    have := isTop_one t (topR_is (ws.map some))
    unfold topOf
    rw [← this]
theorem TopTo.new {ws : List Int} {i : Nat} {b o w : Int} (h : TopTo ws i b o) (e : ws[i]? = some w) (c : o < (ws.count w : Nat) ∨ (((ws.count w : Nat) : Int) = o ∧ w < b)) : TopTo ws (i + 1) w (ws.count w : Nat) := by
  have hp : 0 < ws.count w := List.count_pos_iff.mpr (List.mem_of_getElem? e)
  right
  rw [take_snoc e]
  refine ⟨by simp, rfl, fun y hy => ?_⟩
  rcases List.mem_append.mp hy with z | z
  · rcases h with ⟨h0, h1, _⟩ | ⟨_, _, h3⟩
    · rw [h0] at z; simp at z
    · have := h3 y z
      omega
  · rw [List.mem_singleton] at z; subst z; exact .inr ⟨rfl, Int.le_refl _⟩
theorem TopTo.old {ws : List Int} {i : Nat} {b o w : Int} (h : TopTo ws i b o) (e : ws[i]? = some w) (c1 : ¬ o < (ws.count w : Nat)) (c2 : ¬ (((ws.count w : Nat) : Int) = o ∧ w < b)) : TopTo ws (i + 1) b o := by
  have hp : 0 < ws.count w := List.count_pos_iff.mpr (List.mem_of_getElem? e)
  rcases h with ⟨h0, h1, _⟩ | ⟨h1, h2, h3⟩
  · omega
  · right
    rw [take_snoc e]
    refine ⟨List.mem_append_left _ h1, h2, fun y hy => ?_⟩
    rcases List.mem_append.mp hy with z | z
    · exact h3 y z
    · rw [List.mem_singleton] at z; subst z; omega
theorem filt_ints (ws : List Int) (w : Int) : ((ws.map D.int).filter fun d => match d with | .int o => decide (o = w) | _ => false) = (ws.filter fun o => decide (o = w)).map D.int := by
  rw [List.filter_map]; rfl
theorem count_filt (ws : List Int) (w : Int) : (ws.filter fun o => decide (o = w)).length = ws.count w := by
  rw [List.count_eq_length_filter]
  congr 1
theorem s_lmost {n l : Nat} {S : R.St} {ws : List Int} (hg : S.get l = some (.lst (ws.map .int))) (hne : ws ≠ []) (hl : ws.length ≤ 1000) : app (callF prog (n+1)) 11 [.ref l] S = .ok (.int (topOf ws)) S := by
  have h0 : ws[0]? = some (ws.head hne) := by cases ws with
    | nil => exact absurd rfl hne
    | cons a r => rfl
  refine app_ok (F := c_law_most) rfl rfl ?_
  conv => whnf
  refine wGet_old hg ?_
  conv => whnf
  refine wOpt_of (atI_nat (k := 0) (x := D.int (ws.head hne)) (by rw [List.getElem?_map, h0]; rfl)) ?_
  conv => whnf
  refine wGet_old hg ?_
  conv => whnf
  refine wLock_of ?_
  refine W.mono (turnsF_inv (fun i δ T => ∃ (b o : Int) (v3 v4 : Option D) (nw : List MO), δ = [some (.ref l), some (.int b), some (.int o), v3, v4] ∧ T = ⟨S.frz ++ S.new, nw, [l]⟩ ∧ TopTo ws i b o) (fun _ _ => False) _ 0 _ _ ⟨ws.head hne, 0, none, none, [], rfl, rfl, .inl ⟨rfl, rfl, h0⟩⟩ ?_) ?_
  · rintro i z δ T hz ⟨b, o, v3, v4, nw, rfl, rfl, tt⟩
    rw [Nat.zero_add] at tt ⊢
    rw [List.getElem?_map] at hz
    cases e : ws[i]? with
    | none => rw [e] at hz; cases hz
    | some w =>
      rw [e] at hz; cases hz
      refine ⟨_, rfl, ?_⟩
      generalize hδ : List.set _ 3 _ = δ1
      refine wS_W _ ?_
      subst hδ
      conv => whnf
      refine wGet_old hg ?_
      conv => whnf
      refine wLock_of ?_
      refine W.of (turnsC_pure (fun d => match d with | .int o => decide (o = w) | _ => false) (fun d => d) _ none (fun z hz => ?_) (fun z hz _ => rfl)) ?_
      · obtain ⟨y, _, rfl⟩ := List.mem_map.mp hz
        rfl
      · rw [List.map_id', filt_ints]
        have cl : (ws.filter fun o => decide (o = w)).length = ws.count w := count_filt ws w
        have cle : ws.count w ≤ 1000 := Nat.le_trans (List.count_le_length) hl
        conv => whnf
        refine wNeed_of (by simp only [List.length_map]; omega) ?_
        conv => whnf
        refine wNeed_of (by simp only [List.length_map]; omega) ?_
        conv => whnf
        refine wOpt_of (push_get _ _) ?_
        conv => whnf
        have el : (((List.map D.int (List.filter (fun o => decide (o = w)) ws)).length : Nat) : Int) = (ws.count w : Nat) := by rw [List.length_map, cl]
        refine wIf_p (fun c1 => ?_) (fun c1 => ?_)
        · refine ⟨w, _, _, _, _, rfl, rfl, ?_⟩
          have c1 : o < ((List.map D.int (List.filter (fun o => decide (o = w)) ws)).length : Nat) := c1
          show TopTo ws (i + 1) w (((List.map D.int (List.filter (fun o => decide (o = w)) ws)).length : Nat) : Int)
          rw [el] at c1 ⊢
          exact tt.new e (.inl c1)
        · have c1 : ¬ o < ((List.map D.int (List.filter (fun o => decide (o = w)) ws)).length : Nat) := c1
          rw [el] at c1
          conv => whnf
          refine wIf_p (fun c2 => ?_) (fun c2 => ?_)
          · have c2 : (((List.map D.int (List.filter (fun o => decide (o = w)) ws)).length : Nat) : Int) = o := c2
            conv => whnf
            refine wIf_p (fun c3 => ?_) (fun c3 => ?_)
            · refine ⟨w, _, _, _, _, rfl, rfl, ?_⟩
              show TopTo ws (i + 1) w (((List.map D.int (List.filter (fun o => decide (o = w)) ws)).length : Nat) : Int)
              rw [el] at c2 ⊢
              exact tt.new e (.inr ⟨c2, c3⟩)
            · exact ⟨b, o, _, _, _, rfl, rfl, tt.old e c1 fun z => c3 z.2⟩
          · have c2 : ¬ (((List.map D.int (List.filter (fun o => decide (o = w)) ws)).length : Nat) : Int) = o := c2
            rw [el] at c2
            exact ⟨b, o, _, _, _, rfl, rfl, tt.old e c1 fun z => c2 z.1⟩
  · rintro f T h
    cases f with
    | rt d => exact h.elim
    | nx δ =>
      obtain ⟨b, o, v3, v4, nw, rfl, rfl, tt⟩ := h
      rw [Nat.zero_add, List.length_map] at tt
      conv => whnf
      exact wFin_flat rfl ⟨by rw [tt.end], rfl⟩
/-! a tree held against its notes -/
def hL : CS := (.ifS (.nt (.tst (.call 14 0 (.cons (.ix (.ix (.loc 0) (.con (D.int 3))) (.loc 9)) (.cons (.loc 1) (.cons (.loc 2) (.cons (.loc 3) (.cons (.bin .Add (.loc 4) (.tup (.cons (.ix (.loc 7) (.loc 9)) .nil))) (.cons (.loc 5) .nil)))))))))
     (.ret (.con (D.bl false)) .nil)
     .nil
    (.expr (.mt .append (.loc 8) (.cons (.ix (.ix (.ix (.loc 0) (.con (D.int 3))) (.loc 9)) (.con (D.int 2))) .nil))
    .nil))
def hR : CS := (.ifS (.cmp .NotEq (.bi .len (.cons (.ix (.loc 0) (.con (D.int 3))) .nil)) (.bi .len (.cons (.loc 7) .nil)))
    (.ret (.con (D.bl false)) .nil)
    .nil
   (.asg 8 (.lst (.cons (.ix (.loc 0) (.con (D.int 1))) .nil))
   (.forS [9] (.rng1 (.bi .len (.cons (.loc 7) .nil)))
    hL
   (.ret (.cmp .Eq (.ix (.loc 0) (.con (D.int 2))) (.call 11 0 (.cons (.loc 8) .nil))) .nil))))
abbrev EH (T0 : D) (n : Nat) (t h : Int) (p : List Int) (l : Nat) (v6 v7 v8 v9 : Option D) : Ev := [some T0, some (.int n), some (.int t), some (.int h), some (pD p), some (.ref l), v6, v7, v8, v9]
theorem set_last {nw : List MO} (o u : MO) : (nw ++ [o]).set nw.length u = nw ++ [u] := by
  rw [List.set_append_right _ _ (Nat.le_refl _), Nat.sub_self]; rfl
theorem hold_rest {f l n j : Nat} {S : R.St} {t h : Int} {p A : List Int} {a : Int} {g : Int → D} {v : Int → Int} {v6 : Option D} {nw : List MO} (hj : nw[j]? = some (.lst (A.map .int))) (h2 : ∀ o, ∃ x y z, g o = .tup [x, y, .int (v o), z]) (hA : A.length ≤ 20) (hp : p.length ≤ 100)
    (ih : ∀ (S' : R.St) (o : Int), o ∈ A → (∃ nw lk, S' = ⟨S.frz ++ S.new, nw, lk⟩) → app (callF prog (f + 1)) 14 [g o, .int n, .int t, .int h, pD (p ++ [o]), .ref l] S' = .ok (.bl true) S') :
    wS (callF prog (f + 1)) hR (EH (.tup [pD p, .int a, .int (topOf (a :: A.map v)), .tup (A.map g)]) n t h p l v6 (some (.ref ((S.frz ++ S.new).length + j))) none none) ⟨S.frz ++ S.new, nw, []⟩ fun r T => wFin S r T fun d T' => d = .bl true ∧ T' = S := by
  have hjl : j < nw.length := (List.getElem?_eq_some_iff.mp hj).1
  have g7 : ∀ ws lk, (St.mk (S.frz ++ S.new) (nw ++ [ws]) lk).get ((S.frz ++ S.new).length + j) = some (.lst (A.map .int)) := fun ws lk => by
    rw [get_new, List.getElem?_append_left hjl]; exact hj
  have g8 : ∀ ws lk, (St.mk (S.frz ++ S.new) (nw ++ [ws]) lk).get ((S.frz ++ S.new).length + nw.length) = some ws := fun ws lk => by
    rw [get_new, List.getElem?_append_right (Nat.le_refl _), Nat.sub_self]; rfl
  generalize hT0 : D.tup [pD p, .int a, .int (topOf (a :: A.map v)), .tup (A.map g)] = T0
  have t1 : ∃ ds, T0 = .tup ds ∧ atI ds 1 = some (.int a) ∧ atI ds 2 = some (.int (topOf (a :: A.map v))) ∧ atI ds 3 = some (.tup (A.map g)) := ⟨_, hT0.symm, rfl, rfl, rfl⟩
  clear hT0
  obtain ⟨ds, rfl, t1, t2, t3⟩ := t1
  conv => whnf
  refine wOpt_of (t3) ?_
  conv => whnf
  refine wOpt_of (((get_new _ _ _ _).trans hj)) ?_
  conv => whnf
  refine wIf_f (by simp) ?_
  conv => whnf
  refine wOpt_of (t1) ?_
  conv => whnf
  refine wNeed_of (by first | decide | omega | (simp; done) | (simp; omega)) ?_
  conv => whnf
  refine wOpt_of (g7 _ _) ?_
  conv => whnf
  refine wNeed_of (by simp; omega) ?_
  conv => whnf
  refine wLock_of ?_
  refine W.mono (turnsF_inv (fun i δ T => (∃ v9, δ = EH (.tup ds) n t h p l v6 (some (.ref ((S.frz ++ S.new).length + j))) (some (.ref ((S.frz ++ S.new).length + nw.length))) v9) ∧ T = ⟨S.frz ++ S.new, nw ++ [.lst ((a :: (A.take i).map v).map .int)], []⟩) (fun _ _ => False) _ 0 _ _ ⟨⟨none, rfl⟩, rfl⟩ ?_) ?_
  · rintro i z δ T hz ⟨⟨v9, rfl⟩, rfl⟩
    rw [Nat.zero_add]
    have hi : i < A.length := by
      have := (List.getElem?_eq_some_iff.mp hz).1
      simpa using this
    have hz : z = .int i := by
      rw [List.getElem?_map] at hz
      simp [hi] at hz
      exact hz.symm
    subst hz
    obtain ⟨o, e⟩ : ∃ o, A[i]? = some o := ⟨A[i], List.getElem?_eq_getElem hi⟩
    obtain ⟨x, y, z, eg⟩ := h2 o
    have a3 : atI (A.map g) (i : Int) = some (g o) := atI_nat (by rw [List.getElem?_map, e]; rfl)
    have a7 : atI (A.map D.int) (i : Int) = some (.int o) := atI_nat (by rw [List.getElem?_map, e]; rfl)
    refine ⟨_, rfl, ?_⟩
    generalize hδ : List.set _ 9 _ = δ1
    refine wS_W hL ?_
    subst hδ
    conv => whnf
    refine wOpt_of (t3) ?_
    conv => whnf
    refine wOpt_of (a3) ?_
    conv => whnf
    refine wOpt_of (g7 _ _) ?_
    conv => whnf
    refine wOpt_of (a7) ?_
    conv => whnf
    refine wNeed_of (by first | decide | omega | (simp; done) | (simp; omega)) ?_
    conv => whnf
    refine wNeed_of (by simp only [List.length_map, List.length_cons, List.length_nil]; omega) ?_
    conv => whnf
    rw [show p.map D.int ++ [D.int o] = (p ++ [o]).map D.int by simp]
    refine wOut_of (ih _ o (List.mem_of_getElem? e) ⟨_, _, rfl⟩) ?_
    conv => whnf
    refine wOpt_of (g8 _ _) ?_
    conv => whnf
    refine wOpt_of (t3) ?_
    conv => whnf
    refine wOpt_of (a3) ?_
    conv => whnf
    rw [eg]
    conv => whnf
    refine wOpt_of ((show atI [x, y, D.int (v o), z] 2 = some (D.int (v o)) from rfl)) ?_
    conv => whnf
    refine wOpt_of (g8 _ _) ?_
    conv => whnf
    refine wNeed_of (by simp only [List.length_append, List.length_map, List.length_cons, List.length_nil, List.length_take]; omega) ?_
    conv => whnf
    refine wOpt_of (put_new rfl) ?_
    conv => whnf
    refine ⟨⟨_, rfl⟩, ?_⟩
    show R.St.mk (S.frz ++ S.new) ((nw ++ [_]).set nw.length _) [] = _
    rw [set_last, take_snoc e]
    simp
  · rintro r T hr
    cases r with
    | rt d => exact hr.elim
    | nx δ =>
      obtain ⟨⟨v9, rfl⟩, rfl⟩ := hr
      have el : ∀ (k : Nat), A.take (0 + ((List.range ((((A.map D.int).length : Nat) : Int).toNat)).map fun (k : Nat) => D.int k).length) = A := fun _ => by simp
      rw [el 0]
      conv => whnf
      refine wOpt_of (t2) ?_
      conv => whnf
      refine wOut_of (s_lmost (n := f) (ws := a :: A.map v) (g8 _ _) (by simp) (by simp; omega)) ?_
      conv => whnf
      refine wFin_flat rfl ⟨?_, rfl⟩
      simp
theorem look_get {kvs : List (List Int × D)} (hv : Wds kvs) (p : List Int) : (valP kvs p).getD .non = oD (look kvs p) := by
  unfold look
  cases e : valP kvs p with
  | none => rfl
  | some d =>
    obtain ⟨o, rfl⟩ := hv p d e
    cases o <;> rfl
theorem hold_B {f l n : Nat} {S : R.St} {t h : Int} {p A : List Int} {g : Int → D} {v : Int → Int} {kvs : List (List Int × D)} (hn : n ≤ 7) (hg : S.get l = some (.dtp kvs)) (hv : Wds kvs) (hA : A = if (p.length : Int) < t then oth n h p else []) (h2 : ∀ o, ∃ x y z, g o = .tup [x, y, .int (v o), z]) (hp : p.length ≤ 100)
    (ih : ∀ (S' : R.St) (o : Int), o ∈ A → S'.get l = some (.dtp kvs) → app (callF prog (f + 2)) 14 [g o, .int n, .int t, .int h, pD (p ++ [o]), .ref l] S' = .ok (.bl true) S') :
    app (callF prog (f + 3)) 14 [.tup [pD p, .int ((look kvs p).getD 0), .int (topOf ((look kvs p).getD 0 :: A.map v)), .tup (A.map g)], .int n, .int t, .int h, pD p, .ref l] S = .ok (.bl true) S := by
  have hg' : S.enter.get l = some (.dtp kvs) := by rw [get_enter]; exact hg
  have hAl : A.length ≤ 20 := by
    rw [hA]
    split
    · have := oth_le n h p; omega
    · simp
  have ih' : ∀ (S' : R.St) (o : Int), o ∈ A → (∃ nw lk, S' = ⟨S.frz ++ S.new, nw, lk⟩) → app (callF prog (f + 2)) 14 [g o, .int n, .int t, .int h, pD (p ++ [o]), .ref l] S' = .ok (.bl true) S' := fun S' o ho ⟨nw, lk, e⟩ => ih S' o ho (by rw [e]; exact get_old hg nw lk)
  refine app_ok (F := c_law_holds) rfl rfl ?_
  generalize hT0 : D.tup [pD p, .int ((look kvs p).getD 0), .int (topOf ((look kvs p).getD 0 :: A.map v)), .tup (A.map g)] = T0
  have t1 : ∃ ds, T0 = .tup ds ∧ ds.length = 4 ∧ atI ds 0 = some (pD p) ∧ atI ds 1 = some (.int ((look kvs p).getD 0)) ∧ atI ds 2 = some (.int (topOf ((look kvs p).getD 0 :: A.map v))) ∧ atI ds 3 = some (.tup (A.map g)) := ⟨_, hT0.symm, rfl, rfl, rfl, rfl, rfl⟩
  obtain ⟨ds, rfl, t4, t0, t1, t2, t3⟩ := t1
  conv => whnf
  refine wOpt_of ((show tyOf S.enter (.tup ds) = some "tuple" from rfl)) ?_
  conv => whnf
  refine wIf_f (by simp [t4]) ?_
  conv => whnf
  refine wOpt_of (t0) ?_
  conv => whnf
  refine wOut_of (s_tuple (n := f) (by omega)) ?_
  conv => whnf
  refine wNeed_of (by simp only [isDt, hg']) ?_
  conv => whnf
  refine wOpt_of (dGet_of hg' p) ?_
  conv => whnf
  rw [look_get hv]
  have rest : ∀ (v6 : Option D), v6 = some (.int ((look kvs p).getD 0)) → wS (callF prog (f + 2)) (.ifS (.or (.nt (.tst (.call 12 0 (.cons (.ix (.loc 0) (.con (D.int 1))) .nil)))) (.or (.cmp .NotEq (.ix (.loc 0) (.con (D.int 1))) (.loc 6)) (.or (.nt (.tst (.call 12 0 (.cons (.ix (.loc 0) (.con (D.int 2))) .nil)))) (.nt (.tst (.bi (.isin "tuple") (.cons (.ix (.loc 0) (.con (D.int 3))) .nil)))))))
    (.ret (.con (D.bl false)) .nil)
    .nil
   (.asg 7 (.lst .nil)
   (.ifS (.cmp .Lt (.bi .len (.cons (.loc 4) .nil)) (.loc 2))
    (.asg 7 (.mkL (.comp 1 [3, 4] [0] (.rng1 (.loc 1)) (.and (.cmp .NotEq (.loc 0) (.loc 1)) (.cmp .NotIn (.loc 0) (.loc 2))) (.loc 0)))
    .nil)
    .nil
   hR))) (EH (.tup ds) n t h p l v6 none none none) S.enter fun r T => wFin S r T fun d T' => d = .bl true ∧ T' = S := by
    intro v6 e6
    subst e6
    conv => whnf
    refine wOpt_of (t1) ?_
    conv => whnf
    refine wOut_of (s_whole (n := f + 1)) ?_
    conv => whnf
    refine wOpt_of (t1) ?_
    conv => whnf
    refine wIf_f (by simp) ?_
    conv => whnf
    refine wOpt_of (t2) ?_
    conv => whnf
    refine wOut_of (s_whole (n := f + 1)) ?_
    conv => whnf
    refine wOpt_of (t3) ?_
    conv => whnf
    refine wOpt_of ((show tyOf S.enter (.tup (A.map g)) = some "tuple" from rfl)) ?_
    conv => whnf
    refine wNeed_of (by first | decide | omega | (simp; done) | (simp; omega)) ?_
    conv => whnf
    refine wIf_p (fun c => ?_) (fun c => ?_)
    · have c : (p.length : Int) < t := by rw [List.length_map] at c; exact c
      rw [if_pos c] at hA
      conv => whnf
      refine wNeed_of (by omega) ?_
      conv => whnf
      refine wLock_of ?_
      refine W.of (turnsC_pure (fun d => match d with | .int o => !decide (o = h) && !decide (o ∈ p) | _ => false) (fun d => d) _ none (fun z hz => ?_) (fun z hz _ => rfl)) ?_
      · obtain ⟨o, _, rfl⟩ := List.mem_map.mp hz
        refine W.eq (wT_W _ ?_)
        conv => whnf
        refine wIf_i (fun c => ?_) (fun c => ?_)
        · conv => whnf
          refine wOpt_of (notIn_tup _ _ _) ?_
          conv => whnf
          exact ⟨by simp at c; simp [c], rfl⟩
        · exact ⟨by simp at c; simp [c], rfl⟩
      · have e : (List.map (fun d => d) (List.filter (fun d => match d with | D.int o => !decide (o = h) && !decide (o ∈ p) | x => false) (List.map (fun (k : Nat) => D.int k) (List.range (n : Int).toNat)))) = A.map D.int := by
          rw [List.map_id', Int.toNat_natCast, hA]
          unfold oth hnds
          rw [show (List.range n).map (fun (k : Nat) => D.int k) = ((List.range n).map fun (k : Nat) => (k : Int)).map D.int by rw [List.map_map]; rfl]
          rw [List.filter_map]
          rfl
        rw [e]
        conv => whnf
        refine wNeed_of (by simp only [List.length_map]; omega) ?_
        conv => whnf
        refine wNeed_of (by simp only [List.length_map]; omega) ?_
        rw [← hT0]
        exact hold_rest (f := f + 1) (j := 1) (nw := [.lst [], .lst (A.map .int)]) rfl h2 hAl hp ih'
    · have c : ¬ (p.length : Int) < t := by rw [List.length_map] at c; exact c
      rw [if_neg c] at hA
      rw [← hT0]
      exact hold_rest (f := f + 1) (j := 0) (nw := [.lst []]) (by rw [hA]; rfl) h2 hAl hp ih'
  cases e : look kvs p with
  | none => exact rest _ (by rw [e]; rfl)
  | some i => exact rest _ (by rw [e]; rfl)
theorem s_holds {l n : Nat} {h t : Int} {kvs : List (List Int × D)} (hn : n ≤ 7) (hv : Wds kvs) : ∀ (k m : Nat) (S : R.St) (p : List Int), S.get l = some (.dtp kvs) → p.length + k ≤ 50 → (((p.length + k : Nat) : Int) = t ∨ (k = 0 ∧ t ≤ p.length)) →
    app (callF prog (k + m + 3)) 14 [treeD kvs n h k p, .int n, .int t, .int h, pD p, .ref l] S = .ok (.bl true) S
  | 0, m, S, p, hg, hp, ht => by
    rw [show 0 + m + 3 = m + 3 by omega]
    exact hold_B (A := []) (g := fun _ => .tup [.non, .non, .int 0, .non]) (v := fun _ => 0) hn hg hv (by rw [if_neg (by omega)]) (fun o => ⟨_, _, _, rfl⟩) (by omega) (fun _ _ z => by cases z)
  | k + 1, m, S, p, hg, hp, ht => by
    have ht : ((p.length + (k + 1) : Nat) : Int) = t := by omega
    rw [show k + 1 + m + 3 = (k + m + 1) + 3 by omega]
    refine hold_B (A := oth n h p) (g := fun o => treeD kvs n h k (p ++ [o])) (v := fun o => tkn (look kvs) n h k (p ++ [o])) hn hg hv (by rw [if_pos (by omega)]) (fun o => tree_2 kvs n h k (p ++ [o])) (by omega) (fun S' o _ hg' => ?_)
    have := s_holds (l := l) (h := h) (t := t) hn hv k m S' (p ++ [o]) hg' (by simp; omega) (.inl (by simp only [List.length_append, List.length_cons, List.length_nil]; omega))
    rw [show k + m + 1 + 2 = k + m + 3 by omega]
    exact this
/-! dicts -/
theorem dKvs_of {S : R.St} {l : Nat} {kvs : List (List Int × D)} (h : S.get l = some (.dtp kvs)) : dKvs S (.ref l) = some kvs := by unfold dKvs; dsimp only; rw [h]
theorem wordsK_some : ∀ {kvs : List (List Int × D)}, Wv kvs → ∃ xs, wordsK kvs = some xs
  | [], _ => ⟨[], rfl⟩
  | kv :: r, h => by
    obtain ⟨xs, e⟩ := wordsK_some (kvs := r) fun x hx => h x (List.mem_cons_of_mem _ hx)
    obtain ⟨o, eo⟩ := h kv (by simp)
    have ew : wordOf kv.2 = some o := by rw [eo]; cases o <;> rfl
    refine ⟨(kv.1, o) :: xs, ?_⟩
    unfold wordsK at e ⊢
    rw [List.mapM_cons, ew, e]
    rfl
theorem eqK_same {kvs : List (List Int × D)} (h : Wv kvs) : eqK kvs kvs = some true := by
  obtain ⟨xs, e⟩ := wordsK_some h
  unfold eqK
  rw [e]
  simp
theorem deq {S : R.St} {a b : Nat} {kvs : List (List Int × D)} (h1 : S.get a = some (.dtp kvs)) (h2 : S.get b = some (.dtp kvs)) (h : Wv kvs) : cmpO S .Eq (.ref a) (.ref b) = some true := by
  show eqAny S (.ref a) (.ref b) = _
  unfold eqAny
  rw [dKvs_of h1, dKvs_of h2]
  exact eqK_same h
theorem dne {S : R.St} {a b : Nat} {kvs : List (List Int × D)} (h1 : S.get a = some (.dtp kvs)) (h2 : S.get b = some (.dtp kvs)) (h : Wv kvs) : cmpO S .NotEq (.ref a) (.ref b) = some false := by
  show (cmpO S .Eq (.ref a) (.ref b)).map (!·) = _
  rw [deq h1 h2 h]; rfl
theorem din {S : R.St} {b : Nat} {kvs : List (List Int × D)} (h2 : S.get b = some (.dtp kvs)) (p : List Int) : cmpO S .In (pD p) (.ref b) = some (valP kvs p).isSome := by
  show inAny S (pD p) (.ref b) = _
  unfold inAny
  rw [dKvs_of h2]
  dsimp only
  rw [keyOf_ints]; rfl
theorem put_back : ∀ {kvs : List (List Int × D)} {s : List Int} {v w : D}, valP kvs s = some v → putP (putP kvs s w) s v = kvs
  | [], s, v, w, h => by cases h
  | (j, d) :: r, s, v, w, h => by
    by_cases c : j = s
    · subst c
      have : d = v := by simpa [valP] using h
      subst this
      simp [putP]
    · have h' : valP r s = some v := by simpa [valP, c] using h
      rw [putP, if_neg c, putP, if_neg c, put_back h']
theorem drop_new : ∀ {kvs : List (List Int × D)} {s : List Int} {w : D}, valP kvs s = none → dropP (putP kvs s w) s = kvs
  | [], s, w, _ => by simp [putP, dropP]
  | (j, d) :: r, s, w, h => by
    by_cases c : j = s
    · subst c; simp [valP] at h
    · have h' : valP r s = none := by simpa [valP, c] using h
      have ih := drop_new (w := w) h'
      rw [putP, if_neg c]
      unfold dropP at ih ⊢
      rw [List.filter_cons, if_pos (by simp [c]), ih]
theorem dDel_of {S : R.St} {l : Nat} {kvs : List (List Int × D)} {p : List Int} {v : D} (h : S.get l = some (.dtp kvs)) (h1 : S.frz.length ≤ l) (h2 : S.lk.contains l = false) (hv : valP kvs p = some v) :
    ∃ S', dDel S (.ref l) (pD p) = some (v, S') ∧ S'.frz = S.frz ∧ S'.lk = S.lk ∧ S'.len = S.len ∧ (∀ m, m ≠ l → S'.get m = S.get m) ∧ S'.get l = some (.dtp (dropP kvs p)) := by
  obtain ⟨S', e1, e2, e3, e4, e5, e6⟩ := put_some (S := S) (l := l) (.dtp (dropP kvs p)) h1 h2
  refine ⟨S', ?_, e2, e3, e4, e5, e6 (get_lt h)⟩
  unfold dDel
  dsimp only
  rw [h]
  dsimp only
  rw [keyOf_ints]
  dsimp only [Option.bind_some]
  rw [hv]
  dsimp only [Option.bind_some]
  rw [e1]; rfl
theorem mapM_some {α β : Type} {f : α → Option β} : ∀ {xs : List α}, (∀ x ∈ xs, ∃ y, f x = some y) → ∃ ys, xs.mapM f = some ys
  | [], _ => ⟨[], rfl⟩
  | x :: xs, h => by
    obtain ⟨y, e⟩ := h x (by simp)
    obtain ⟨ys, e2⟩ := mapM_some (xs := xs) fun z hz => h z (by simp [hz])
    exact ⟨y :: ys, by rw [List.mapM_cons, e, e2]; rfl⟩
theorem pd_tree {S : R.St} {kvs : List (List Int × D)} {n : Nat} {h : Int} : ∀ (k N : Nat) (p : List Int), ∃ a, pd S (2 * k + 2 + N + 1) (treeD kvs n h k p) = some a := by
  intro k
  induction k with
  | zero =>
    intro N p
    rw [show 2 * 0 + 2 + N + 1 = (N + 1) + 1 + 1 by omega]
    simp only [treeD, pd, List.mapM_cons, List.mapM_nil, pd_ints]
    exact ⟨_, rfl⟩
  | succ k ih =>
    intro N p
    obtain ⟨ys, e⟩ := mapM_some (f := pd S (2 * k + 2 + N + 1)) (xs := (oth n h p).map fun o => treeD kvs n h k (p ++ [o])) fun d hd => by
      obtain ⟨o, _, rfl⟩ := List.mem_map.mp hd
      exact ih N (p ++ [o])
    rw [show 2 * (k + 1) + 2 + N + 1 = (2 * k + 2 + N + 1) + 1 + 1 by omega]
    simp only [treeD, pd, List.mapM_cons, List.mapM_nil, pd_ints, e]
    exact ⟨_, rfl⟩
theorem eq_tree {S : R.St} {kvs : List (List Int × D)} {n k : Nat} {h : Int} {p : List Int} (hk : k ≤ 20) : cmpO S .Eq (treeD kvs n h k p) (treeD kvs n h k p) = some true := by
  obtain ⟨a, e⟩ := pd_tree (S := S) (kvs := kvs) (n := n) (h := h) k (57 - 2 * k) p
  rw [show 2 * k + 2 + (57 - 2 * k) + 1 = 60 by omega] at e
  have : cmpO S .Eq (treeD kvs n h k p) (treeD kvs n h k p) = eqD S (treeD kvs n h k p) (treeD kvs n h k p) := by cases k <;> rfl
  rw [this]
  exact eqD_of e e
def rZ : CS := (.ret (.and (.cmp .Eq (.call 2 0 (.cons (.loc 1) (.cons (.loc 6) (.cons (.loc 2) (.cons (.loc 4) (.cons (.loc 8) .nil)))))) (.loc 10)) (.cmp .Eq (.loc 8) (.loc 9))) .nil)
def rY : CS := (.ifS (.cmp .NotEq (.loc 8) (.loc 12))
    (.ret (.con (D.bl false)) .nil)
    .nil
   (.ifS (.cmp .In (.loc 11) (.loc 9))
    (.setIx (.loc 8) (.loc 11) (.dix (.loc 9) (.loc 11))
    .nil)
    (.expr (.dpop (.loc 8) (.loc 11))
    .nil)
   rZ))
def tX : CE := (.nt (.tst (.call 14 0 (.cons (.call 2 0 (.cons (.loc 1) (.cons (.loc 6) (.cons (.loc 2) (.cons (.loc 4) (.cons (.loc 8) .nil)))))) (.cons (.loc 1) (.cons (.loc 6) (.cons (.loc 2) (.cons (.loc 4) (.cons (.loc 12) .nil)))))))))
def rX : CS := (.ifS tX
    (.ret (.con (D.bl false)) .nil)
    .nil
   rY)
def rW : CS := (.asg 11 (.ix (.loc 7) (.bin .Mod (.call 5 0 (.cons (.loc 0) (.cons (.con (D.int 5)) .nil))) (.bi .len (.cons (.loc 7) .nil))))
   (.setIx (.loc 8) (.loc 11) (.call 6 0 (.cons (.bin .FloorDiv (.call 5 0 (.cons (.loc 0) (.cons (.con (D.int 5)) .nil))) (.con (D.int 7))) .nil))
   (.asg 12 (.dcopy (.loc 8))
   rX)))
def rV : CS := (.asg 7 (.call 7 0 (.cons (.loc 4) (.cons (.loc 1) (.cons (.loc 6) (.cons (.loc 2) .nil)))))
   (.asg 8 (.call 10 0 (.cons (.loc 0) (.cons (.loc 7) (.cons (.loc 2) .nil))))
   (.asg 9 (.dcopy (.loc 8))
   (.asg 10 (.call 2 0 (.cons (.loc 1) (.cons (.loc 6) (.cons (.loc 2) (.cons (.loc 4) (.cons (.loc 8) .nil))))))
   (.ifS (.or (.cmp .NotEq (.loc 8) (.loc 9)) (.nt (.tst (.call 14 0 (.cons (.loc 10) (.cons (.loc 1) (.cons (.loc 6) (.cons (.loc 2) (.cons (.loc 4) (.cons (.loc 9) .nil))))))))))
    (.ret (.con (D.bl false)) .nil)
    .nil
   rW)))))
abbrev EL (ns : List Int) (n t : Nat) (h : Int) (p : List Int) (v3 v5 v7 v8 v9 v10 v11 v12 : Option D) : Ev := [some (.fix (ns.map .int)), some (.int n), some (.int h), v3, some (pD p), v5, some (.int t), v7, v8, v9, v10, v11, v12]
abbrev Qt (r : Fl) (_ : R.St) : Prop := match r with | .nx _ => (D.non = .bl true) | .rt d => d = .bl true
/-- how deep the tree is -/
structure Dp (p : List Int) (t k : Nat) : Prop where
  p1 : 1 ≤ p.length
  p2 : p.length ≤ 6
  t2 : t ≤ 8
  hk : k ≤ 8
  eq : p.length + k = t ∨ (k = 0 ∧ t ≤ p.length)
section
variable {n t k : Nat} {h : Int} {p : List Int}
theorem grow {S : R.St} {l : Nat} {kvs : List (List Int × D)} (hn : n ≤ 7) (d : Dp p t k) (hv : Wds kvs) (hg : S.get l = some (.dtp kvs)) : app (callF prog 22) 2 [.int n, .int t, .int h, pD p, .ref l] S = .ok (treeD kvs n h k p) S := by
  have h1 := d.hk
  have h2 := d.p2
  rcases d.eq with e | ⟨e, e2⟩
  · have es := s_grown (l := l) (n := n) (h := h) (kvs := kvs) hn hv k (16 - 2 * k) S p hg (by omega)
    rw [show 2 * k + (16 - 2 * k) + 6 = 22 by omega, e] at es
    exact es
  · subst e
    exact s_grown0 (l := l) (n := n) (m := 16) (h := h) (r := t) hv hg (by omega)
theorem hold {S : R.St} {l : Nat} {kvs : List (List Int × D)} (hn : n ≤ 7) (d : Dp p t k) (hv : Wds kvs) (hg : S.get l = some (.dtp kvs)) : app (callF prog 22) 14 [treeD kvs n h k p, .int n, .int t, .int h, pD p, .ref l] S = .ok (.bl true) S := by
  have h1 := d.hk
  have h2 := d.p2
  have es := s_holds (l := l) (n := n) (h := h) (t := t) (kvs := kvs) hn hv k (19 - k) S p hg (by omega) (by have := d.eq; omega)
  rw [show k + (19 - k) + 3 = 22 by omega] at es
  exact es
theorem l_Z {ns : List Int} {v3 v5 v7 v11 v12 : Option D} {S : R.St} {ln lk : Nat} {kvs : List (List Int × D)} (hn : n ≤ 7) (d : Dp p t k) (hv : Wv kvs) (g8 : S.get ln = some (.dtp kvs)) (g9 : S.get lk = some (.dtp kvs)) :
    wS (callF prog 22) rZ (EL ns n t h p v3 v5 v7 (some (.ref ln)) (some (.ref lk)) (some (treeD kvs n h k p)) v11 v12) S Qt := by
  have hk := d.hk
  have et := eq_tree (S := S) (kvs := kvs) (n := n) (k := k) (h := h) (p := p) (by omega)
  have gr := grow (h := h) hn d hv.ds g8
  obtain ⟨ds, ed⟩ : ∃ ds, treeD kvs n h k p = .tup ds := by cases k <;> exact ⟨_, rfl⟩
  rw [ed] at et gr ⊢
  conv => whnf
  refine wOut_of (gr) ?_
  conv => whnf
  refine wOpt_of (et) ?_
  conv => whnf
  refine wOpt_of (deq g8 g9 hv) ?_
  conv => whnf
theorem l_Y {ns : List Int} {v3 v5 v7 : Option D} {S : R.St} {ln lk lc : Nat} {kvs : List (List Int × D)} {s : List Int} {o : Option Int} (hn : n ≤ 7) (d : Dp p t k) (hv : Wv kvs) (hw : Wv (putP kvs s (oD o))) (hl : kvs.length ≤ 5000) (g8 : S.get ln = some (.dtp (putP kvs s (oD o)))) (g9 : S.get lk = some (.dtp kvs)) (g12 : S.get lc = some (.dtp (putP kvs s (oD o)))) (hne : lk ≠ ln) (hf : S.frz = []) (hlk : S.lk = []) :
    wS (callF prog 22) rY (EL ns n t h p v3 v5 v7 (some (.ref ln)) (some (.ref lk)) (some (treeD kvs n h k p)) (some (pD s)) (some (.ref lc))) S Qt := by
  have f1 : S.frz.length ≤ ln := by rw [hf]; simp
  have f2 : S.lk.contains ln = false := by rw [hlk]; rfl
  have hpl := put_le kvs s (oD o)
  conv => whnf
  refine wOpt_of (dne g8 g12 hw) ?_
  conv => whnf
  refine wOpt_of (din g9 s) ?_
  conv => whnf
  cases e : valP kvs s with
  | some v =>
    conv => whnf
    refine wOpt_of ((show (dGet S (.ref lk) (pD s)).bind id = some v by rw [dGet_of g9 s, e]; rfl)) ?_
    conv => whnf
    obtain ⟨S', e1, e2, e3, e4, e5, e6⟩ := dPut_of g8 f1 f2 (by omega) s v
    refine wOpt_of e1 ?_
    rw [put_back e] at e6
    exact l_Z hn d hv e6 ((e5 lk hne).trans g9)
  | none =>
    conv => whnf
    refine wNeed_of (by simp only [isDt, g8]) ?_
    conv => whnf
    obtain ⟨S', e1, e2, e3, e4, e5, e6⟩ := dDel_of (p := s) (v := oD o) g8 f1 f2 (by rw [valP_put, if_pos rfl])
    refine wOpt_of e1 ?_
    rw [drop_new e] at e6
    exact l_Z hn d hv e6 ((e5 lk hne).trans g9)
theorem l_X {ns : List Int} {v3 v5 v7 v9 v10 v11 : Option D} {S : R.St} {ln lc : Nat} {kvs : List (List Int × D)} (hn : n ≤ 7) (d : Dp p t k) (hv : Wv kvs) (g8 : S.get ln = some (.dtp kvs)) (g12 : S.get lc = some (.dtp kvs)) :
    evT (callF prog 22) tX (EL ns n t h p v3 v5 v7 (some (.ref ln)) v9 v10 v11 (some (.ref lc))) S = .ok false S := by
  refine W.eq ?_
  generalize hδ : EL ns n t h p v3 v5 v7 (some (.ref ln)) v9 v10 v11 (some (.ref lc)) = δ
  refine wT_W tX ?_
  subst hδ
  conv => whnf
  refine wOut_of (grow hn d hv.ds g8) ?_
  conv => whnf
  refine wOut_of (hold hn d hv.ds g12) ?_
  conv => whnf
  exact ⟨rfl, rfl⟩
end
section
variable {n t k : Nat} {h x : Int} {p : List Int}
theorem asg_step {cf : CF} {i : Nat} {e : CE} {r : CS} {δ : Ev} {S S' : R.St} {d : D} {Q : Fl → R.St → Prop} (h : evE cf e δ S = .ok d S') (w : W (exS cf r (δ.set i (some d)) S') Q) : W (exS cf (.asg i e r) δ S) Q := by rw [exS, h, bind_ok]; exact w
theorem set_step {cf : CF} {a b e : CE} {r : CS} {δ : Ev} {S S1 S2 S3 S4 : R.St} {v x y : D} {Q : Fl → R.St → Prop} (he : evE cf e δ S = .ok v S1) (ha : evE cf a δ S1 = .ok x S2) (hb : evE cf b δ S2 = .ok y S3) (hp : dPut S3 x y v = some S4) (w : W (exS cf r δ S4) Q) : W (exS cf (.setIx a b e r) δ S) Q := by
  rw [exS, he, bind_ok, ha, bind_ok, hb, bind_ok, hp]; exact w
theorem if_step {cf : CF} {c : CE} {u r : CS} {δ : Ev} {S : R.St} {Q : Fl → R.St → Prop} (e : evT cf c δ S = .ok false S) (w : W (exS cf r δ S) Q) : W (exS cf (.ifS c u .nil r) δ S) Q := by
  rw [exS, e, bind_ok, if_neg (by simp), exS, bind_ok]
  exact w
theorem l_W {ns : List Int} {v3 v5 : Option D} {S : R.St} {ls ln lk : Nat} {kvs : List (List Int × D)} {fd : List (List Int)} (hn : n ≤ 7) (d : Dp p t k) (hd : Kd x kvs) (hl : kvs.length ≤ 1000) (g7 : S.get ls = some (.lst (fd.map pD))) (hfd : ∀ q ∈ fd, Kg x q) (hfne : fd ≠ []) (g8 : S.get ln = some (.dtp kvs)) (g9 : S.get lk = some (.dtp kvs)) (hne : lk ≠ ln) (hf : S.frz = []) (hlk : S.lk = []) :
    W (exS (callF prog 22) rW (EL ns n t h p v3 v5 (some (.ref ls)) (some (.ref ln)) (some (.ref lk)) (some (treeD kvs n h k p)) none none) S) Qt := by
  have f1 : S.frz.length ≤ ln := by rw [hf]; simp
  have f2 : S.lk.contains ln = false := by rw [hlk]; rfl
  have hps : (0 : Int) < ((fd.map pD).length : Nat) := by
    have := List.length_pos_iff.mpr hfne
    rw [List.length_map]; omega
  have k0 := Int.emod_nonneg (cellZ ns 5) (b := ((fd.map pD).length : Nat)) (by omega)
  have k1 := Int.emod_lt_of_pos (cellZ ns 5) hps
  obtain ⟨j, ej⟩ : ∃ j : Nat, cellZ ns 5 % ((fd.map pD).length : Nat) = (j : Int) := ⟨(cellZ ns 5 % ((fd.map pD).length : Nat)).toNat, by omega⟩
  have hj : j < fd.length := by rw [ej, List.length_map] at k1; omega
  obtain ⟨o, eo⟩ := s_word (n := 21) (S := S) (c := cellZ ns 5 / 7)
  have gs := hfd fd[j] (List.getElem_mem hj)
  have ea : atI (fd.map pD) (j : Int) = some (pD fd[j]) := at_fd (List.getElem?_eq_getElem hj)
  generalize fd[j] = s at gs ea
  obtain ⟨S4, e1, e2, e3, e4, e5, e6⟩ := dPut_of g8 f1 f2 (by omega) s (oD o)
  have hd4 := hd.put gs ⟨o, rfl⟩
  have x11 : evE (callF prog 22) (.ix (.loc 7) (.bin .Mod (.call 5 0 (.cons (.loc 0) (.cons (.con (D.int 5)) .nil))) (.bi .len (.cons (.loc 7) .nil)))) (EL ns n t h p v3 v5 (some (.ref ls)) (some (.ref ln)) (some (.ref lk)) (some (treeD kvs n h k p)) none none) S = .ok (pD s) S := by
    refine W.eq ?_
    generalize hδ : EL ns n t h p v3 v5 (some (.ref ls)) (some (.ref ln)) (some (.ref lk)) (some (treeD kvs n h k p)) none none = δ
    refine wE_W _ ?_
    subst hδ
    conv => whnf
    refine wOut_of (s_cell (n := 21) (k := 5)) ?_
    conv => whnf
    refine wOpt_of (g7) ?_
    conv => whnf
    refine wNeed_of (by exact hps) ?_
    conv => whnf
    rw [ej]
    refine wOpt_of (g7) ?_
    conv => whnf
    refine wOpt_of (ea) ?_
    conv => whnf
    exact ⟨rfl, rfl⟩
  have xv : evE (callF prog 22) (.call 6 0 (.cons (.bin .FloorDiv (.call 5 0 (.cons (.loc 0) (.cons (.con (D.int 5)) .nil))) (.con (D.int 7))) .nil)) (EL ns n t h p v3 v5 (some (.ref ls)) (some (.ref ln)) (some (.ref lk)) (some (treeD kvs n h k p)) (some (pD s)) none) S = .ok (oD o) S := by
    refine W.eq ?_
    generalize hδ : EL ns n t h p v3 v5 (some (.ref ls)) (some (.ref ln)) (some (.ref lk)) (some (treeD kvs n h k p)) (some (pD s)) none = δ
    refine wE_W _ ?_
    subst hδ
    conv => whnf
    refine wOut_of (s_cell (n := 21) (k := 5)) ?_
    conv => whnf
    refine wNeed_of (by first | decide | omega | (simp; done) | (simp; omega)) ?_
    conv => whnf
    refine wOut_of (eo) ?_
    conv => whnf
    exact ⟨rfl, rfl⟩
  have x12 : evE (callF prog 22) (.dcopy (.loc 8)) (EL ns n t h p v3 v5 (some (.ref ls)) (some (.ref ln)) (some (.ref lk)) (some (treeD kvs n h k p)) (some (pD s)) none) S4 = .ok (.ref S4.len) (S4.push (.dtp (putP kvs s (oD o)))) := by
    refine W.eq ?_
    generalize hδ : EL ns n t h p v3 v5 (some (.ref ls)) (some (.ref ln)) (some (.ref lk)) (some (treeD kvs n h k p)) (some (pD s)) none = δ
    refine wE_W _ ?_
    subst hδ
    conv => whnf
    refine wOpt_of (dKvs_of e6) ?_
    conv => whnf
    refine wNeed_of hd4.hash ?_
    conv => whnf
    exact ⟨rfl, rfl⟩
  have lnl : ln < S4.len := get_lt e6
  have g9' : S4.get lk = some (.dtp kvs) := (e5 lk hne).trans g9
  refine asg_step x11 ?_
  show W (exS (callF prog 22) (.setIx (.loc 8) (.loc 11) (.call 6 0 (.cons (.bin .FloorDiv (.call 5 0 (.cons (.loc 0) (.cons (.con (D.int 5)) .nil))) (.con (D.int 7))) .nil)) (.asg 12 (.dcopy (.loc 8)) rX)) (EL ns n t h p v3 v5 (some (.ref ls)) (some (.ref ln)) (some (.ref lk)) (some (treeD kvs n h k p)) (some (pD s)) none) S) _
  refine set_step xv rfl rfl e1 ?_
  refine asg_step x12 ?_
  show W (exS (callF prog 22) rX (EL ns n t h p v3 v5 (some (.ref ls)) (some (.ref ln)) (some (.ref lk)) (some (treeD kvs n h k p)) (some (pD s)) (some (.ref S4.len))) (S4.push (.dtp (putP kvs s (oD o))))) _
  refine if_step (l_X hn d hd4.wv (push_old e6) (push_get _ _)) ?_
  generalize hδ : EL ns n t h p v3 v5 (some (.ref ls)) (some (.ref ln)) (some (.ref lk)) (some (treeD kvs n h k p)) (some (pD s)) (some (.ref S4.len)) = δ
  refine wS_W rY ?_
  subst hδ
  exact l_Y hn d hd.wv hd4.wv (by omega) (push_old e6) (push_old g9') (push_get _ _) hne (e2.trans hf) (e3.trans hlk)
theorem l_V {ns : List Int} {v3 v5 : Option D} {T : R.St} (hn : n ≤ 7) (hh : 0 ≤ h ∧ h < n) (d : Dp p t k) (gp : Pg n h x p) (hf : T.frz = []) (hlk : T.lk = []) : W (exS (callF prog 22) rV (EL ns n t h p v3 v5 none none none none none none) T) Qt := by
  have d1 := d.p1
  have d2 := d.t2
  obtain ⟨fd, e7, gfd, fne, fl⟩ := s_paths (f := 21) (S := T) (p := p) (n := n) (t := t) (h := h) (x := x) hn hh (by omega) gp d1
  have g7 : (T.push (.lst (fd.map pD))).get T.len = some (.lst (fd.map pD)) := push_get _ _
  have f1 : (T.push (.lst (fd.map pD))).frz = [] := hf
  have k1 : (T.push (.lst (fd.map pD))).lk = [] := hlk
  generalize T.push (.lst (fd.map pD)) = S1 at *
  obtain ⟨kvs, e8, kd, kl⟩ := s_notes (f := 19) (S := S1) (ns := ns) (l := T.len) (n := n) (h := h) (x := x) hn hh g7 gfd fl
  have g8 : (S1.push (.dtp kvs)).get S1.len = some (.dtp kvs) := push_get _ _
  have g72 : (S1.push (.dtp kvs)).get T.len = some (.lst (fd.map pD)) := push_old g7
  have f2 : (S1.push (.dtp kvs)).frz = [] := f1
  have k2 : (S1.push (.dtp kvs)).lk = [] := k1
  have l2 : S1.len < (S1.push (.dtp kvs)).len := get_lt g8
  generalize S1.push (.dtp kvs) = S2 at *
  have x7 : evE (callF prog 22) (.call 7 0 (.cons (.loc 4) (.cons (.loc 1) (.cons (.loc 6) (.cons (.loc 2) .nil))))) (EL ns n t h p v3 v5 none none none none none none) T = .ok (.ref T.len) S1 := by
    refine W.eq ?_
    generalize hδ : EL ns n t h p v3 v5 none none none none none none = δ
    refine wE_W _ ?_
    subst hδ
    conv => whnf
    refine wOut_of (e7) ?_
    conv => whnf
    exact ⟨rfl, rfl⟩
  have x8 : evE (callF prog 22) (.call 10 0 (.cons (.loc 0) (.cons (.loc 7) (.cons (.loc 2) .nil)))) (EL ns n t h p v3 v5 (some (.ref T.len)) none none none none none) S1 = .ok (.ref S1.len) S2 := by
    refine W.eq ?_
    generalize hδ : EL ns n t h p v3 v5 (some (.ref T.len)) none none none none none = δ
    refine wE_W _ ?_
    subst hδ
    conv => whnf
    refine wOut_of (e8) ?_
    conv => whnf
    exact ⟨rfl, rfl⟩
  have x9 : evE (callF prog 22) (.dcopy (.loc 8)) (EL ns n t h p v3 v5 (some (.ref T.len)) (some (.ref S1.len)) none none none none) S2 = .ok (.ref S2.len) (S2.push (.dtp kvs)) := by
    refine W.eq ?_
    generalize hδ : EL ns n t h p v3 v5 (some (.ref T.len)) (some (.ref S1.len)) none none none none = δ
    refine wE_W _ ?_
    subst hδ
    conv => whnf
    refine wOpt_of (dKvs_of g8) ?_
    conv => whnf
    refine wNeed_of kd.hash ?_
    conv => whnf
    exact ⟨rfl, rfl⟩
  have g9 : (S2.push (.dtp kvs)).get S2.len = some (.dtp kvs) := push_get _ _
  have g83 : (S2.push (.dtp kvs)).get S1.len = some (.dtp kvs) := push_old g8
  have g73 : (S2.push (.dtp kvs)).get T.len = some (.lst (fd.map pD)) := push_old g72
  have f3 : (S2.push (.dtp kvs)).frz = [] := f2
  have k3 : (S2.push (.dtp kvs)).lk = [] := k2
  generalize S2.push (.dtp kvs) = S3 at *
  have x10 : evE (callF prog 22) (.call 2 0 (.cons (.loc 1) (.cons (.loc 6) (.cons (.loc 2) (.cons (.loc 4) (.cons (.loc 8) .nil)))))) (EL ns n t h p v3 v5 (some (.ref T.len)) (some (.ref S1.len)) (some (.ref S2.len)) none none none) S3 = .ok (treeD kvs n h k p) S3 := by
    refine W.eq ?_
    generalize hδ : EL ns n t h p v3 v5 (some (.ref T.len)) (some (.ref S1.len)) (some (.ref S2.len)) none none none = δ
    refine wE_W _ ?_
    subst hδ
    conv => whnf
    refine wOut_of (grow hn d kd.wv.ds g83) ?_
    conv => whnf
    exact ⟨rfl, rfl⟩
  have xt : evT (callF prog 22) (.or (.cmp .NotEq (.loc 8) (.loc 9)) (.nt (.tst (.call 14 0 (.cons (.loc 10) (.cons (.loc 1) (.cons (.loc 6) (.cons (.loc 2) (.cons (.loc 4) (.cons (.loc 9) .nil)))))))))) (EL ns n t h p v3 v5 (some (.ref T.len)) (some (.ref S1.len)) (some (.ref S2.len)) (some (treeD kvs n h k p)) none none) S3 = .ok false S3 := by
    refine W.eq ?_
    generalize hδ : EL ns n t h p v3 v5 (some (.ref T.len)) (some (.ref S1.len)) (some (.ref S2.len)) (some (treeD kvs n h k p)) none none = δ
    refine wT_W _ ?_
    subst hδ
    conv => whnf
    refine wOpt_of (dne g83 g9 kd.wv) ?_
    conv => whnf
    refine wOut_of (hold hn d kd.wv.ds g9) ?_
    conv => whnf
    exact ⟨rfl, rfl⟩
  refine asg_step x7 ?_
  refine asg_step x8 ?_
  refine asg_step x9 ?_
  refine asg_step x10 ?_
  refine if_step xt ?_
  exact l_W hn d kd (by omega) g73 (fun q hq => (gfd q hq).kg hn) fne g83 g9 (by omega) f3 k3
end
theorem call_X {P : List Fn} {F : Fn} {f n : Nat} {ds : List D} {S : R.St} {Q : D → R.St → Prop} (h : P[f]? = some F) (hl : ds.length = F.np) (hp : F.prim = none) (w : W (exS (callF P n) F.body (startE F ds) S) fun r T => match r with | .nx _ => Q .non T | .rt d => Q d T) : W (callF P (n + 1) f ds S) Q := by
  simp only [callF, h, hl, hp, if_true, W_bind]
  refine w.mono fun r T q => ?_
  cases r <;> exact q
def xA1 : CE := (.bin .Add (.con (D.int 2)) (.bin .Mod (.call 5 0 (.cons (.loc 0) (.cons (.con (D.int 0)) .nil))) (.con (D.int 6))))
def xA2 : CE := (.bin .Mod (.call 5 0 (.cons (.loc 0) (.cons (.con (D.int 1)) .nil))) (.loc 1))
def xA3 : CE := (.mkL (.comp 1 [2] [0] (.rng1 (.loc 1)) (.cmp .NotEq (.loc 0) (.loc 1)) (.loc 0)))
def bA5 : CS := (.asg 4 (.bin .Add (.loc 4) (.tup (.cons (.mt .popAt (.loc 3) (.cons (.bin .Mod (.bin .FloorDiv (.call 5 0 (.cons (.loc 0) (.cons (.con (D.int 2)) .nil))) (.bin .Add (.con (D.int 3)) (.bin .Mult (.con (D.int 4)) (.loc 5)))) (.bi .len (.cons (.loc 3) .nil))) .nil)) .nil)))
    .nil)
def lA5 : CL := (.rng1 (.bin .Add (.con (D.int 1)) (.bin .Mod (.call 5 0 (.cons (.loc 0) (.cons (.con (D.int 2)) .nil))) (.bi .min2 (.cons (.con (D.int 3)) (.cons (.bin .Sub (.loc 1) (.con (D.int 1))) .nil))))))
def xA6 : CE := (.bin .Add (.con (D.int 1)) (.bin .Mod (.call 5 0 (.cons (.loc 0) (.cons (.con (D.int 3)) .nil))) (.con (D.int 4))))
def tA7 : CE := (.cmp .Eq (.bin .Mod (.bin .FloorDiv (.call 5 0 (.cons (.loc 0) (.cons (.con (D.int 3)) .nil))) (.con (D.int 4))) (.con (D.int 16))) (.con (D.int 1)))
def xA7 : CE := (.bin .Add (.con (D.int 1)) (.bin .Mod (.bin .FloorDiv (.call 5 0 (.cons (.loc 0) (.cons (.con (D.int 3)) .nil))) (.con (D.int 64))) (.con (D.int 8))))
def rA6 : CS := (.asg 6 xA6 (.ifS tA7 (.asg 6 xA7 .nil) .nil rV))
def rA5 : CS := (.forS [5] lA5 bA5 rA6)
abbrev E0 (ns : List Int) (v1 v2 v3 v4 v5 v6 : Option D) : Ev := [some (.fix (ns.map .int)), v1, v2, v3, v4, v5, v6, none, none, none, none, none, none]
theorem la1 {ns : List Int} {n : Nat} (en : 2 + cellZ ns 0 % 6 = (n : Int)) : evE (callF prog 22) xA1 (E0 ns none none none none none none) ⟨[], [], []⟩ = .ok (.int n) ⟨[], [], []⟩ := by
  refine W.eq ?_
  generalize hδ : E0 ns none none none none none none = δ
  refine wE_W xA1 ?_
  subst hδ
  conv => whnf
  refine wOut_of (s_cell (n := 21) (k := 0)) ?_
  conv => whnf
  refine wNeed_of (by first | decide | omega | (simp; done) | (simp; omega)) ?_
  conv => whnf
  exact ⟨by rw [← en], rfl⟩
theorem la2 {ns : List Int} {n : Nat} (npos : (0 : Int) < n) : evE (callF prog 22) xA2 (E0 ns (some (.int n)) none none none none none) ⟨[], [], []⟩ = .ok (.int (cellZ ns 1 % n)) ⟨[], [], []⟩ := by
  refine W.eq ?_
  generalize hδ : E0 ns (some (.int n)) none none none none none = δ
  refine wE_W xA2 ?_
  subst hδ
  conv => whnf
  refine wOut_of (s_cell (n := 21) (k := 1)) ?_
  conv => whnf
  refine wNeed_of (by exact npos) ?_
  conv => whnf
  exact ⟨rfl, rfl⟩
def lef (n : Nat) (hd : Int) : List Int := (hnds n).filter fun o => !decide (o = hd)
theorem lef_mem {n : Nat} {hd y : Int} (hy : y ∈ lef n hd) : (0 ≤ y ∧ y < n) ∧ y ≠ hd := by
  have := List.mem_filter.mp hy
  exact ⟨hnds_mem.mp this.1, by simpa using this.2⟩
theorem lef_nodup (n : Nat) (hd : Int) : (lef n hd).Nodup := (hnds_nodup n).filter _
theorem lef_len {n : Nat} {hd : Int} (hh : 0 ≤ hd ∧ hd < n) : (lef n hd).length + 1 = n := by
  have a : (lef n hd ++ [hd]).Nodup := by
    rw [List.nodup_append]
    exact ⟨lef_nodup n hd, by simp, fun a ha b hb e => by rw [List.mem_singleton] at hb; subst hb e; exact (lef_mem ha).2 rfl⟩
  have b := nodup_le (B := hnds n) a fun y hy => by
    rw [hnds_mem]
    rcases List.mem_append.mp hy with z | z
    · exact (lef_mem z).1
    · rw [List.mem_singleton] at z; subst z; exact hh
  have c := nodup_le (B := lef n hd ++ [hd]) (hnds_nodup n) fun y hy => by
    by_cases e : y = hd
    · subst e; simp
    · exact List.mem_append_left _ (List.mem_filter.mpr ⟨hy, by simp [e]⟩)
  simp only [List.length_append, List.length_cons, List.length_nil, hnds_len] at b c
  omega
theorem la3 {ns : List Int} {n : Nat} {hd : Int} (hn : n ≤ 7) (hh : 0 ≤ hd ∧ hd < n) : evE (callF prog 22) xA3 (E0 ns (some (.int n)) (some (.int hd)) none none none none) ⟨[], [], []⟩ = .ok (.ref 0) ⟨[], [.lst ((lef n hd).map .int)], []⟩ := by
  have hlen := lef_len hh
  refine W.eq ?_
  generalize hδ : E0 ns (some (.int n)) (some (.int hd)) none none none none = δ
  refine wE_W xA3 ?_
  subst hδ
  conv => whnf
  refine wNeed_of (by omega) ?_
  conv => whnf
  refine wLock_of ?_
  rw [rng_hnds]
  refine W.of (turnsC_pure (fun d => match d with | .int o => !decide (o = hd) | _ => false) (fun d => d) _ none (fun z hz => ?_) (fun z hz _ => rfl)) ?_
  · obtain ⟨o, _, rfl⟩ := List.mem_map.mp hz
    rfl
  · have e : ((((hnds n).map D.int).filter (fun d => match d with | .int o => !decide (o = hd) | _ => false)).map fun d => d) = (lef n hd).map D.int := by
      rw [List.map_id', List.filter_map]; rfl
    rw [e]
    conv => whnf
    refine wNeed_of (by simp only [List.length_map]; omega) ?_
    conv => whnf
    refine wNeed_of (by simp only [List.length_map]; omega) ?_
    conv => whnf
    exact ⟨rfl, rfl⟩
theorem get0 (o : MO) : St.get ⟨[], [o], []⟩ 0 = some o := rfl
theorem put0 (o u : MO) : St.put ⟨[], [o], []⟩ 0 u = some ⟨[], [u], []⟩ := rfl
theorem perm_erase : ∀ (l : List Int) (j : Nat) (h : j < l.length), (l[j] :: l.eraseIdx j).Perm l
  | [], j, h => by simp at h
  | a :: l, 0, h => List.Perm.refl _
  | a :: l, j + 1, h => by
    have := perm_erase l j (by simpa using h)
    simp only [List.getElem_cons_succ, List.eraseIdx_cons_succ]
    exact (List.Perm.swap _ _ _).trans (this.cons a)
/-- behind i turns: the path, what is left -/
structure Lp (n : Nat) (hd : Int) (i : Nat) (p left : List Int) : Prop where
  len : p.length = i
  sum : i + left.length + 1 = n
  nd : (p ++ left).Nodup
  rg : ∀ y ∈ p ++ left, (0 ≤ y ∧ y < n) ∧ y ≠ hd
theorem Lp.step {n : Nat} {hd : Int} {i j : Nat} {p left : List Int} (h : Lp n hd i p left) (hj : j < left.length) : Lp n hd (i + 1) (p ++ [left[j]]) (left.eraseIdx j) := by
  have pm : (p ++ [left[j]] ++ left.eraseIdx j).Perm (p ++ left) := by
    rw [List.append_assoc]
    refine List.Perm.append_left p ?_
    show (left[j] :: left.eraseIdx j).Perm left
    exact perm_erase left j hj
  refine ⟨by simp [h.len], by have := h.sum; rw [List.length_eraseIdx_of_lt hj]; omega, pm.nodup_iff.mpr h.nd, fun y hy => h.rg y (pm.mem_iff.mp hy)⟩
theorem la5 {ns : List Int} {n i : Nat} {hd : Int} {p left : List Int} {v5 : Option D} (h : Lp n hd i p left) (hl : 0 < left.length) (hn : n ≤ 7) (hi : i ≤ 3) :
    W (exS (callF prog 22) bA5 (E0 ns (some (.int n)) (some (.int hd)) (some (.ref 0)) (some (pD p)) (some (.int i)) none) ⟨[], [.lst (left.map .int)], []⟩) fun f T => ∃ p' left', f = .nx (E0 ns (some (.int n)) (some (.int hd)) (some (.ref 0)) (some (pD p')) (some (.int i)) none) ∧ T = ⟨[], [.lst (left'.map .int)], []⟩ ∧ Lp n hd (i + 1) p' left' := by
  have hs := h.sum
  have hps : (0 : Int) < ((left.map D.int).length : Nat) := by rw [List.length_map]; omega
  have k0 := Int.emod_nonneg (cellZ ns 2 / (3 + 4 * (i : Int))) (b := ((left.map D.int).length : Nat)) (by omega)
  have k1 := Int.emod_lt_of_pos (cellZ ns 2 / (3 + 4 * (i : Int))) hps
  obtain ⟨j, ej⟩ : ∃ j : Nat, cellZ ns 2 / (3 + 4 * (i : Int)) % ((left.map D.int).length : Nat) = (j : Int) := ⟨(cellZ ns 2 / (3 + 4 * (i : Int)) % ((left.map D.int).length : Nat)).toNat, by omega⟩
  have hj : j < left.length := by rw [ej, List.length_map] at k1; omega
  generalize hδ : E0 ns (some (.int n)) (some (.int hd)) (some (.ref 0)) (some (pD p)) (some (.int i)) none = δ
  refine wS_W bA5 ?_
  subst hδ
  conv => whnf
  refine wOpt_of (get0 _) ?_
  conv => whnf
  refine wOut_of (s_cell (n := 21) (k := 2)) ?_
  conv => whnf
  refine wNeed_of (by simp [mulOk]) ?_
  conv => whnf
  refine wNeed_of (by omega) ?_
  conv => whnf
  refine wOpt_of (get0 _) ?_
  conv => whnf
  refine wNeed_of (by exact hps) ?_
  conv => whnf
  rw [ej]
  refine wOpt_of (get0 _) ?_
  conv => whnf
  refine wNeed_of (by first | decide | omega | (simp; done) | (simp; omega)) ?_
  conv => whnf
  refine wOpt_of ((show (left.map D.int)[(j : Int).toNat]? = some (.int left[j]) by simp [hj])) ?_
  conv => whnf
  refine wNeed_of (by simp [List.length_eraseIdx]; split <;> omega) ?_
  conv => whnf
  refine wOpt_of (put0 _ _) ?_
  conv => whnf
  refine wNeed_of (by first | decide | omega | (simp; done) | (simp; omega)) ?_
  conv => whnf
  refine wNeed_of (by have := h.len; simp only [List.length_map, List.length_cons, List.length_nil]; omega) ?_
  conv => whnf
  refine ⟨p ++ [left[j]], left.eraseIdx j, ?_, ?_, h.step hj⟩
  · show Fl.nx (E0 ns _ _ _ (some (.tup (p.map D.int ++ [.int left[j]]))) _ _) = _
    simp [pD]
  · rw [Int.toNat_natCast, map_erase]
theorem law_b {ns : List Int} {n : Nat} {hd : Int} (hn : n ≤ 7) (hn2 : 2 ≤ n) (hh : 0 ≤ hd ∧ hd < n) : W (exS (callF prog 22) rA5 (E0 ns (some (.int n)) (some (.int hd)) (some (.ref 0)) (some (pD [])) none none) ⟨[], [.lst ((lef n hd).map .int)], []⟩) Qt := by
  have hmin : ∃ m : Nat, (if (n : Int) - 1 < 3 then (n : Int) - 1 else 3) = (m : Int) ∧ 1 ≤ m ∧ m ≤ 3 ∧ m + 1 ≤ n := by
    by_cases c : (n : Int) - 1 < 3
    · exact ⟨n - 1, by rw [if_pos c]; omega, by omega, by omega, by omega⟩
    · exact ⟨3, by rw [if_neg c]; rfl, by omega, by omega, by omega⟩
  obtain ⟨m, em, m1, m3, mn⟩ := hmin
  have c0 := Int.emod_nonneg (cellZ ns 2) (b := (m : Int)) (by omega)
  have c1 := Int.emod_lt_of_pos (cellZ ns 2) (b := (m : Int)) (by omega)
  obtain ⟨c, ec⟩ : ∃ c : Nat, cellZ ns 2 % (m : Int) = (c : Int) := ⟨(cellZ ns 2 % (m : Int)).toNat, by omega⟩
  have xl : evL (callF prog 22) lA5 (E0 ns (some (.int n)) (some (.int hd)) (some (.ref 0)) (some (pD [])) none none) ⟨[], [.lst ((lef n hd).map .int)], []⟩ = .ok ((List.range (c + 1)).map fun (k : Nat) => D.int k, []) ⟨[], [.lst ((lef n hd).map .int)], []⟩ := by
    refine W.eq ?_
    generalize hδ : E0 ns (some (.int n)) (some (.int hd)) (some (.ref 0)) (some (pD [])) none none = δ
    refine wL_W lA5 ?_
    subst hδ
    conv => whnf
    refine wOut_of (s_cell (n := 21) (k := 2)) ?_
    conv => whnf
    rw [em]
    refine wNeed_of (by omega) ?_
    conv => whnf
    rw [ec]
    refine wNeed_of (by omega) ?_
    conv => whnf
    refine ⟨?_, rfl⟩
    rw [show ((1 : Int) + (c : Int)).toNat = c + 1 by omega]
  have l0 : Lp n hd 0 [] (lef n hd) := ⟨rfl, by have := lef_len hh; omega, by simpa using lef_nodup n hd, fun y hy => lef_mem (by simpa using hy)⟩
  unfold rA5
  rw [exS, xl, bind_ok]
  dsimp only
  rw [locked_nil, W_bind, W_bind]
  refine W.mono (turnsF_inv (fun i δ T => ∃ p left v5, δ = E0 ns (some (.int n)) (some (.int hd)) (some (.ref 0)) (some (pD p)) v5 none ∧ T = ⟨[], [.lst (left.map .int)], []⟩ ∧ Lp n hd i p left) (fun _ _ => False) _ 0 _ _ ⟨[], lef n hd, none, rfl, rfl, l0⟩ ?_) ?_
  · rintro i z δ T hz ⟨p, left, v5, rfl, rfl, lp⟩
    rw [Nat.zero_add] at lp ⊢
    have hi : i < c + 1 := by
      have := (List.getElem?_eq_some_iff.mp hz).1
      simpa using this
    have hz : z = .int i := by
      rw [List.getElem?_map] at hz
      simp [hi] at hz
      exact hz.symm
    subst hz
    refine ⟨_, rfl, ?_⟩
    refine W.mono (la5 (ns := ns) (v5 := none) lp (by have := lp.sum; omega) hn (by omega)) ?_
    rintro f T ⟨p', left', rfl, rfl, lp'⟩
    exact ⟨p', left', _, rfl, rfl, lp'⟩
  · rintro r T hr
    cases r with
    | rt d => exact hr.elim
    | nx δ =>
      obtain ⟨p, left, v5, rfl, rfl, lp⟩ := hr
      rw [Nat.zero_add, List.length_map, List.length_range] at lp
      have pl := lp.len
      have nd := (List.nodup_append.mp lp.nd).1
      obtain ⟨x, ex⟩ : ∃ x, p.head? = some x := by
        cases p with
        | nil => simp at pl
        | cons a r => exact ⟨a, rfl⟩
      have gp : Pg n hd x p := ⟨ex, nd, fun y hy => (lp.rg y (List.mem_append_left _ hy)).1, fun z => (lp.rg hd (List.mem_append_left _ z)).2 rfl⟩
      have y0 := Int.emod_nonneg (cellZ ns 3) (b := 4) (by decide)
      have y1 := Int.emod_lt_of_pos (cellZ ns 3) (b := 4) (by decide)
      have z0 := Int.emod_nonneg (cellZ ns 3 / 64) (b := 8) (by decide)
      have z1 := Int.emod_lt_of_pos (cellZ ns 3 / 64) (b := 8) (by decide)
      obtain ⟨t, et⟩ : ∃ t : Nat, 1 + cellZ ns 3 % 4 = (t : Int) := ⟨(1 + cellZ ns 3 % 4).toNat, by omega⟩
      obtain ⟨u, eu⟩ : ∃ u : Nat, 1 + cellZ ns 3 / 64 % 8 = (u : Int) := ⟨(1 + cellZ ns 3 / 64 % 8).toNat, by omega⟩
      have fin : ∀ (v6 : Nat), v6 ≤ 8 → W (exS (callF prog 22) rV (E0 ns (some (.int n)) (some (.int hd)) (some (.ref 0)) (some (pD p)) v5 (some (.int v6))) ⟨[], [.lst (left.map .int)], []⟩) Qt := fun w hw =>
        l_V (t := w) (k := w - p.length) (x := x) hn hh ⟨by omega, by omega, hw, by omega, by omega⟩ gp rfl rfl
      have x6 : evE (callF prog 22) xA6 (E0 ns (some (.int n)) (some (.int hd)) (some (.ref 0)) (some (pD p)) v5 none) ⟨[], [.lst (left.map .int)], []⟩ = .ok (.int t) ⟨[], [.lst (left.map .int)], []⟩ := by
        refine W.eq ?_
        generalize hδ : E0 ns (some (.int n)) (some (.int hd)) (some (.ref 0)) (some (pD p)) v5 none = δ
        refine wE_W xA6 ?_
        subst hδ
        conv => whnf
        refine wOut_of (s_cell (n := 21) (k := 3)) ?_
        conv => whnf
        refine wNeed_of (by first | decide | omega | (simp; done) | (simp; omega)) ?_
        conv => whnf
        exact ⟨by rw [← et], rfl⟩
      have x7 : evE (callF prog 22) xA7 (E0 ns (some (.int n)) (some (.int hd)) (some (.ref 0)) (some (pD p)) v5 (some (.int t))) ⟨[], [.lst (left.map .int)], []⟩ = .ok (.int u) ⟨[], [.lst (left.map .int)], []⟩ := by
        refine W.eq ?_
        generalize hδ : E0 ns (some (.int n)) (some (.int hd)) (some (.ref 0)) (some (pD p)) v5 (some (.int t)) = δ
        refine wE_W xA7 ?_
        subst hδ
        conv => whnf
        refine wOut_of (s_cell (n := 21) (k := 3)) ?_
        conv => whnf
        refine wNeed_of (by first | decide | omega | (simp; done) | (simp; omega)) ?_
        conv => whnf
        refine wNeed_of (by first | decide | omega | (simp; done) | (simp; omega)) ?_
        conv => whnf
        exact ⟨by rw [← eu], rfl⟩
      have xt : W (evT (callF prog 22) tA7 (E0 ns (some (.int n)) (some (.int hd)) (some (.ref 0)) (some (pD p)) v5 (some (.int t))) ⟨[], [.lst (left.map .int)], []⟩) fun _ T => T = ⟨[], [.lst (left.map .int)], []⟩ := by
        generalize hδ : E0 ns (some (.int n)) (some (.int hd)) (some (.ref 0)) (some (pD p)) v5 (some (.int t)) = δ
        refine wT_W tA7 ?_
        subst hδ
        conv => whnf
        refine wOut_of (s_cell (n := 21) (k := 3)) ?_
        conv => whnf
        refine wNeed_of (by first | decide | omega | (simp; done) | (simp; omega)) ?_
        conv => whnf
        refine wNeed_of (by first | decide | omega | (simp; done) | (simp; omega)) ?_
        conv => whnf
      obtain ⟨b, T, eb, rfl⟩ := W.iff.mp xt
      show W (exS (callF prog 22) rA6 (E0 ns (some (.int n)) (some (.int hd)) (some (.ref 0)) (some (pD p)) v5 none) ⟨[], [.lst (left.map .int)], []⟩) Qt
      refine asg_step x6 ?_
      show W (exS (callF prog 22) (.ifS tA7 (.asg 6 xA7 .nil) .nil rV) (E0 ns (some (.int n)) (some (.int hd)) (some (.ref 0)) (some (pD p)) v5 (some (.int t))) ⟨[], [.lst (left.map .int)], []⟩) Qt
      rw [exS, eb, bind_ok]
      cases b with
      | false =>
        rw [if_neg (by simp), exS, bind_ok]
        exact fin t (by omega)
      | true =>
        rw [if_pos rfl, exS, x7, bind_ok, exS, bind_ok]
        exact fin u (by omega)
theorem law_true (ns : List Int) (h : ns.length ≤ 63) : W (callF prog 23 15 [.fix (ns.map .int)] ⟨[], [], []⟩) fun d _ => d = .bl true := by
  refine call_X (F := c_law) rfl rfl rfl ?_
  have m0 := Int.emod_nonneg (cellZ ns 0) (b := 6) (by decide)
  have m1 := Int.emod_lt_of_pos (cellZ ns 0) (b := 6) (by decide)
  obtain ⟨n, en⟩ : ∃ n : Nat, 2 + cellZ ns 0 % 6 = (n : Int) := ⟨(2 + cellZ ns 0 % 6).toNat, by omega⟩
  have hn : n ≤ 7 := by omega
  have hn2 : 2 ≤ n := by omega
  have npos : (0 : Int) < n := by omega
  have h0 := Int.emod_nonneg (cellZ ns 1) (b := n) (by omega)
  have h1 := Int.emod_lt_of_pos (cellZ ns 1) npos
  have x2 := la2 (ns := ns) npos
  generalize cellZ ns 1 % n = hd at h0 h1 x2
  show W (exS (callF prog 22) (.asg 1 xA1 (.asg 2 xA2 (.asg 3 xA3 (.asg 4 (.tup .nil) rA5)))) (E0 ns none none none none none none) ⟨[], [], []⟩) _
  refine asg_step (la1 en) ?_
  show W (exS (callF prog 22) (.asg 2 xA2 (.asg 3 xA3 (.asg 4 (.tup .nil) rA5))) (E0 ns (some (.int n)) none none none none none) ⟨[], [], []⟩) _
  refine asg_step x2 ?_
  show W (exS (callF prog 22) (.asg 3 xA3 (.asg 4 (.tup .nil) rA5)) (E0 ns (some (.int n)) (some (.int hd)) none none none none) ⟨[], [], []⟩) _
  have x3 := la3 (ns := ns) hn ⟨h0, h1⟩
  generalize hδ : E0 ns (some (.int n)) (some (.int hd)) none none none none = δ at x3 ⊢
  refine asg_step x3 ?_
  subst hδ
  show W (exS (callF prog 22) (.asg 4 (.tup .nil) rA5) (E0 ns (some (.int n)) (some (.int hd)) (some (.ref 0)) none none none) ⟨[], [.lst ((lef n hd).map .int)], []⟩) _
  refine asg_step (d := pD []) (S' := ⟨[], [.lst ((lef n hd).map .int)], []⟩) rfl ?_
  exact law_b (ns := ns) hn hn2 ⟨h0, h1⟩
end
section
open PySem R L2
theorem all_mk {l : PySem.W.OpenLaw} {w : World} {K : PySem.W.Frag} {h : Heap} {mg : Str → Option Value} {fa f1 f2 f3 f4 f5 f6 f7 f8 f9 f10 f11 f12 f13 f14 f15 f16 : Addr} (X : K.In h) (G : h.Ns mainGlobals mg) (hfa : mg "law" = some (.ref fa))
    {od1 an1 od2 an2 od3 an3 od4 an4 od5 an5 od6 an6 od7 an7 od8 an8 od9 an9 od10 an10 od11 an11 od12 an12 od13 an13 od14 an14 od15 an15 od16 an16 : Option Addr} {sl1 sl2 sl3 sl4 sl5 sl6 sl7 sl8 sl9 sl10 sl11 sl12 sl13 sl14 sl15 sl16 : Array (Option Value)} {oc1 kV1 dc1 pm1 ct1 oc2 kV2 dc2 pm2 cd2 ct2 oc3 kV3 dc3 pm3 cd3 ct3 oc4 kV4 dc4 pm4 cd4 ct4 oc5 kV5 dc5 pm5 cd5 ct5 oc6 kV6 dc6 pm6 cd6 ct6 oc7 kV7 dc7 pm7 cd7 ct7 oc8 kV8 dc8 pm8 cd8 ct8 oc9 kV9 dc9 pm9 cd9 ct9 oc10 kV10 dc10 pm10 cd10 ct10 oc11 kV11 dc11 pm11 cd11 ct11 oc12 kV12 dc12 pm12 cd12 ct12 oc13 kV13 dc13 pm13 cd13 ct13 oc14 kV14 dc14 pm14 cd14 ct14 oc15 kV15 dc15 pm15 cd15 ct15 oc16 kV16 dc16 pm16 cd16 ct16 : Value}
    {cc1 : Addr} (a1 : PySem.W.nsIn K mainGlobals "tally" = some (some (.ref f1))) (l1 : K.lookup f1 = some ⟨oc1, od1, .func (PySem.W.fnOf "tally" "tally" (defArgs py_tally) (defBody py_tally) (defScope py_tally) .none kV1 dc1 pm1 an1 (.ref cc1) ct1), sl1⟩) (c1 : PySem.W.codeIn K (.ref cc1) "tally" = true) (k1 : PySem.W.keepIn K (.ref f1) = true) (h1 : PySem.W.codeHdIn K cc1 16 = true)
    (a2 : PySem.W.nsIn K mainGlobals "most" = some (some (.ref f2))) (l2 : K.lookup f2 = some ⟨oc2, od2, .func (PySem.W.fnOf "most" "most" (defArgs py_most) (defBody py_most) (defScope py_most) .none kV2 dc2 pm2 an2 cd2 ct2), sl2⟩) (c2 : PySem.W.codeIn K cd2 "most" = true) (k2 : PySem.W.keepIn K (.ref f2) = true)
    (a3 : PySem.W.nsIn K mainGlobals "grown" = some (some (.ref f3))) (l3 : K.lookup f3 = some ⟨oc3, od3, .func (PySem.W.fnOf "grown" "grown" (defArgs py_grown) (defBody py_grown) (defScope py_grown) .none kV3 dc3 pm3 an3 cd3 ct3), sl3⟩) (c3 : PySem.W.codeIn K cd3 "grown" = true) (k3 : PySem.W.keepIn K (.ref f3) = true)
    (a4 : PySem.W.nsIn K mainGlobals "held_for" = some (some (.ref f4))) (l4 : K.lookup f4 = some ⟨oc4, od4, .func (PySem.W.fnOf "held_for" "held_for" (defArgs py_held_for) (defBody py_held_for) (defScope py_held_for) .none kV4 dc4 pm4 an4 cd4 ct4), sl4⟩) (c4 : PySem.W.codeIn K cd4 "held_for" = true) (k4 : PySem.W.keepIn K (.ref f4) = true)
    (a5 : PySem.W.nsIn K mainGlobals "grown_below" = some (some (.ref f5))) (l5 : K.lookup f5 = some ⟨oc5, od5, .func (PySem.W.fnOf "grown_below" "grown_below" (defArgs py_grown_below) (defBody py_grown_below) (defScope py_grown_below) .none kV5 dc5 pm5 an5 cd5 ct5), sl5⟩) (c5 : PySem.W.codeIn K cd5 "grown_below" = true) (k5 : PySem.W.keepIn K (.ref f5) = true)
    (a6 : PySem.W.nsIn K mainGlobals "_law_cell_at" = some (some (.ref f6))) (l6 : K.lookup f6 = some ⟨oc6, od6, .func (PySem.W.fnOf "_law_cell_at" "_law_cell_at" (defArgs py_law_cell_at) (defBody py_law_cell_at) (defScope py_law_cell_at) .none kV6 dc6 pm6 an6 cd6 ct6), sl6⟩) (c6 : PySem.W.codeIn K cd6 "_law_cell_at" = true) (k6 : PySem.W.keepIn K (.ref f6) = true)
    (a7 : PySem.W.nsIn K mainGlobals "_law_word" = some (some (.ref f7))) (l7 : K.lookup f7 = some ⟨oc7, od7, .func (PySem.W.fnOf "_law_word" "_law_word" (defArgs py_law_word) (defBody py_law_word) (defScope py_law_word) .none kV7 dc7 pm7 an7 cd7 ct7), sl7⟩) (c7 : PySem.W.codeIn K cd7 "_law_word" = true) (k7 : PySem.W.keepIn K (.ref f7) = true)
    (a8 : PySem.W.nsIn K mainGlobals "_law_paths_from" = some (some (.ref f8))) (l8 : K.lookup f8 = some ⟨oc8, od8, .func (PySem.W.fnOf "_law_paths_from" "_law_paths_from" (defArgs py_law_paths_from) (defBody py_law_paths_from) (defScope py_law_paths_from) .none kV8 dc8 pm8 an8 cd8 ct8), sl8⟩) (c8 : PySem.W.codeIn K cd8 "_law_paths_from" = true) (k8 : PySem.W.keepIn K (.ref f8) = true)
    (a9 : PySem.W.nsIn K mainGlobals "_law_digit" = some (some (.ref f9))) (l9 : K.lookup f9 = some ⟨oc9, od9, .func (PySem.W.fnOf "_law_digit" "_law_digit" (defArgs py_law_digit) (defBody py_law_digit) (defScope py_law_digit) .none kV9 dc9 pm9 an9 cd9 ct9), sl9⟩) (c9 : PySem.W.codeIn K cd9 "_law_digit" = true) (k9 : PySem.W.keepIn K (.ref f9) = true)
    (a10 : PySem.W.nsIn K mainGlobals "_law_small" = some (some (.ref f10))) (l10 : K.lookup f10 = some ⟨oc10, od10, .func (PySem.W.fnOf "_law_small" "_law_small" (defArgs py_law_small) (defBody py_law_small) (defScope py_law_small) .none kV10 dc10 pm10 an10 cd10 ct10), sl10⟩) (c10 : PySem.W.codeIn K cd10 "_law_small" = true) (k10 : PySem.W.keepIn K (.ref f10) = true)
    (a11 : PySem.W.nsIn K mainGlobals "_law_notes" = some (some (.ref f11))) (l11 : K.lookup f11 = some ⟨oc11, od11, .func (PySem.W.fnOf "_law_notes" "_law_notes" (defArgs py_law_notes) (defBody py_law_notes) (defScope py_law_notes) .none kV11 dc11 pm11 an11 cd11 ct11), sl11⟩) (c11 : PySem.W.codeIn K cd11 "_law_notes" = true) (k11 : PySem.W.keepIn K (.ref f11) = true)
    (a12 : PySem.W.nsIn K mainGlobals "_law_most" = some (some (.ref f12))) (l12 : K.lookup f12 = some ⟨oc12, od12, .func (PySem.W.fnOf "_law_most" "_law_most" (defArgs py_law_most) (defBody py_law_most) (defScope py_law_most) .none kV12 dc12 pm12 an12 cd12 ct12), sl12⟩) (c12 : PySem.W.codeIn K cd12 "_law_most" = true) (k12 : PySem.W.keepIn K (.ref f12) = true)
    (a13 : PySem.W.nsIn K mainGlobals "_law_whole" = some (some (.ref f13))) (l13 : K.lookup f13 = some ⟨oc13, od13, .func (PySem.W.fnOf "_law_whole" "_law_whole" (defArgs py_law_whole) (defBody py_law_whole) (defScope py_law_whole) .none kV13 dc13 pm13 an13 cd13 ct13), sl13⟩) (c13 : PySem.W.codeIn K cd13 "_law_whole" = true) (k13 : PySem.W.keepIn K (.ref f13) = true)
    (a14 : PySem.W.nsIn K mainGlobals "_law_is_tuple" = some (some (.ref f14))) (l14 : K.lookup f14 = some ⟨oc14, od14, .func (PySem.W.fnOf "_law_is_tuple" "_law_is_tuple" (defArgs py_law_is_tuple) (defBody py_law_is_tuple) (defScope py_law_is_tuple) .none kV14 dc14 pm14 an14 cd14 ct14), sl14⟩) (c14 : PySem.W.codeIn K cd14 "_law_is_tuple" = true) (k14 : PySem.W.keepIn K (.ref f14) = true)
    (a15 : PySem.W.nsIn K mainGlobals "_law_holds" = some (some (.ref f15))) (l15 : K.lookup f15 = some ⟨oc15, od15, .func (PySem.W.fnOf "_law_holds" "_law_holds" (defArgs py_law_holds) (defBody py_law_holds) (defScope py_law_holds) .none kV15 dc15 pm15 an15 cd15 ct15), sl15⟩) (c15 : PySem.W.codeIn K cd15 "_law_holds" = true) (k15 : PySem.W.keepIn K (.ref f15) = true)
    (a16 : PySem.W.nsIn K mainGlobals "law" = some (some (.ref f16))) (l16 : K.lookup f16 = some ⟨oc16, od16, .func (PySem.W.fnOf "law" "law" (defArgs py_law) (defBody py_law) (defScope py_law) .none kV16 dc16 pm16 an16 cd16 ct16), sl16⟩) (c16 : PySem.W.codeIn K cd16 "law" = true) (k16 : PySem.W.keepIn K (.ref f16) = true)
    (z_all : PySem.W.nsIn K mainGlobals "all" = some none)
    (z_bool : PySem.W.nsIn K mainGlobals "bool" = some none)
    (z_dict : PySem.W.nsIn K mainGlobals "dict" = some none)
    (z_int : PySem.W.nsIn K mainGlobals "int" = some none)
    (z_isinstance : PySem.W.nsIn K mainGlobals "isinstance" = some none)
    (z_len : PySem.W.nsIn K mainGlobals "len" = some none)
    (z_min : PySem.W.nsIn K mainGlobals "min" = some none)
    (z_range : PySem.W.nsIn K mainGlobals "range" = some none)
    (z_sorted : PySem.W.nsIn K mainGlobals "sorted" = some none)
    (z_tuple : PySem.W.nsIn K mainGlobals "tuple" = some none)
    {t_STILL : Tok} (q_STILL : PySem.W.nsIn K mainGlobals "STILL" = some (some (.int 0 t_STILL)))
    : ∃ fd : FuncData, (∀ (s : Shared) (v : Value), BindsTo s fd ⟨[v], []⟩ [("_law_script", v)]) ∧ ∀ base : Heap, K.In base → base.Ns mainGlobals mg → BM mg base → FnOk l.prog w K mg base CX0 23 fa fd ["_law_script"] (spF K (callF prog 23) 15) := by
  have e := hfa.symm.trans (PySem.W.mg_of X G a16)
  cases e
  have F1 := funV_mk (st := py_tally) l1 c1 k1
  have m1 := PySem.W.mg_of X G a1
  have b1_0 := F1.binds (ps := ["words"]) fun _ _ _ _ _ _ us hl => match us, hl with | [_], _ => rfl
  have F2 := funV_mk (st := py_most) l2 c2 k2
  have m2 := PySem.W.mg_of X G a2
  have b2_0 := F2.binds (ps := ["words"]) fun _ _ _ _ _ _ us hl => match us, hl with | [_], _ => rfl
  have F3 := funV_mk (st := py_grown) l3 c3 k3
  have m3 := PySem.W.mg_of X G a3
  have b3_0 := F3.binds (ps := ["many", "rounds", "hand", "path", "notes"]) fun _ _ _ _ _ _ us hl => match us, hl with | [_, _, _, _, _], _ => rfl
  have F4 := funV_mk (st := py_held_for) l4 c4 k4
  have m4 := PySem.W.mg_of X G a4
  have b4_0 := F4.binds (ps := ["path", "notes"]) fun _ _ _ _ _ _ us hl => match us, hl with | [_, _], _ => rfl
  have F5 := funV_mk (st := py_grown_below) l5 c5 k5
  have m5 := PySem.W.mg_of X G a5
  have b5_0 := F5.binds (ps := ["many", "rounds", "hand", "path", "notes"]) fun _ _ _ _ _ _ us hl => match us, hl with | [_, _, _, _, _], _ => rfl
  have F6 := funV_mk (st := py_law_cell_at) l6 c6 k6
  have m6 := PySem.W.mg_of X G a6
  have b6_0 := F6.binds (ps := ["_law_script", "_law_k"]) fun _ _ _ _ _ _ us hl => match us, hl with | [_, _], _ => rfl
  have F7 := funV_mk (st := py_law_word) l7 c7 k7
  have m7 := PySem.W.mg_of X G a7
  have b7_0 := F7.binds (ps := ["_law_cell"]) fun _ _ _ _ _ _ us hl => match us, hl with | [_], _ => rfl
  have F8 := funV_mk (st := py_law_paths_from) l8 c8 k8
  have m8 := PySem.W.mg_of X G a8
  have b8_0 := F8.binds (ps := ["_law_path", "_law_many", "_law_turns", "_law_hand"]) fun _ _ _ _ _ _ us hl => match us, hl with | [_, _, _, _], _ => rfl
  have F9 := funV_mk (st := py_law_digit) l9 c9 k9
  have m9 := PySem.W.mg_of X G a9
  have b9_0 := F9.binds (ps := ["_law_script", "_law_at", "_law_k"]) fun _ _ _ _ _ _ us hl => match us, hl with | [_, _, _], _ => rfl
  have F10 := funV_mk (st := py_law_small) l10 c10 k10
  have m10 := PySem.W.mg_of X G a10
  have b10_0 := F10.binds (ps := ["_law_digit_here", "_law_word_here"]) fun _ _ _ _ _ _ us hl => match us, hl with | [_, _], _ => rfl
  have F11 := funV_mk (st := py_law_notes) l11 c11 k11
  have m11 := PySem.W.mg_of X G a11
  have b11_0 := F11.binds (ps := ["_law_script", "_law_some", "_law_hand"]) fun _ _ _ _ _ _ us hl => match us, hl with | [_, _, _], _ => rfl
  have F12 := funV_mk (st := py_law_most) l12 c12 k12
  have m12 := PySem.W.mg_of X G a12
  have b12_0 := F12.binds (ps := ["_law_words"]) fun _ _ _ _ _ _ us hl => match us, hl with | [_], _ => rfl
  have F13 := funV_mk (st := py_law_whole) l13 c13 k13
  have m13 := PySem.W.mg_of X G a13
  have b13_0 := F13.binds (ps := ["_law_found"]) fun _ _ _ _ _ _ us hl => match us, hl with | [_], _ => rfl
  have F14 := funV_mk (st := py_law_is_tuple) l14 c14 k14
  have m14 := PySem.W.mg_of X G a14
  have b14_0 := F14.binds (ps := ["_law_found", "_law_due"]) fun _ _ _ _ _ _ us hl => match us, hl with | [_, _], _ => rfl
  have F15 := funV_mk (st := py_law_holds) l15 c15 k15
  have m15 := PySem.W.mg_of X G a15
  have b15_0 := F15.binds (ps := ["_law_tree", "_law_many", "_law_turns", "_law_hand", "_law_path", "_law_notes_here"]) fun _ _ _ _ _ _ us hl => match us, hl with | [_, _, _, _, _, _], _ => rfl
  have F16 := funV_mk (st := py_law) l16 c16 k16
  have m16 := PySem.W.mg_of X G a16
  have b16_0 := F16.binds (ps := ["_law_script"]) fun _ _ _ _ _ _ us hl => match us, hl with | [_], _ => rfl
  have hb : ∀ x, tab.blt.contains x = true → mg x = none := by
    intro x hx
    simp only [tab, List.contains_iff_mem, List.mem_cons, List.not_mem_nil, or_false] at hx
    rcases hx with rfl | rfl | rfl | rfl | rfl | rfl | rfl | rfl | rfl | rfl
    · exact PySem.W.mg_none_of X G z_all
    · exact PySem.W.mg_none_of X G z_bool
    · exact PySem.W.mg_none_of X G z_dict
    · exact PySem.W.mg_none_of X G z_int
    · exact PySem.W.mg_none_of X G z_isinstance
    · exact PySem.W.mg_none_of X G z_len
    · exact PySem.W.mg_none_of X G z_min
    · exact PySem.W.mg_none_of X G z_range
    · exact PySem.W.mg_none_of X G z_sorted
    · exact PySem.W.mg_none_of X G z_tuple
  have hc : ∀ x d, tab.cons.lookup x = some d → scalD d = true ∧ ∃ u, mg x = some u ∧ RelV (sV d) u := by
    intro x d hx
    have hm := PySem.mem_of_lookup hx
    simp only [tab, List.mem_cons, List.not_mem_nil, or_false, Prod.mk.injEq] at hm
    rcases hm with ⟨rfl, rfl⟩
    · exact ⟨rfl, _, PySem.W.mg_of X G q_STILL, ⟨_, rfl⟩⟩
  have hd : ∀ base : Heap, BM mg base → ∀ fi x ps nd, tab.fns[fi]? = some (x, ps, nd) → DefOk K mg tab prog fi x ps nd ∨ PrimOk l.prog w K mg base prog fi x ps nd := by
    intro base bm fi x ps nd hf
    match fi, hf with
    | 0, hf => cases hf; exact .inr ⟨⟨c_tally, .tally, _, _, rfl, rfl, rfl, m1, k1, (fun j hj => by cases Nat.le_zero.mp hj; exact b1_0), fun n hn => tally_ok l1 c1 h1 ts_tally bm (by decide +kernel) (fun p hp _ => by simp only [Mks.ts, mks, List.mem_cons, List.not_mem_nil, or_false] at hp; subst hp; decide +kernel) (PySem.W.mg_none_of X G z_sorted) rfl rfl rfl hn⟩⟩
    | 1, hf => cases hf; exact .inl ⟨⟨c_most, _, py_most, _, _, _, _, rfl, rfl, F2, sc_most, ck_most, rfl, rfl, m2, (fun j hj => by cases Nat.le_zero.mp hj; exact b2_0)⟩⟩
    | 2, hf => cases hf; exact .inl ⟨⟨c_grown, _, py_grown, _, _, _, _, rfl, rfl, F3, sc_grown, ck_grown, rfl, rfl, m3, (fun j hj => by cases Nat.le_zero.mp hj; exact b3_0)⟩⟩
    | 3, hf => cases hf; exact .inl ⟨⟨c_held_for, _, py_held_for, _, _, _, _, rfl, rfl, F4, sc_held_for, ck_held_for, rfl, rfl, m4, (fun j hj => by cases Nat.le_zero.mp hj; exact b4_0)⟩⟩
    | 4, hf => cases hf; exact .inl ⟨⟨c_grown_below, _, py_grown_below, _, _, _, _, rfl, rfl, F5, sc_grown_below, ck_grown_below, rfl, rfl, m5, (fun j hj => by cases Nat.le_zero.mp hj; exact b5_0)⟩⟩
    | 5, hf => cases hf; exact .inl ⟨⟨c_law_cell_at, _, py_law_cell_at, _, _, _, _, rfl, rfl, F6, sc_law_cell_at, ck_law_cell_at, rfl, rfl, m6, (fun j hj => by cases Nat.le_zero.mp hj; exact b6_0)⟩⟩
    | 6, hf => cases hf; exact .inl ⟨⟨c_law_word, _, py_law_word, _, _, _, _, rfl, rfl, F7, sc_law_word, ck_law_word, rfl, rfl, m7, (fun j hj => by cases Nat.le_zero.mp hj; exact b7_0)⟩⟩
    | 7, hf => cases hf; exact .inl ⟨⟨c_law_paths_from, _, py_law_paths_from, _, _, _, _, rfl, rfl, F8, sc_law_paths_from, ck_law_paths_from, rfl, rfl, m8, (fun j hj => by cases Nat.le_zero.mp hj; exact b8_0)⟩⟩
    | 8, hf => cases hf; exact .inl ⟨⟨c_law_digit, _, py_law_digit, _, _, _, _, rfl, rfl, F9, sc_law_digit, ck_law_digit, rfl, rfl, m9, (fun j hj => by cases Nat.le_zero.mp hj; exact b9_0)⟩⟩
    | 9, hf => cases hf; exact .inl ⟨⟨c_law_small, _, py_law_small, _, _, _, _, rfl, rfl, F10, sc_law_small, ck_law_small, rfl, rfl, m10, (fun j hj => by cases Nat.le_zero.mp hj; exact b10_0)⟩⟩
    | 10, hf => cases hf; exact .inl ⟨⟨c_law_notes, _, py_law_notes, _, _, _, _, rfl, rfl, F11, sc_law_notes, ck_law_notes, rfl, rfl, m11, (fun j hj => by cases Nat.le_zero.mp hj; exact b11_0)⟩⟩
    | 11, hf => cases hf; exact .inl ⟨⟨c_law_most, _, py_law_most, _, _, _, _, rfl, rfl, F12, sc_law_most, ck_law_most, rfl, rfl, m12, (fun j hj => by cases Nat.le_zero.mp hj; exact b12_0)⟩⟩
    | 12, hf => cases hf; exact .inl ⟨⟨c_law_whole, _, py_law_whole, _, _, _, _, rfl, rfl, F13, sc_law_whole, ck_law_whole, rfl, rfl, m13, (fun j hj => by cases Nat.le_zero.mp hj; exact b13_0)⟩⟩
    | 13, hf => cases hf; exact .inl ⟨⟨c_law_is_tuple, _, py_law_is_tuple, _, _, _, _, rfl, rfl, F14, sc_law_is_tuple, ck_law_is_tuple, rfl, rfl, m14, (fun j hj => by cases Nat.le_zero.mp hj; exact b14_0)⟩⟩
    | 14, hf => cases hf; exact .inl ⟨⟨c_law_holds, _, py_law_holds, _, _, _, _, rfl, rfl, F15, sc_law_holds, ck_law_holds, rfl, rfl, m15, (fun j hj => by cases Nat.le_zero.mp hj; exact b15_0)⟩⟩
    | 15, hf => cases hf; exact .inl ⟨⟨c_law, _, py_law, _, _, _, _, rfl, rfl, F16, sc_law, ck_law, rfl, rfl, m16, (fun j hj => by cases Nat.le_zero.mp hj; exact b16_0)⟩⟩
    | n + 16, hf => simp [tab] at hf
  refine ⟨PySem.W.fnOf "law" "law" (defArgs py_law) (defBody py_law) (defScope py_law) .none kV16 dc16 pm16 an16 cd16 ct16, fun s v => .of_eq rfl, fun base _ _ bm => ?_⟩
  exact def_ok (tab_ok hb hc (hd base bm) 22) F16 rfl sc_law ck_law rfl rfl
end
end K14
open PySem PySem.W PyProof.Rows
set_option maxRecDepth 100000 in
set_option maxHeartbeats 0 in
theorem PySem.Challenge.cw_traitorround_k14_a_tree_grown_holds : PySem.Challenge.rw_traitorround_k14_a_tree_grown.Holds := by
  w_on; o_law; k_head; (case hw => w_witness2)
  k_fill
  refine R.walk_ofT (l := PySem.Challenge.rw_traitorround_k14_a_tree_grown) (n := 63) (k := 23) (x := "_law_script") (sp := fun w => R.spF _ (R.callF K14.prog 23) 15) rfl (by decide) rfl ⟨rfl, by decide, by decide⟩ (fun w h Y => PySem.W.km_in_of Y) ?hT ?hK ?F (fun _ _ a ns hl hx tb => R.law_spT hx tb (K14.law_true ns hl))
  case hT =>
    intro w h Y p hp
    simp only [R.Mks.ts, K14.mks, List.mem_cons, List.not_mem_nil, or_false] at hp
    subst hp
    exact PySem.W.km_tabs_of Y 16 (by simp)
  case hK =>
    intro w p hp
    simp only [R.Mks.ts, K14.mks, List.mem_cons, List.not_mem_nil, or_false] at hp
    subst hp
    exact ⟨by with_unfolding_all rfl, 20, by with_unfolding_all rfl⟩
  case F =>
    intro w mg fa h KX G hmg
    refine' K14.all_mk KX G hmg ?a1 ?l1 ?c1 ?k1 ?h1 ?a2 ?l2 ?c2 ?k2 ?a3 ?l3 ?c3 ?k3 ?a4 ?l4 ?c4 ?k4 ?a5 ?l5 ?c5 ?k5 ?a6 ?l6 ?c6 ?k6 ?a7 ?l7 ?c7 ?k7 ?a8 ?l8 ?c8 ?k8 ?a9 ?l9 ?c9 ?k9 ?a10 ?l10 ?c10 ?k10 ?a11 ?l11 ?c11 ?k11 ?a12 ?l12 ?c12 ?k12 ?a13 ?l13 ?c13 ?k13 ?a14 ?l14 ?c14 ?k14 ?a15 ?l15 ?c15 ?k15 ?a16 ?l16 ?c16 ?k16 ?z_all ?z_bool ?z_dict ?z_int ?z_isinstance ?z_len ?z_min ?z_range ?z_sorted ?z_tuple ?q_STILL
    (case a1 => k_is)
    (case l1 => k_is)
    (case c1 => k_is)
    (case k1 => k_is)
    (case h1 => with_unfolding_all rfl)
    (case a2 => k_is)
    (case l2 => k_is)
    (case c2 => k_is)
    (case k2 => k_is)
    (case a3 => k_is)
    (case l3 => k_is)
    (case c3 => k_is)
    (case k3 => k_is)
    (case a4 => k_is)
    (case l4 => k_is)
    (case c4 => k_is)
    (case k4 => k_is)
    (case a5 => k_is)
    (case l5 => k_is)
    (case c5 => k_is)
    (case k5 => k_is)
    (case a6 => k_is)
    (case l6 => k_is)
    (case c6 => k_is)
    (case k6 => k_is)
    (case a7 => k_is)
    (case l7 => k_is)
    (case c7 => k_is)
    (case k7 => k_is)
    (case a8 => k_is)
    (case l8 => k_is)
    (case c8 => k_is)
    (case k8 => k_is)
    (case a9 => k_is)
    (case l9 => k_is)
    (case c9 => k_is)
    (case k9 => k_is)
    (case a10 => k_is)
    (case l10 => k_is)
    (case c10 => k_is)
    (case k10 => k_is)
    (case a11 => k_is)
    (case l11 => k_is)
    (case c11 => k_is)
    (case k11 => k_is)
    (case a12 => k_is)
    (case l12 => k_is)
    (case c12 => k_is)
    (case k12 => k_is)
    (case a13 => k_is)
    (case l13 => k_is)
    (case c13 => k_is)
    (case k13 => k_is)
    (case a14 => k_is)
    (case l14 => k_is)
    (case c14 => k_is)
    (case k14 => k_is)
    (case a15 => k_is)
    (case l15 => k_is)
    (case c15 => k_is)
    (case k15 => k_is)
    (case a16 => k_is)
    (case l16 => k_is)
    (case c16 => k_is)
    (case k16 => k_is)
    (case z_all => k_is)
    (case z_bool => k_is)
    (case z_dict => k_is)
    (case z_int => k_is)
    (case z_isinstance => k_is)
    (case z_len => k_is)
    (case z_min => k_is)
    (case z_range => k_is)
    (case z_sorted => k_is)
    (case z_tuple => k_is)
    (case q_STILL => k_is)

end
